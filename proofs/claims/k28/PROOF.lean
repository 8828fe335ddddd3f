import PyProof.Rows.All
import Wide.All
import OpenK.AllK
import Wide.FinOn
import HandS.ForMost
import HandS.ExcValue
import HandS.TupAny
import HandS.Flow
import HandS.WideMore
import HandS.Small
import HandS.IsInst
import HandS.More
import KE.SortData
import HandS.Zip
import HandS.DictComp
import KE.GoesEnum
import HandS.NoneIn
import HandS.StrMore
import HandS.SortKw
import HandS.RevRange
import HandS.Conv
import KE.DataMinMax
import PyProof.TupleOfStr
import HandS.Style
import PyProof.CompUse
import HandS.Exc
import HandS.ExcOwn
import HandS.ExcIs
import HandS.WordsExc
import PySem.Challenge.RW_anylatency_k28_fewest_made_quick
import KE.OsSortAny
set_option Elab.async false
set_option linter.all false
set_option maxRecDepth 100000
set_option maxHeartbeats 2000000
set_option autoImplicit false
/-! Iv: mirrors of a program's text as plain functions over values, and what binds them to the text. -/
namespace Iv
open PySem L2

/-- the greatest length of what is made: never unfolded but by the kernel -/
@[irreducible] def lim : Nat := 100000
theorem lim_eq : lim = 100000 := by unfold lim; rfl
/-! ### values and objects of the mirror -/
inductive IV where
  | non | bl (b : Bool) | int (i : Int) | str (x : Str) | tup (xs : List IV) | fl (xs : List IV) | kl (xs : List IV) | ref (n : Nat) | exo
inductive IO where
  | lst (xs : List IV) | dic (kvs : List (Key × IV)) | fdc (kvs : List (Key × IV))
abbrev IH := List IO
structure Exn where
  cls : Str
  args : List (Str × IV)
inductive Out (α : Type) where
  | ok (a : α) | ex (e : Exn)
def M (α : Type) := IH → Option (Out α × IH)
def M.pure {α : Type} (a : α) : M α := fun h => some (.ok a, h)
def M.bind {α β : Type} (m : M α) (k : α → M β) : M β := fun h => match m h with
  | none => none
  | some (.ok a, h1) => k a h1
  | some (.ex e, h1) => some (.ex e, h1)
instance : Monad M where
  pure := M.pure
  bind := M.bind
def stuck {α : Type} : M α := fun _ => none
theorem bind_eq {α β : Type} (m : M α) (k : α → M β) : (m >>= k) = M.bind m k := rfl
theorem pure_eq {α : Type} (a : α) : (Pure.pure a : M α) = M.pure a := rfl
abbrev Env := List (Option IV)

/-! ### what stands for what -/
/-- which lists of the written part may be read, whatever the heap -/
class KL where
  p : Addr → List V → Prop
  /-- own classes of errors, of which objects may be values -/
  ex : Addr → Prop
variable [KL]
mutual
inductive RV (ι : List Addr) (H : Hp) : V → IV → Prop where
  | non : RV ι H .non .non
  | bl (b : Bool) : RV ι H (.bl b) (.bl b)
  | int (i : Int) : RV ι H (.int i) (.int i)
  | str (x : Str) : RV ι H (.str x) (.str x)
  | tup {a : Addr} {vs : List V} {xs : List IV} : H a = some (.tup vs) → RVs ι H vs xs → RV ι H (.ref a) (.tup xs)
  | fl {a : Addr} {o : Obj} {vs : List V} {xs : List IV} : H a = some (.frz o (.lst vs)) → a ∉ ι → RVs ι H vs xs → RV ι H (.ref a) (.fl xs)
  | kl {a : Addr} {vs : List V} {xs : List IV} : KL.p a vs → RVs ι H vs xs → RV ι H (.ref a) (.kl xs)
  | ref {n : Nat} {a : Addr} : ι[n]? = some a → RV ι H (.ref a) (.ref n)
  | exo {a C : Addr} : H a = some (ExO (.ref C) a) → a ∉ ι → KL.ex C → RV ι H (.ref a) .exo
inductive RVs (ι : List Addr) (H : Hp) : List V → List IV → Prop where
  | nil : RVs ι H [] []
  | cons {v : V} {x : IV} {vs : List V} {xs : List IV} : RV ι H v x → RVs ι H vs xs → RVs ι H (v :: vs) (x :: xs)
end
inductive RKs (ι : List Addr) (H : Hp) : List (Key × V) → List (Key × IV) → Prop where
  | nil : RKs ι H [] []
  | cons {k : Key} {v : V} {x : IV} {vs : List (Key × V)} {xs : List (Key × IV)} : RV ι H v x → RKs ι H vs xs → RKs ι H ((k, v) :: vs) ((k, x) :: xs)
def RO (ι : List Addr) (H : Hp) (a : Addr) : IO → Prop
  | .lst xs => ∃ vs, H a = some (.lst vs) ∧ RVs ι H vs xs
  | .dic kvs => ∃ ks, H a = some (.dK ks) ∧ RKs ι H ks kvs
  | .fdc kvs => ∃ ob ks, H a = some (.frz ob (.dK ks)) ∧ RKs ι H ks kvs
structure Rel (ι : List Addr) (h : IH) (H : Hp) : Prop where
  len : ι.length = h.length
  nd : ι.Nodup
  obj : ∀ (n : Nat) (o : IO) (a : Addr), h[n]? = some o → ι[n]? = some a → RO ι H a o
structure Fk (ι : List Addr) (H : Hp) (ι' : List Addr) (H' : Hp) : Prop where
  pre : ι <+: ι'
  keep : ∀ a o, H a = some o → a ∉ ι → H' a = some o ∧ a ∉ ι'
/-- .. and what is locked stays as it is -/
structure Fr (ι : List Addr) (H : Hp) (ι' : List Addr) (H' : Hp) : Prop extends Fk ι H ι' H' where
  frz : ∀ a o u, H a = some (.frz o u) → H' a = some (.frz o u)
def NF (H : Hp) (a : Addr) : Prop := ∀ o u, H a ≠ some (.frz o u)
theorem nf_lst {H : Hp} {a : Addr} {vs : List V} (e : H a = some (.lst vs)) : NF H a := fun o u z => by rw [e] at z; cases z
theorem nf_dk {H : Hp} {a : Addr} {vs : List (Key × V)} (e : H a = some (.dK vs)) : NF H a := fun o u z => by rw [e] at z; cases z

section
variable {ι ι' ι2 : List Addr} {h h' : IH} {H H' H2 : Hp}
theorem Fr.refl (ι : List Addr) (H : Hp) : Fr ι H ι H := ⟨⟨List.prefix_refl _, fun _ _ e n => ⟨e, n⟩⟩, fun _ _ _ e => e⟩
theorem Fr.trans (a : Fr ι H ι' H') (b : Fr ι' H' ι2 H2) : Fr ι H ι2 H2 :=
  ⟨⟨a.pre.trans b.pre, fun c o e n => let ⟨e1, n1⟩ := a.keep c o e n; b.keep c o e1 n1⟩, fun c o u e => b.frz c o u (a.frz c o u e)⟩
theorem Rel.at (R : Rel ι h H) {a : Addr} (ha : a ∈ ι) : ∃ (n : Nat) (o : IO), ι[n]? = some a ∧ h[n]? = some o ∧ RO ι H a o := by
  obtain ⟨n, hn⟩ := List.getElem?_of_mem ha
  have hl : n < ι.length := (List.getElem?_eq_some_iff.mp hn).1
  have hl' : n < h.length := by rw [← R.len]; exact hl
  have hh : h[n]? = some h[n] := by simp [hl']
  exact ⟨n, _, hn, hh, R.obj n _ a hh hn⟩
theorem Rel.tup_out (R : Rel ι h H) {a : Addr} {vs : List V} (e : H a = some (.tup vs)) : a ∉ ι := fun ha => by
  obtain ⟨n, o, _, _, r⟩ := R.at ha
  cases o with
  | lst xs => obtain ⟨_, e2, _⟩ := r; rw [e] at e2; cases e2
  | dic kvs => obtain ⟨_, e2, _⟩ := r; rw [e] at e2; cases e2
  | fdc kvs => obtain ⟨_, _, e2, _⟩ := r; rw [e] at e2; cases e2
theorem Rel.fresh_out (R : Rel ι h H) {a : Addr} (e : H a = none) : a ∉ ι := fun ha => by
  obtain ⟨n, o, _, _, r⟩ := R.at ha
  cases o with
  | lst xs => obtain ⟨_, e2, _⟩ := r; rw [e] at e2; cases e2
  | dic kvs => obtain ⟨_, e2, _⟩ := r; rw [e] at e2; cases e2
  | fdc kvs => obtain ⟨_, _, e2, _⟩ := r; rw [e] at e2; cases e2
theorem pre_get {α : Type} {l l' : List α} (p : l <+: l') {n : Nat} {a : α} (h : l[n]? = some a) : l'[n]? = some a := by
  obtain ⟨t, rfl⟩ := p
  have hl : n < l.length := (List.getElem?_eq_some_iff.mp h).1
  rw [List.getElem?_append_left hl]; exact h
mutual
theorem RV.monok (T : ∀ a vs, H a = some (.tup vs) → a ∉ ι) (F : Fk ι H ι' H') : ∀ {x : IV} {v : V}, RV ι H v x → RV ι' H' v x
  | .non, _, .non => .non
  | .bl _, _, .bl b => .bl b
  | .int _, _, .int i => .int i
  | .str _, _, .str x => .str x
  | .tup _, _, .tup e r => .tup (F.keep _ _ e (T _ _ e)).1 (RVs.monok T F r)
  | .fl _, _, .fl e n r => .fl (F.keep _ _ e n).1 (F.keep _ _ e n).2 (RVs.monok T F r)
  | .kl _, _, .kl e r => .kl e (RVs.monok T F r)
  | .ref _, _, .ref e => .ref (pre_get F.pre e)
  | .exo, _, .exo e n k => .exo (F.keep _ _ e n).1 (F.keep _ _ e n).2 k
theorem RVs.monok (T : ∀ a vs, H a = some (.tup vs) → a ∉ ι) (F : Fk ι H ι' H') : ∀ {xs : List IV} {vs : List V}, RVs ι H vs xs → RVs ι' H' vs xs
  | [], _, .nil => .nil
  | _ :: _, _, .cons a r => .cons (RV.monok T F a) (RVs.monok T F r)
end
theorem Rel.monok {x : IV} {v : V} (R : Rel ι h H) (F : Fk ι H ι' H') (r : RV ι H v x) : RV ι' H' v x := RV.monok (fun _ _ e => R.tup_out e) F r
theorem Rel.monosk {x : List IV} {v : List V} (R : Rel ι h H) (F : Fk ι H ι' H') (r : RVs ι H v x) : RVs ι' H' v x := RVs.monok (fun _ _ e => R.tup_out e) F r
theorem RKs.monok (R : Rel ι h H) (F : Fk ι H ι' H') {x : List (Key × IV)} {v : List (Key × V)} (r : RKs ι H v x) : RKs ι' H' v x := by
  induction r with
  | nil => exact .nil
  | cons a _ ih => exact .cons (R.monok F a) ih
theorem RO.monok (R : Rel ι h H) (F : Fk ι H ι' H') {a : Addr} {o : IO} (e : H' a = H a) (r : RO ι H a o) : RO ι' H' a o := by
  cases o with
  | lst xs => obtain ⟨vs, e1, r⟩ := r; exact ⟨vs, e.trans e1, R.monosk F r⟩
  | dic kvs => obtain ⟨vs, e1, r⟩ := r; exact ⟨vs, e.trans e1, RKs.monok R F r⟩
  | fdc kvs => obtain ⟨ob, vs, e1, r⟩ := r; exact ⟨ob, vs, e.trans e1, RKs.monok R F r⟩
theorem Rel.mono {x : IV} {v : V} (R : Rel ι h H) (F : Fr ι H ι' H') (r : RV ι H v x) : RV ι' H' v x := R.monok F.toFk r
theorem Rel.monos {x : List IV} {v : List V} (R : Rel ι h H) (F : Fr ι H ι' H') (r : RVs ι H v x) : RVs ι' H' v x := R.monosk F.toFk r
theorem RKs.mono (R : Rel ι h H) (F : Fr ι H ι' H') {x : List (Key × IV)} {v : List (Key × V)} (r : RKs ι H v x) : RKs ι' H' v x := RKs.monok R F.toFk r
theorem RO.mono (R : Rel ι h H) (F : Fr ι H ι' H') {a : Addr} {o : IO} (e : H' a = H a) (r : RO ι H a o) : RO ι' H' a o := RO.monok R F.toFk e r
theorem Rel.lt (R : Rel ι h H) {n : Nat} {o : IO} (e : h[n]? = some o) : ∃ a, ι[n]? = some a := by
  have hl : n < h.length := (List.getElem?_eq_some_iff.mp e).1
  exact ⟨ι[n]'(by rw [R.len]; exact hl), by simp [R.len, hl]⟩
theorem Rel.inj (R : Rel ι h H) {n m : Nat} {a : Addr} (e1 : ι[n]? = some a) (e2 : ι[m]? = some a) : n = m := by
  obtain ⟨h1, e1⟩ := List.getElem?_eq_some_iff.mp e1
  obtain ⟨h2, e2⟩ := List.getElem?_eq_some_iff.mp e2
  exact (List.getElem_inj R.nd).mp (e1.trans e2.symm)

/-- an immutable object is made -/
theorem fr_new {p : Addr} {o : HO} (hp : H p = none) : Fr ι H ι (upd H p o) := ⟨⟨List.prefix_refl _, fun a u e n => ⟨by rw [upd_ne (ne_of_none e hp)]; exact e, n⟩⟩, fun a o u e => by rw [upd_ne (ne_of_none e hp)]; exact e⟩
theorem Rel.new (R : Rel ι h H) {p : Addr} {o : HO} (hp : H p = none) : Rel ι h (upd H p o) := ⟨R.len, R.nd, fun n u a e1 e2 => by
  refine RO.mono R (fr_new hp) ?_ (R.obj n u a e1 e2)
  refine upd_ne fun z => ?_
  subst z
  exact R.fresh_out hp (List.mem_of_getElem? e2)⟩
theorem fr_push {p : Addr} {o : HO} (hp : H p = none) : Fr ι H (ι ++ [p]) (upd H p o) := ⟨⟨List.prefix_append _ _, fun a u e n => ⟨by rw [upd_ne (ne_of_none e hp)]; exact e, fun z => by
  rcases List.mem_append.mp z with z | z
  · exact n z
  · exact ne_of_none e hp (List.mem_singleton.mp z)⟩⟩, fun a o u e => by rw [upd_ne (ne_of_none e hp)]; exact e⟩
/-- an object of the mirror is made -/
theorem Rel.push (R : Rel ι h H) {p : Addr} {o : HO} {u : IO} (hp : H p = none) (new : RO (ι ++ [p]) (upd H p o) p u) : Rel (ι ++ [p]) (h ++ [u]) (upd H p o) := by
  have hn := R.fresh_out hp
  refine ⟨by simp [R.len], by rw [List.nodup_append]; exact ⟨R.nd, by simp, fun a ha b hb e => hn (by rw [List.mem_singleton.mp hb] at e; subst e; exact ha)⟩, fun n w a e1 e2 => ?_⟩
  by_cases hl : n < h.length
  · rw [List.getElem?_append_left hl] at e1
    rw [List.getElem?_append_left (by rw [R.len]; exact hl)] at e2
    exact RO.mono R (fr_push hp) (upd_ne fun z => hn (by rw [← z]; exact List.mem_of_getElem? e2)) (R.obj n w a e1 e2)
  · have hl2 : n < (h ++ [u]).length := (List.getElem?_eq_some_iff.mp e1).1
    have en : n = h.length := by rw [List.length_append, List.length_singleton] at hl2; omega
    subst en
    rw [List.getElem?_append_right (Nat.le_refl _), Nat.sub_self] at e1
    rw [← R.len, List.getElem?_append_right (Nat.le_refl _), Nat.sub_self] at e2
    cases e1; cases e2
    exact new
theorem fk_set {a : Addr} {o : HO} (ha : a ∈ ι) : Fk ι H ι (upd H a o) := ⟨List.prefix_refl _, fun b u e n => ⟨by rw [upd_ne (fun z => n (by rw [z]; exact ha))]; exact e, n⟩⟩
theorem fr_set {a : Addr} {o : HO} (ha : a ∈ ι) (nf : NF H a) : Fr ι H ι (upd H a o) := ⟨fk_set ha, fun b u w e => by rw [upd_ne (fun z => nf u w (by rw [← z]; exact e))]; exact e⟩
/-- an object of the mirror is changed -/
theorem Rel.set (R : Rel ι h H) {n : Nat} {a : Addr} {o : HO} {u : IO} (ha : ι[n]? = some a) (new : RO ι (upd H a o) a u) : Rel ι (h.set n u) (upd H a o) := by
  have hm := List.mem_of_getElem? ha
  refine ⟨by simp [R.len], R.nd, fun m w b e1 e2 => ?_⟩
  by_cases hmn : n = m
  · subst hmn
    rw [ha] at e2; cases e2
    have hl : n < h.length := by
      have := (List.getElem?_eq_some_iff.mp e1).1; rwa [List.length_set] at this
    rw [List.getElem?_set_self hl] at e1; cases e1
    exact new
  · rw [List.getElem?_set_ne hmn] at e1
    refine RO.monok R (fk_set hm) (upd_ne fun z => ?_) (R.obj m w b e1 e2)
    subst z
    exact hmn (R.inj ha e2)
end

/-! ### the environment -/
def RSt (ι : List Addr) (H : Hp) (σ : L2.St) (env : Env) : Prop := σ.length = env.length ∧ ∀ (i : Nat) (x : IV), env[i]? = some (some x) → ∃ v, σ[i]? = some (some v) ∧ RV ι H v x
section
variable {ι ι' : List Addr} {h : IH} {H H' : Hp} {σ : L2.St} {env : Env}
theorem RSt.monok (S : RSt ι H σ env) (R : Rel ι h H) (F : Fk ι H ι' H') : RSt ι' H' σ env := ⟨S.1, fun i x e => let ⟨v, e1, r⟩ := S.2 i x e; ⟨v, e1, R.monok F r⟩⟩
theorem RSt.mono (S : RSt ι H σ env) (R : Rel ι h H) (F : Fr ι H ι' H') : RSt ι' H' σ env := S.monok R F.toFk
theorem RSt.set (S : RSt ι H σ env) {i : Nat} {v : V} {x : IV} (r : RV ι H v x) : RSt ι H (σ.set i (some v)) (env.set i (some x)) := by
  refine ⟨by simp [S.1], fun j y e => ?_⟩
  by_cases hij : i = j
  · subst hij
    have hl : i < env.length := by have := (List.getElem?_eq_some_iff.mp e).1; rwa [List.length_set] at this
    rw [List.getElem?_set_self hl] at e; cases e
    exact ⟨v, List.getElem?_set_self (by rw [S.1]; exact hl), r⟩
  · rw [List.getElem?_set_ne hij] at e
    obtain ⟨w, e1, r1⟩ := S.2 j y e
    exact ⟨w, by rw [List.getElem?_set_ne hij]; exact e1, r1⟩
end

/-! ### runs -/
abbrev ExW := Exn → List Addr → IH → Hp → Prop
def Run {α β : Type} (W : ExW) (rel : List Addr → Hp → β → α → Prop) (o : Option (Out α × IH)) (ι : List Addr) (H : Hp) (Q : β → Hp → Prop) : Prop :=
  match o with
  | none => False
  | some (.ok x, h') => ∀ ι' H' v, Rel ι' h' H' → Fr ι H ι' H' → rel ι' H' v x → Q v H'
  | some (.ex e, h') => ∀ ι' H', Rel ι' h' H' → Fr ι H ι' H' → W e ι' h' H'
section
variable {α β γ δ : Type} {W : ExW} {rel1 : List Addr → Hp → β → α → Prop} {rel2 : List Addr → Hp → δ → γ → Prop} {ι : List Addr} {h : IH} {H : Hp}
theorem Run.mono {o : Option (Out α × IH)} {Q Q' : β → Hp → Prop} (r : Run W rel1 o ι H Q) (k : ∀ v H', Q v H' → Q' v H') : Run W rel1 o ι H Q' := by
  unfold Run at r ⊢
  split <;> rename_i e
  · exact r
  · exact fun ι' H' v R F z => k v H' (r ι' H' v R F z)
  · exact r
theorem run_bind {m : M α} {k : α → M γ} {Q : δ → Hp → Prop} (r : Run W rel2 (M.bind m k h) ι H Q) :
    Run W rel1 (m h) ι H fun v H1 => ∃ ι1 h1 x, Rel ι1 h1 H1 ∧ Fr ι H ι1 H1 ∧ rel1 ι1 H1 v x ∧ Run W rel2 (k x h1) ι1 H1 Q := by
  unfold M.bind at r
  unfold Run
  generalize hm : m h = o at r ⊢
  match o, r with
  | none, r => exact r
  | some (.ok x, h1), r =>
    intro ι1 H1 v R1 F1 z
    refine ⟨ι1, h1, x, R1, F1, z, ?_⟩
    show Run W rel2 (k x h1) ι1 H1 Q
    have r : Run W rel2 (k x h1) ι H Q := r
    unfold Run at r ⊢
    split <;> rename_i e <;> simp only [e] at r
    · exact fun ι' H' v R F z => r ι' H' v R (F1.trans F) z
    · exact fun ι' H' R F => r ι' H' R (F1.trans F)
  | some (.ex e, h1), r => exact r
theorem run_pure {x : α} {Q : β → Hp → Prop} (r : Run W rel1 (M.pure x h) ι H Q) {v : β} (R : Rel ι h H) (z : rel1 ι H v x) : Q v H := r ι H v R (Fr.refl _ _) z
end

/-! ### readings -/
def tI (W : ExW) (m : Env → M IV) : TE := fun σ H Q => ∃ ι h env, Rel ι h H ∧ RSt ι H σ env ∧ Run W RV (m env h) ι H Q
def tIA (W : ExW) (m : Env → M (List IV)) : TA := fun σ H Q => ∃ ι h env, Rel ι h H ∧ RSt ι H σ env ∧ Run W RVs (m env h) ι H Q
def RB (_ : List Addr) (_ : Hp) (b c : Bool) : Prop := b = c
def tIT (W : ExW) (m : Env → M Bool) : TT := fun σ H Q => ∃ ι h env, Rel ι h H ∧ RSt ι H σ env ∧ Run W RB (m env h) ι H Q
def PEI (X : Cx) (W : ExW) (e : Expr) (m : Env → M IV) : Prop := PE X e (tI W m)
def PAI (X : Cx) (W : ExW) (es : List Expr) (m : Env → M (List IV)) : Prop := PA X es (tIA W m)
def PTI (X : Cx) (W : ExW) (e : Expr) (m : Env → M Bool) : Prop := PT X e (tIT W m)
section
variable {X : Cx}
theorem PE.weak {e : Expr} {t t' : TE} (h : PE X e t) (k : ∀ σ H Q, t' σ H Q → t σ H Q) : PE X e t' := ⟨fun pins s σ H Q I q => h.run pins s σ H Q I (k σ H Q q)⟩
theorem PT.weak {e : Expr} {t t' : TT} (h : PT X e t) (k : ∀ σ H Q, t' σ H Q → t σ H Q) : PT X e t' := ⟨fun pins s σ H Q I q => h.run pins s σ H Q I (k σ H Q q)⟩
theorem PW.weak {e : Expr} {t t' : TT} (h : PW X e t) (k : ∀ σ H Q, t' σ H Q → t σ H Q) : PW X e t' := ⟨fun whole pins s σ H Q I q => h.run whole pins s σ H Q I (k σ H Q q)⟩
theorem PA.weak {e : List Expr} {t t' : TA} (h : PA X e t) (k : ∀ σ H Q, t' σ H Q → t σ H Q) : PA X e t' := ⟨fun pos pins s σ H Q I q => h.run pos pins s σ H Q I (k σ H Q q)⟩
theorem PS.weak {e : Stmt} {t t' : TS} (h : PS X e t) (k : ∀ D σ H, t' D σ H → t D σ H) : PS X e t' := ⟨fun pins s σ H D I q => h.run pins s σ H D I (k D σ H q)⟩
theorem PSs.weak {e : List Stmt} {t t' : TS} (h : PSs X e t) (k : ∀ D σ H, t' D σ H → t D σ H) : PSs X e t' := ⟨fun pins s σ H D I q => h.run pins s σ H D I (k D σ H q)⟩
theorem PI.weak {tg e : Expr} {t t' : TI} (h : PI X tg e t) (k : ∀ σ H Q, t' σ H Q → t σ H Q) : PI X tg e t' := ⟨fun pins s σ H Q I q => h.run pins s σ H Q I (k σ H Q q)⟩
theorem PE.or {e : Expr} {t t' : TE} (h : PE X e t) (h' : PE X e t') : PE X e (fun σ H Q => t σ H Q ∨ t' σ H Q) := ⟨fun pins s σ H Q I q => q.elim (h.run pins s σ H Q I) (h'.run pins s σ H Q I)⟩
theorem PI.or {tg e : Expr} {t t' : TI} (h : PI X tg e t) (h' : PI X tg e t') : PI X tg e (fun σ H Q => t σ H Q ∨ t' σ H Q) := ⟨fun pins s σ H Q I q => q.elim (h.run pins s σ H Q I) (h'.run pins s σ H Q I)⟩
theorem OpR.or {f : Value → Value → Sem Value} {r r' : R2} (h : OpR X f r) (h' : OpR X f r') : OpR X f (fun x y H Q => r x y H Q ∨ r' x y H Q) :=
  fun pins s σ H x y v u Q I r1 r2 q => q.elim (h pins s σ H x y v u Q I r1 r2) (h' pins s σ H x y v u Q I r1 r2)
theorem CallR.or {f : Value} {r r' : List V → Hp → VK → Prop} (h : CallR X f r) (h' : CallR X f r') : CallR X f (fun x H Q => r x H Q ∨ r' x H Q) :=
  fun pins s σ H x v Q I r1 q => q.elim (h pins s σ H x v Q I r1) (h' pins s σ H x v Q I r1)
end

/-! ### expressions -/
def Var (i : Nat) : Env → M IV := fun env => match env[i]? with
  | some (some x) => M.pure x
  | _ => stuck
def Cst (x : IV) : Env → M IV := fun _ => M.pure x
def Bin (g : IV → IV → M IV) (a b : Env → M IV) : Env → M IV := fun env => M.bind (a env) fun x => M.bind (b env) fun y => g x y
def Un (g : IV → M IV) (a : Env → M IV) : Env → M IV := fun env => M.bind (a env) g
/-- an operation on two values keeps to its mirror -/
def RI2 (W : ExW) (r : R2) (g : IV → IV → M IV) : Prop := ∀ ι h H v w x y Q, Rel ι h H → RV ι H v x → RV ι H w y → Run W RV (g x y h) ι H Q → r v w H Q
def RI1 (W : ExW) (r : V → Hp → VK → Prop) (g : IV → M IV) : Prop := ∀ ι h H v x Q, Rel ι h H → RV ι H v x → Run W RV (g x h) ι H Q → r v H Q
def RIL (W : ExW) (r : List V → Hp → VK → Prop) (g : List IV → M IV) : Prop := ∀ ι h H v x Q, Rel ι h H → RVs ι H v x → Run W RV (g x h) ι H Q → r v H Q
section
variable {X : Cx} {W : ExW} {e a b : Expr} {ma mb mc : Env → M IV} {pos : Pos}
theorem pei_var (i : Nat) {x : Str} (hN : X.N[i]? = some x := by rfl) (hv : Vis X.env.scope x := by first | exact Or.inl rfl | exact Or.inr (Or.inl rfl) | exact Or.inr (Or.inr rfl)) (hd : (x == ("__debug__" : Str)) = false := by decide)
    (hcd : (x == ("__classdict__" : Str)) = false := by decide) : PEI X W (.Name x pos) (Var i) := PE.weak (pe_var hN hv hd hcd) fun σ H Q ⟨ι, h, env, R, S, r⟩ => by
  unfold Var at r
  generalize he : env[i]? = o at r
  match o, he, r with
  | some (some y), he, r =>
    obtain ⟨v, e1, rv⟩ := S.2 _ _ he
    exact ⟨v, e1, run_pure r R rv⟩
  | some none, _, r => exact False.elim r
  | none, _, r => exact False.elim r
theorem pei_int {i j} : PEI X W (.Constant (.int i) j pos) (Cst (.int i)) := PE.weak pe_int fun σ H Q ⟨ι, h, env, R, S, r⟩ => run_pure r R (.int i)
theorem pei_bl {b j} : PEI X W (.Constant (.bool b) j pos) (Cst (.bl b)) := PE.weak pe_bl fun σ H Q ⟨ι, h, env, R, S, r⟩ => run_pure r R (.bl b)
theorem pei_non {j} : PEI X W (.Constant .none j pos) (Cst .non) := PE.weak pe_non fun σ H Q ⟨ι, h, env, R, S, r⟩ => run_pure r R .non
theorem pei_str {x j} : PEI X W (.Constant (.str x) j pos) (Cst (.str x)) := PE.weak pe_str fun σ H Q ⟨ι, h, env, R, S, r⟩ => run_pure r R (.str x)
theorem tI_bin {g : IV → IV → M IV} {r : R2} (hr : RI2 W r g) {σ : L2.St} {H : Hp} {Q : VK} (t : tI W (Bin g ma mb) σ H Q) : tOp r (tI W ma) (tI W mb) σ H Q := by
  obtain ⟨ι, h, env, R, S, r⟩ := t
  refine ⟨ι, h, env, R, S, (run_bind (rel1 := RV) r).mono fun v H1 ⟨ι1, h1, x, R1, F1, rv, r1⟩ => ?_⟩
  refine ⟨ι1, h1, env, R1, S.mono R F1, (run_bind (rel1 := RV) r1).mono fun w H2 ⟨ι2, h2, y, R2, F2, rw, r2⟩ => ?_⟩
  exact hr ι2 h2 H2 v w x y Q R2 (R1.mono F2 rv) rw r2
theorem pei_op {op : Operator} {r : R2} {g : IV → IV → M IV} (hr : RI2 W r g) (ho : OpR X (binaryOp op) r) (ha : PEI X W a ma) (hb : PEI X W b mb) : PEI X W (.BinOp a op b pos) (Bin g ma mb) := PE.weak (pe_op ho ha hb) fun σ H Q t => tI_bin hr t
theorem pei_cmp {op : CmpOp} {r : R2} {g : IV → IV → M IV} (hr : RI2 W r g) (ho : OpR X (compareOp op) r) (ha : PEI X W a ma) (hb : PEI X W b mb) (hm : behindInMarks op b = false := by rfl) : PEI X W (.Compare a [op] [b] pos) (Bin g ma mb) := PE.weak (pe_cmpR ho ha hb hm) fun σ H Q t => tI_bin hr t
theorem pei_un {op : UnaryOp} {r : V → Hp → VK → Prop} {g : IV → M IV} (hr : RI1 W r g) (ho : UnR X (unaryOp op) r) (ha : PEI X W a ma) : PEI X W (.UnaryOp op a pos) (Un g ma) := PE.weak (pe_un ho ha) fun σ H Q ⟨ι, h, env, R, S, r⟩ =>
  ⟨ι, h, env, R, S, (run_bind (rel1 := RV) r).mono fun v H1 ⟨ι1, h1, x, R1, F1, rv, r1⟩ => hr ι1 h1 H1 v x Q R1 rv r1⟩

/-! arguments -/
def Nil : Env → M (List IV) := fun _ => M.pure []
def Cons (a : Env → M IV) (r : Env → M (List IV)) : Env → M (List IV) := fun env => M.bind (a env) fun x => M.bind (r env) fun xs => M.pure (x :: xs)
theorem pai_nil : PAI X W [] Nil := PA.weak pa_nil fun σ H Q ⟨ι, h, env, R, S, r⟩ => run_pure r R .nil
theorem pai_cons {es : List Expr} {mr : Env → M (List IV)} (ha : PEI X W e ma) (hr : PAI X W es mr) (hs : starEach (e :: es) X.env = (false, eval e X.env) :: starEach es X.env := by rfl) : PAI X W (e :: es) (Cons ma mr) := PA.weak (pa_cons ha hr hs) fun σ H Q ⟨ι, h, env, R, S, r⟩ =>
  ⟨ι, h, env, R, S, (run_bind (rel1 := RV) r).mono fun v H1 ⟨ι1, h1, x, R1, F1, rv, r1⟩ => ⟨ι1, h1, env, R1, S.mono R F1, (run_bind (rel1 := RVs) r1).mono fun w H2 ⟨ι2, h2, y, R2, F2, rw, r2⟩ => run_pure r2 R2 (.cons (R1.mono F2 rv) rw)⟩⟩
theorem RVs.length {ι : List Addr} {H : Hp} {vs : List V} {xs : List IV} (r : RVs ι H vs xs) : vs.length = xs.length := by
  induction xs generalizing vs with
  | nil => cases r; rfl
  | cons x xs ih => cases r with | cons _ r => simp [ih r]
/-- displays -/
def Tup (r : Env → M (List IV)) : Env → M IV := fun env => M.bind (r env) fun xs => if xs.length ≤ lim then M.pure (.tup xs) else stuck
def mkL (xs : List IV) : M IV := fun h => if xs.length ≤ lim then some (.ok (.ref h.length), h ++ [.lst xs]) else none
def Lst (r : Env → M (List IV)) : Env → M IV := fun env => M.bind (r env) mkL
theorem sz_of {n : Nat} (h : n ≤ lim) : n ≤ sizeLine := Nat.le_trans h (by rw [lim_eq]; decide)
theorem sz_lt {n : Nat} (h : n < lim) : n < sizeLine := Nat.lt_of_lt_of_le h (by rw [lim_eq]; decide)
theorem pei_tup {es : List Expr} {m : Env → M (List IV)} {x1} (h : PAI X W es m) : PEI X W (.Tuple es x1 pos) (Tup m) := PE.weak (pe_tup h) fun σ H Q ⟨ι, h, env, R, S, r⟩ =>
  ⟨ι, h, env, R, S, (run_bind (rel1 := RVs) r).mono fun vs H1 ⟨ι1, h1, xs, R1, F1, rv, r1⟩ => by
    split at r1
    · rename_i hl
      refine ⟨sz_of (by rw [rv.length]; exact hl), fun p hp => ?_⟩
      exact r1 ι1 _ _ (R1.new hp) (fr_new hp) (.tup upd_same (R1.monos (fr_new hp) rv))
    · exact False.elim r1⟩
/-- a new list of the mirror -/
theorem new_lst {ι : List Addr} {h : IH} {H : Hp} {vs : List V} {xs : List IV} {Q : VK} (R : Rel ι h H) (rv : RVs ι H vs xs) (r : Run W RV (mkL xs h) ι H Q) : vs.length ≤ lim ∧ ∀ p, H p = none → Q (.ref p) (upd H p (.lst vs)) := by
  unfold mkL at r
  split at r
  · rename_i hl
    refine ⟨by rw [rv.length]; exact hl, fun p hp => ?_⟩
    refine r (ι ++ [p]) _ _ (R.push hp ⟨vs, upd_same, R.monos (fr_push hp) rv⟩) (fr_push hp) (.ref ?_)
    rw [← R.len, List.getElem?_append_right (Nat.le_refl _), Nat.sub_self]
    rfl
  · exact False.elim r
theorem pei_lst {es : List Expr} {m : Env → M (List IV)} (h : PAI X W es m) : PEI X W (.List es pos) (Lst m) := PE.weak (pe_lst h) fun σ H Q ⟨ι, h, env, R, S, r⟩ =>
  ⟨ι, h, env, R, S, (run_bind (rel1 := RVs) r).mono fun vs H1 ⟨ι1, h1, xs, R1, F1, rv, r1⟩ => let ⟨hl, k⟩ := new_lst R1 rv r1; ⟨sz_of hl, k⟩⟩
end
end Iv
set_option Elab.async false
set_option linter.all false
set_option maxRecDepth 100000
set_option maxHeartbeats 2000000
set_option autoImplicit false
namespace Iv
open PySem L2
variable [KL]

/-! ### lists of values -/
section
variable {ι : List Addr} {h : IH} {H : Hp}
theorem RVs.get {vs : List V} {xs : List IV} (r : RVs ι H vs xs) {i : Nat} {x : IV} (e : xs[i]? = some x) : ∃ v, vs[i]? = some v ∧ RV ι H v x := by
  induction xs generalizing vs i with
  | nil => simp at e
  | cons y ys ih =>
    cases r with
    | cons a r =>
      cases i with
      | zero => simp at e; subst e; exact ⟨_, by simp, a⟩
      | succ i => obtain ⟨v, e1, r1⟩ := ih r (by simpa using e); exact ⟨v, by simpa using e1, r1⟩
theorem RVs.append {vs ws : List V} {xs ys : List IV} (r : RVs ι H vs xs) (r2 : RVs ι H ws ys) : RVs ι H (vs ++ ws) (xs ++ ys) := by
  induction xs generalizing vs with
  | nil => cases r; exact r2
  | cons y ys ih => cases r with | cons a r => exact .cons a (ih r)
theorem RVs.take {vs : List V} {xs : List IV} (n : Nat) (r : RVs ι H vs xs) : RVs ι H (vs.take n) (xs.take n) := by
  induction n generalizing vs xs with
  | zero => exact .nil
  | succ n ih => cases r with
    | nil => exact .nil
    | cons a r => exact .cons a (ih r)
theorem RVs.drop {vs : List V} {xs : List IV} (n : Nat) (r : RVs ι H vs xs) : RVs ι H (vs.drop n) (xs.drop n) := by
  induction n generalizing vs xs with
  | zero => exact r
  | succ n ih => cases r with
    | nil => exact .nil
    | cons a r => exact ih r
theorem RVs.set {vs : List V} {xs : List IV} (r : RVs ι H vs xs) (n : Nat) {v : V} {x : IV} (a : RV ι H v x) : RVs ι H (vs.set n v) (xs.set n x) := by
  induction n generalizing vs xs with
  | zero => cases r with
    | nil => exact .nil
    | cons b r => exact .cons a r
  | succ n ih => cases r with
    | nil => exact .nil
    | cons b r => exact .cons b (ih r)
theorem RVs.eraseIdx {vs : List V} {xs : List IV} (r : RVs ι H vs xs) (n : Nat) : RVs ι H (vs.eraseIdx n) (xs.eraseIdx n) := by
  induction n generalizing vs xs with
  | zero => cases r with
    | nil => exact .nil
    | cons b r => exact r
  | succ n ih => cases r with
    | nil => exact .nil
    | cons b r => exact .cons b (ih r)
theorem RVs.dropLast {vs : List V} {xs : List IV} (r : RVs ι H vs xs) : RVs ι H vs.dropLast xs.dropLast := by
  rw [List.dropLast_eq_take, List.dropLast_eq_take, r.length]
  exact r.take _
theorem RVs.ints {vs : List V} {ns : List Int} (r : RVs ι H vs (ns.map IV.int)) : vs = ns.map V.int := by
  induction ns generalizing vs with
  | nil => cases r; rfl
  | cons n ns ih => cases r with | cons a r => cases a; rw [ih r]; rfl
theorem RVs.bools {vs : List V} {ns : List Bool} (r : RVs ι H vs (ns.map IV.bl)) : vs = ns.map V.bl := by
  induction ns generalizing vs with
  | nil => cases r; rfl
  | cons n ns ih => cases r with | cons a r => cases a; rw [ih r]; rfl
theorem RVs.strs {vs : List V} {ns : List Str} (r : RVs ι H vs (ns.map IV.str)) : vs = ns.map V.str := by
  induction ns generalizing vs with
  | nil => cases r; rfl
  | cons n ns ih => cases r with | cons a r => cases a; rw [ih r]; rfl
theorem RVs.of_ints (ns : List Int) : RVs ι H (ns.map V.int) (ns.map IV.int) := by
  induction ns with
  | nil => exact .nil
  | cons n ns ih => exact .cons (.int n) ih
theorem RVs.of_strs (ns : List Str) : RVs ι H (ns.map V.str) (ns.map IV.str) := by
  induction ns with
  | nil => exact .nil
  | cons n ns ih => exact .cons (.str n) ih
/-- all of a list are of one sort -/
def ints? : List IV → Option (List Int)
  | [] => some []
  | .int i :: r => (ints? r).map (i :: ·)
  | _ => none
def bools? : List IV → Option (List Bool)
  | [] => some []
  | .bl i :: r => (bools? r).map (i :: ·)
  | _ => none
def strs? : List IV → Option (List Str)
  | [] => some []
  | .str i :: r => (strs? r).map (i :: ·)
  | _ => none
theorem ints?_eq : ∀ {xs : List IV} {ns : List Int}, ints? xs = some ns → xs = ns.map IV.int
  | [], _, e => by cases e; rfl
  | .int i :: r, ns, e => by
    unfold ints? at e
    cases q : ints? r with
    | none => rw [q] at e; cases e
    | some ms => rw [q] at e; cases e; rw [ints?_eq q]; rfl
  | .non :: _, _, e => by cases e
  | .bl _ :: _, _, e => by cases e
  | .str _ :: _, _, e => by cases e
  | .tup _ :: _, _, e => by cases e
  | .fl _ :: _, _, e => by cases e
  | .kl _ :: _, _, e => by cases e
  | .exo :: _, _, e => by cases e
  | .ref _ :: _, _, e => by cases e
theorem bools?_eq : ∀ {xs : List IV} {ns : List Bool}, bools? xs = some ns → xs = ns.map IV.bl
  | [], _, e => by cases e; rfl
  | .bl i :: r, ns, e => by
    unfold bools? at e
    cases q : bools? r with
    | none => rw [q] at e; cases e
    | some ms => rw [q] at e; cases e; rw [bools?_eq q]; rfl
  | .non :: _, _, e => by cases e
  | .int _ :: _, _, e => by cases e
  | .str _ :: _, _, e => by cases e
  | .tup _ :: _, _, e => by cases e
  | .fl _ :: _, _, e => by cases e
  | .kl _ :: _, _, e => by cases e
  | .exo :: _, _, e => by cases e
  | .ref _ :: _, _, e => by cases e
theorem strs?_eq : ∀ {xs : List IV} {ns : List Str}, strs? xs = some ns → xs = ns.map IV.str
  | [], _, e => by cases e; rfl
  | .str i :: r, ns, e => by
    unfold strs? at e
    cases q : strs? r with
    | none => rw [q] at e; cases e
    | some ms => rw [q] at e; cases e; rw [strs?_eq q]; rfl
  | .non :: _, _, e => by cases e
  | .int _ :: _, _, e => by cases e
  | .bl _ :: _, _, e => by cases e
  | .tup _ :: _, _, e => by cases e
  | .fl _ :: _, _, e => by cases e
  | .kl _ :: _, _, e => by cases e
  | .exo :: _, _, e => by cases e
  | .ref _ :: _, _, e => by cases e

theorem Rel.lst (R : Rel ι h H) {v : V} {n : Nat} {xs : List IV} (rv : RV ι H v (.ref n)) (e : h[n]? = some (.lst xs)) : ∃ a vs, v = .ref a ∧ ι[n]? = some a ∧ H a = some (.lst vs) ∧ RVs ι H vs xs := by
  cases rv with
  | ref ea => obtain ⟨vs, h1, r⟩ := R.obj n _ _ e ea; exact ⟨_, vs, rfl, ea, h1, r⟩
theorem Rel.dic (R : Rel ι h H) {v : V} {n : Nat} {xs : List (Key × IV)} (rv : RV ι H v (.ref n)) (e : h[n]? = some (.dic xs)) : ∃ a vs, v = .ref a ∧ ι[n]? = some a ∧ H a = some (.dK vs) ∧ RKs ι H vs xs := by
  cases rv with
  | ref ea => obtain ⟨vs, h1, r⟩ := R.obj n _ _ e ea; exact ⟨_, vs, rfl, ea, h1, r⟩
theorem Rel.fdc (R : Rel ι h H) {v : V} {n : Nat} {xs : List (Key × IV)} (rv : RV ι H v (.ref n)) (e : h[n]? = some (.fdc xs)) : ∃ a ob vs, v = .ref a ∧ ι[n]? = some a ∧ H a = some (.frz ob (.dK vs)) ∧ RKs ι H vs xs := by
  cases rv with
  | ref ea => obtain ⟨ob, vs, h1, r⟩ := R.obj n _ _ e ea; exact ⟨_, ob, vs, rfl, ea, h1, r⟩
theorem sq_of {K : PySem.W.Frag} {H : Hp} {a : Addr} {xs : List V} (h : H a = some (.lst xs)) : SqL K H a xs := .inl (.inl h)
theorem st_of {K : PySem.W.Frag} {H : Hp} {a : Addr} {xs : List V} (h : H a = some (.tup xs)) : SqT K H a xs := .inl (.inl h)
theorem sf_of {K : PySem.W.Frag} {H : Hp} {a : Addr} {o : Obj} {xs : List V} (h : H a = some (.frz o (.lst xs))) : SqL K H a xs := .inl (.inr ⟨o, h⟩)
/-- what a list, a tuple holds -/
def seqI (h : IH) : IV → Option (List IV)
  | .tup xs => some xs
  | .fl xs => some xs
  | .ref n => match h[n]? with
    | some (.lst xs) => some xs
    | _ => none
  | _ => none
theorem seq_ok {K : PySem.W.Frag} (R : Rel ι h H) {v : V} {x : IV} {xs : List IV} (rv : RV ι H v x) (e : seqI h x = some xs) : ∃ a vs, v = .ref a ∧ RVs ι H vs xs ∧ (SqL K H a vs ∨ SqT K H a vs) := by
  cases rv with
  | non => cases e
  | bl => cases e
  | int => cases e
  | str => cases e
  | tup e1 r => cases e; exact ⟨_, _, rfl, r, .inr (st_of e1)⟩
  | fl e1 _ r => cases e; exact ⟨_, _, rfl, r, .inl (sf_of e1)⟩
  | kl _ _ => cases e
  | exo _ _ _ => cases e
  | @ref n a ea =>
    unfold seqI at e
    simp only at e
    split at e
    · rename_i ys e2
      cases e
      obtain ⟨a', vs, e3, _, e4, r⟩ := R.lst (.ref ea) e2
      exact ⟨a', vs, e3, r, .inl (sq_of e4)⟩
    · cases e
end

/-! ### data -/
def encH (h : IH) : Nat → IV → Option PyData
  | 0, _ => none
  | _ + 1, .non => some .none
  | _ + 1, .bl b => some (.bool b)
  | _ + 1, .int i => some (.int i)
  | _ + 1, .str s => some (.str s)
  | k + 1, .tup xs => (xs.mapM (encH h k)).map .tuple
  | k + 1, .fl xs => (xs.mapM (encH h k)).map .list
  | _ + 1, .kl _ => none
  | _ + 1, .exo => none
  | k + 1, .ref n => match h[n]? with
    | some (.lst xs) => (xs.mapM (encH h k)).map .list
    | _ => none
theorem encH_dp {K : PySem.W.Frag} {ι : List Addr} {h : IH} {H : Hp} (R : Rel ι h H) : ∀ (k : Nat) (x : IV) (v : V) (d : PyData), RV ι H v x → encH h k x = some d → Dp K H v d
  | 0, _, _, _, _, e => by cases e
  | k + 1, x, v, d, r, e => by
    have all : ∀ (xs : List IV) (vs : List V) (ds : List PyData), RVs ι H vs xs → xs.mapM (encH h k) = some ds → DpAll K H vs ds := by
      intro xs
      induction xs with
      | nil => intro vs ds r e; cases r; cases e; exact .nil
      | cons y ys ih =>
        intro vs ds r e
        cases r with
        | cons a r =>
          rw [List.mapM_cons] at e
          cases e1 : encH h k y with
          | none => rw [e1] at e; cases e
          | some d1 =>
            rw [e1] at e
            cases e2 : ys.mapM (encH h k) with
            | none => rw [e2] at e; cases e
            | some ds1 => rw [e2] at e; cases e; exact .cons (encH_dp R k y _ d1 a e1) (ih _ _ r e2)
    cases r with
    | non => cases e; exact .non
    | bl b => cases e; exact .bl b
    | int i => cases e; exact .int i
    | str s => cases e; exact .str s
    | @tup a vs xs e1 r =>
      unfold encH at e
      cases q : xs.mapM (encH h k) with
      | none => rw [q] at e; cases e
      | some ds => rw [q] at e; cases e; exact .tup (st_of e1) (all _ _ _ r q)
    | @fl a o vs xs e1 _ r =>
      unfold encH at e
      cases q : xs.mapM (encH h k) with
      | none => rw [q] at e; cases e
      | some ds => rw [q] at e; cases e; exact .lst (sf_of e1) (all _ _ _ r q)
    | kl _ _ => cases e
    | exo _ _ _ => cases e
    | @ref n a ea =>
      unfold encH at e
      split at e
      · rename_i xs e2
        obtain ⟨a', vs, e3, _, e4, r⟩ := R.lst (.ref ea) e2
        cases e3
        cases q : xs.mapM (encH h k) with
        | none => rw [q] at e; cases e
        | some ds => rw [q] at e; cases e; exact .lst (sq_of e4) (all _ _ _ r q)
      · cases e

/-! ### operators -/
def addI : IV → IV → M IV
  | .int i, .int j => M.pure (.int (i + j))
  | .str a, .str b => if a.length + b.length ≤ lim then M.pure (.str (a ++ b)) else stuck
  | .tup xs, .tup ys => if xs.length + ys.length ≤ lim then M.pure (.tup (xs ++ ys)) else stuck
  | .ref m, .ref n => fun h => match h[m]?, h[n]? with
    | some (.lst xs), some (.lst ys) => mkL (xs ++ ys) h
    | _, _ => none
  | _, _ => stuck
def rAddS : R2 := fun x y H Q => ∃ i j, x = .str i ∧ y = .str j ∧ i.length + j.length ≤ sizeLine ∧ Q (.str (i ++ j)) H
def rAddI (K : PySem.W.Frag) : R2 := fun x y H Q => rI0 (fun i j => .int (i + j)) x y H Q ∨ rAddS x y H Q ∨ rCatA K x y H Q ∨ rCat x y H Q
section
variable {X : Cx} {W : ExW}
theorem op_addI : OpR X (binaryOp .Add) (rAddI X.K) := OpR.or op_add (OpR.or op_add_str (OpR.or op_catA op_cat))
theorem run_if {α β : Type} {rel : List Addr → Hp → β → α → Prop} {c : Prop} [Decidable c] {m : M α} {h : IH} {ι : List Addr} {H : Hp} {Q : β → Hp → Prop} (r : Run W rel ((if c then m else stuck) h) ι H Q) : c ∧ Run W rel (m h) ι H Q := by
  by_cases hc : c
  · rw [if_pos hc] at r; exact ⟨hc, r⟩
  · rw [if_neg hc] at r; exact r.elim
theorem ri_add : RI2 W (rAddI X.K) addI := by
  intro ι h H v w x y Q R rv rw r
  cases rv with
  | int i =>
    cases rw with
    | int j => exact .inl ⟨_, _, rfl, rfl, run_pure r R (.int _)⟩
    | _ => exact False.elim r
  | str a =>
    cases rw with
    | str b =>
      obtain ⟨hl, r⟩ := run_if r
      have hz := sz_of hl
      have q := run_pure (v := V.str (a ++ b)) r R (.str (a ++ b))
      exact Or.inr (Or.inl ⟨a, b, rfl, rfl, hz, q⟩)
    | _ => exact False.elim r
  | @tup a vs xs e1 r1 =>
    cases rw with
    | @tup b ws ys e2 r2 =>
      obtain ⟨hl, r⟩ := run_if r
      refine .inr (.inr (.inl ⟨a, b, vs, ws, rfl, rfl, st_of e1, st_of e2, by rw [r1.length, r2.length]; exact sz_of hl, fun z => ?_, fun _ z => ?_, fun _ _ p hp => ?_⟩))
      · subst z; cases r1; rw [List.nil_append] at r; exact run_pure r R (.tup e2 r2)
      · subst z; cases r2; rw [List.append_nil] at r; exact run_pure r R (.tup e1 r1)
      · exact r ι _ _ (R.new hp) (fr_new hp) (.tup upd_same (R.monos (fr_new hp) (r1.append r2)))
    | _ => exact False.elim r
  | @ref n a ea =>
    cases rw with
    | @ref m b eb =>
      have r' : Run W RV (match h[n]?, h[m]? with
        | some (.lst xs), some (.lst ys) => mkL (xs ++ ys) h
        | _, _ => none) ι H Q := r
      split at r'
      · rename_i xs ys e1 e2
        obtain ⟨a', vs, q1, _, q2, r1⟩ := R.lst (.ref ea) e1
        obtain ⟨b', ws, q3, _, q4, r2⟩ := R.lst (.ref eb) e2
        cases q1; cases q3
        obtain ⟨hl, k⟩ := new_lst R (r1.append r2) r'
        rw [List.length_append] at hl
        exact .inr (.inr (.inr ⟨_, _, vs, ws, rfl, rfl, q2, q4, sz_of hl, k⟩))
      · exact False.elim r'
    | _ => exact False.elim r
  | _ => exact False.elim r
/-- two ints; two ints within bounds -/
def intI (f : Int → Int → IV) : IV → IV → M IV
  | .int i, .int j => M.pure (f i j)
  | _, _ => stuck
def intC (c : Int → Int → Bool) (f : Int → Int → IV) : IV → IV → M IV
  | .int i, .int j => if c i j = true then M.pure (f i j) else stuck
  | _, _ => stuck
theorem ri_int {g : Int → Int → V} {f : Int → Int → IV} (hf : ∀ ι H i j, RV ι H (g i j) (f i j)) : RI2 W (rI0 g) (intI f) := by
  intro ι h H v w x y Q R rv rw r
  cases rv with
  | int i =>
    cases rw with
    | int j => exact ⟨i, j, rfl, rfl, run_pure r R (hf _ _ _ _)⟩
    | _ => exact False.elim r
  | _ => exact False.elim r
theorem ri_intC {C : Int → Int → Prop} {c : Int → Int → Bool} {g : Int → Int → V} {f : Int → Int → IV} (hf : ∀ ι H i j, RV ι H (g i j) (f i j)) (hc : ∀ i j, c i j = true → C i j) : RI2 W (rI C g) (intC c f) := by
  intro ι h H v w x y Q R rv rw r
  cases rv with
  | int i =>
    cases rw with
    | int j =>
      obtain ⟨hl, r⟩ := run_if r
      exact ⟨i, j, rfl, rfl, hc _ _ hl, run_pure r R (hf _ _ _ _)⟩
    | _ => exact False.elim r
  | _ => exact False.elim r
end
@[irreducible] def mulLim : Nat := 1000000
@[irreducible] def divLim : Nat := 9000
@[irreducible] def powLim : Int := 1000000
@[irreducible] def powBase : Nat := 18446744073709551616
@[irreducible] def wordLim : Int := 18446744073709551616
def smallI (i : Int) : Bool := decide (-wordLim < i) && decide (i < wordLim)
def mulOk (i j : Int) : Bool := smallI i || smallI j || decide (i.natAbs.log2 + j.natAbs.log2 < mulLim)
theorem smallI_ok {i : Int} (e : smallI i = true) : -(2 ^ 64) < i ∧ i < 2 ^ 64 := by
  obtain ⟨e1, e2⟩ := Bool.and_eq_true_iff.mp e
  have e1 := of_decide_eq_true e1
  have e2 := of_decide_eq_true e2
  unfold wordLim at e1 e2
  exact ⟨by omega, by omega⟩
def divOk (_ j : Int) : Bool := decide (0 < j) && decide (j.natAbs.log2 < divLim)
def modOk (_ j : Int) : Bool := decide (0 < j)
def powOk (i j : Int) : Bool := decide (0 ≤ j) && decide (j ≤ powLim) && decide (i.natAbs < powBase)
def shrOk (_ j : Int) : Bool := decide (0 ≤ j)
def subI : IV → IV → M IV := intI fun i j => .int (i - j)
def mulI : IV → IV → M IV
  | .int i, .int j => if mulOk i j = true then M.pure (.int (i * j)) else stuck
  | .ref m, .int k => fun h => match h[m]? with
    | some (.lst xs) => if k ≤ powLim ∧ -powLim ≤ k then mkL ((List.replicate k.toNat xs).flatten) h else none
    | _ => none
  | _, _ => stuck
def divI : IV → IV → M IV := intC divOk fun i j => .int (i / j)
def modI : IV → IV → M IV := intC modOk fun i j => .int (i % j)
def powI : IV → IV → M IV := intC powOk fun i j => .int (i ^ j.toNat)
def shlI : IV → IV → M IV := intC powOk fun i j => .int (i * 2 ^ j.toNat)
def shrI : IV → IV → M IV := intC shrOk fun i j => .int (i / 2 ^ j.toNat)
def andI : IV → IV → M IV := intI fun i j => .int (Builtin.bitAnd i j)
def orI : IV → IV → M IV := intI fun i j => .int (Builtin.bitOr i j)
def xorI : IV → IV → M IV := intI fun i j => .int (Builtin.bitXor i j)
def ordI (f : Int → Int → Bool) (g : Str → Str → Bool) : IV → IV → M IV
  | .int i, .int j => M.pure (.bl (f i j))
  | .str a, .str b => M.pure (.bl (g a b))
  | _, _ => stuck
def sLt (a b : Str) : Bool := decide (a.cps.toList < b.cps.toList)
def ltI : IV → IV → M IV := ordI (fun i j => decide (i < j)) sLt
def leI : IV → IV → M IV := ordI (fun i j => decide (i ≤ j)) (fun a b => !sLt b a)
def gtI : IV → IV → M IV := ordI (fun i j => decide (j < i)) (fun a b => sLt b a)
def geI : IV → IV → M IV := ordI (fun i j => decide (j ≤ i)) (fun a b => !sLt a b)
def eqG (h : IH) (x y : IV) : Option Bool := match encH h 66 x, encH h 66 y with
  | some d, some e => if SeqAt.shaped d = true ∧ SeqAt.shaped e = true then some (PyData.eqv d e) else none
  | _, _ => none
/-- x == y -/
def eqB (h : IH) : IV → IV → Option Bool
  | .int i, .int j => some (decide (i = j))
  | .str a, .str b => some (decide (a = b))
  | x, y => eqG h x y
def eqI (x y : IV) : M IV := fun h => (eqB h x y).map fun b => (.ok (.bl b), h)
def neI (x y : IV) : M IV := fun h => (eqB h x y).map fun b => (.ok (.bl (!b)), h)
def isNone : IV → Bool
  | .non => true
  | _ => false
def isN : IV → M IV := fun x => M.pure (.bl (isNone x))
def isNN : IV → M IV := fun x => M.pure (.bl (!isNone x))
def negI : IV → M IV
  | .int i => M.pure (.int (-i))
  | _ => stuck
section
variable {X : Cx} {W : ExW} {a b : Expr} {ma mb : Env → M IV} {pos : Pos}
theorem pei_add (ha : PEI X W a ma) (hb : PEI X W b mb) : PEI X W (.BinOp a .Add b pos) (Bin addI ma mb) := pei_op ri_add op_addI ha hb
theorem pei_sub (ha : PEI X W a ma) (hb : PEI X W b mb) : PEI X W (.BinOp a .Sub b pos) (Bin subI ma mb) := pei_op (ri_int fun _ _ _ _ => .int _) op_sub ha hb
theorem pei_mul (ha : PEI X W a ma) (hb : PEI X W b mb) : PEI X W (.BinOp a .Mult b pos) (Bin mulI ma mb) := by
  refine pei_op (r := fun x y H Q => rI CMul (fun i j => .int (i * j)) x y H Q ∨ rI CMulW (fun i j => .int (i * j)) x y H Q ∨ rRep x y H Q) ?_ (L2.OpR.or op_mul (L2.OpR.or op_mulW op_rep)) ha hb
  intro ι h H v w x y Q R rv rw r
  cases rv with
  | int i =>
    cases rw with
    | int j =>
      obtain ⟨hl, r⟩ := run_if r
      have q := run_pure (v := V.int (i * j)) r R (.int _)
      rcases Bool.or_eq_true_iff.mp hl with hl | hl
      · refine .inl ⟨i, j, rfl, rfl, ?_, q⟩
        rcases Bool.or_eq_true_iff.mp hl with hl | hl
        · exact .inl (smallI_ok hl)
        · exact .inr (smallI_ok hl)
      · refine .inr (.inl ⟨i, j, rfl, rfl, ?_, q⟩)
        have e := of_decide_eq_true hl
        unfold mulLim at e
        exact e
    | _ => exact False.elim r
  | @ref n a ea =>
    cases rw with
    | int k =>
      have r' : Run W RV (match h[n]? with
        | some (.lst xs) => if k ≤ powLim ∧ -powLim ≤ k then mkL ((List.replicate k.toNat xs).flatten) h else none
        | _ => none) ι H Q := r
      split at r'
      · rename_i xs e1
        obtain ⟨a', vs, q1, _, q2, r1⟩ := R.lst (.ref ea) e1
        cases q1
        split at r'
        · rename_i hk
          unfold powLim at hk
          have rr : ∀ n : Nat, RVs ι H (List.replicate n vs).flatten (List.replicate n xs).flatten := by
            intro n
            induction n with
            | zero => exact .nil
            | succ n ih => rw [List.replicate_succ, List.replicate_succ]; exact r1.append ih
          obtain ⟨hl, kk⟩ := new_lst R (rr k.toNat) r'
          refine .inr (.inr ⟨_, k, vs, rfl, rfl, q2, by omega, by omega, ?_, ?_⟩)
          · refine sz_of (Nat.le_trans (Nat.le_of_eq ?_) hl)
            simp [List.length_flatten, Nat.mul_comm]
          · exact kk
        · exact False.elim r'
      · exact False.elim r'
    | _ => exact False.elim r
  | _ => exact False.elim r
theorem pei_div (ha : PEI X W a ma) (hb : PEI X W b mb) : PEI X W (.BinOp a .FloorDiv b pos) (Bin divI ma mb) := pei_op (ri_intC (fun _ _ _ _ => .int _) fun i j e => by
  obtain ⟨e1, e2⟩ := Bool.and_eq_true_iff.mp e
  have e2 := of_decide_eq_true e2
  unfold divLim at e2
  exact ⟨of_decide_eq_true e1, e2⟩) op_fdivW ha hb
theorem pei_mod (ha : PEI X W a ma) (hb : PEI X W b mb) : PEI X W (.BinOp a .Mod b pos) (Bin modI ma mb) := pei_op (ri_intC (fun _ _ _ _ => .int _) fun i j e => of_decide_eq_true e) op_mod ha hb
theorem powOk_ok {i j : Int} (e : powOk i j = true) : CPow i j := by
  obtain ⟨e1, e2⟩ := Bool.and_eq_true_iff.mp e
  obtain ⟨e0, e1⟩ := Bool.and_eq_true_iff.mp e1
  have e1 := of_decide_eq_true e1
  have e2 := of_decide_eq_true e2
  unfold powLim at e1
  unfold powBase at e2
  exact ⟨of_decide_eq_true e0, e1, e2⟩
theorem pei_pow (ha : PEI X W a ma) (hb : PEI X W b mb) : PEI X W (.BinOp a .Pow b pos) (Bin powI ma mb) := pei_op (ri_intC (fun _ _ _ _ => .int _) fun i j e => powOk_ok e) op_pow ha hb
theorem pei_shl (ha : PEI X W a ma) (hb : PEI X W b mb) : PEI X W (.BinOp a .LShift b pos) (Bin shlI ma mb) := pei_op (ri_intC (fun _ _ _ _ => .int _) fun i j e => powOk_ok e) op_shl ha hb
theorem pei_shr (ha : PEI X W a ma) (hb : PEI X W b mb) : PEI X W (.BinOp a .RShift b pos) (Bin shrI ma mb) := pei_op (ri_intC (fun _ _ _ _ => .int _) fun i j e => of_decide_eq_true e) op_shr ha hb
theorem pei_band (ha : PEI X W a ma) (hb : PEI X W b mb) : PEI X W (.BinOp a .BitAnd b pos) (Bin andI ma mb) := pei_op (ri_int fun _ _ _ _ => .int _) op_and ha hb
theorem pei_bor (ha : PEI X W a ma) (hb : PEI X W b mb) : PEI X W (.BinOp a .BitOr b pos) (Bin orI ma mb) := pei_op (ri_int fun _ _ _ _ => .int _) op_or ha hb
theorem pei_bxor (ha : PEI X W a ma) (hb : PEI X W b mb) : PEI X W (.BinOp a .BitXor b pos) (Bin xorI ma mb) := pei_op (ri_int fun _ _ _ _ => .int _) op_xor ha hb
theorem ri_ord {f : Int → Int → Bool} {g : Str → Str → Bool} {rs : R2} (hs : ∀ a b H Q, Q (.bl (g a b)) H → rs (.str a) (.str b) H Q) : RI2 W (fun x y H Q => rI0 (fun i j => .bl (f i j)) x y H Q ∨ rs x y H Q) (ordI f g) := by
  intro ι h H v w x y Q R rv rw r
  cases rv with
  | int i =>
    cases rw with
    | int j => exact .inl ⟨i, j, rfl, rfl, run_pure r R (.bl _)⟩
    | _ => exact False.elim r
  | str i =>
    cases rw with
    | str j => exact .inr (hs _ _ _ _ (run_pure r R (.bl _)))
    | _ => exact False.elim r
  | _ => exact False.elim r
theorem pei_lt (ha : PEI X W a ma) (hb : PEI X W b mb) : PEI X W (.Compare a [.Lt] [b] pos) (Bin ltI ma mb) := pei_cmp (ri_ord fun a b H Q q => ⟨a, b, rfl, rfl, q⟩) (L2.OpR.or op_lt op_lt_str) ha hb (nomark _)
theorem pei_le (ha : PEI X W a ma) (hb : PEI X W b mb) : PEI X W (.Compare a [.LtE] [b] pos) (Bin leI ma mb) := pei_cmp (ri_ord fun a b H Q q => ⟨a, b, rfl, rfl, q⟩) (L2.OpR.or op_le op_le_str) ha hb (nomark _)
theorem pei_gt (ha : PEI X W a ma) (hb : PEI X W b mb) : PEI X W (.Compare a [.Gt] [b] pos) (Bin gtI ma mb) := pei_cmp (ri_ord fun a b H Q q => ⟨a, b, rfl, rfl, q⟩) (L2.OpR.or op_gt op_gt_str) ha hb (nomark _)
theorem pei_ge (ha : PEI X W a ma) (hb : PEI X W b mb) : PEI X W (.Compare a [.GtE] [b] pos) (Bin geI ma mb) := pei_cmp (ri_ord fun a b H Q q => ⟨a, b, rfl, rfl, q⟩) (L2.OpR.or op_ge op_ge_str) ha hb (nomark _)
theorem eqB_dp {K : PySem.W.Frag} {ι : List Addr} {h : IH} {H : Hp} (R : Rel ι h H) {v w : V} {x y : IV} {b : Bool} (rv : RV ι H v x) (rw : RV ι H w y) (e : eqB h x y = some b) : (scal v w = true ∧ decide (v = w) = b) ∨ ∃ d d', Dp K H v d ∧ Dp K H w d' ∧ SeqAt.shaped d = true ∧ SeqAt.shaped d' = true ∧ PyData.eqv d d' = b := by
  have gen : eqG h x y = some b → ∃ d d', Dp K H v d ∧ Dp K H w d' ∧ SeqAt.shaped d = true ∧ SeqAt.shaped d' = true ∧ PyData.eqv d d' = b := fun e => by
    unfold eqG at e
    split at e
    · rename_i d d' e1 e2
      split at e
      · rename_i hs
        cases e
        exact ⟨d, d', encH_dp R _ _ _ _ rv e1, encH_dp R _ _ _ _ rw e2, hs.1, hs.2, rfl⟩
      · cases e
    · cases e
  cases rv with
  | int i => cases rw with
    | int j => cases e; exact .inl ⟨rfl, by simp⟩
    | _ => exact .inr (gen e)
  | str i => cases rw with
    | str j => cases e; exact .inl ⟨rfl, by simp⟩
    | _ => exact .inr (gen e)
  | _ => exact .inr (gen e)
theorem ri_eq : RI2 W (fun x y H Q => rEq x y H Q ∨ rEqD X.K x y H Q) eqI := by
  intro ι h H v w x y Q R rv rw r
  unfold eqI at r
  cases e : eqB h x y with
  | none => rw [e] at r; exact r.elim
  | some b =>
    rw [e] at r
    rcases eqB_dp (K := X.K) R rv rw e with ⟨h1, h2⟩ | ⟨d, d', h1, h2, h3, h4, h5⟩
    · exact .inl ⟨h1, by rw [h2]; exact run_pure (x := IV.bl _) r R (.bl _)⟩
    · exact .inr ⟨d, d', h1, h2, h3, h4, by rw [h5]; exact run_pure (x := IV.bl _) r R (.bl _)⟩
theorem ri_ne : RI2 W (fun x y H Q => rNe x y H Q ∨ rNeD X.K x y H Q) neI := by
  intro ι h H v w x y Q R rv rw r
  unfold neI at r
  cases e : eqB h x y with
  | none => rw [e] at r; exact r.elim
  | some b =>
    rw [e] at r
    rcases eqB_dp (K := X.K) R rv rw e with ⟨h1, h2⟩ | ⟨d, d', h1, h2, h3, h4, h5⟩
    · exact .inl ⟨h1, by rw [h2]; exact run_pure (x := IV.bl _) r R (.bl _)⟩
    · exact .inr ⟨d, d', h1, h2, h3, h4, by rw [h5]; exact run_pure (x := IV.bl _) r R (.bl _)⟩
theorem pei_eq (hu : X.A.units + 65 < cLine) (ha : PEI X W a ma) (hb : PEI X W b mb) : PEI X W (.Compare a [.Eq] [b] pos) (Bin eqI ma mb) := pei_cmp ri_eq (L2.OpR.or op_eq (op_eqD (by omega))) ha hb (nomark _)
theorem pei_ne (hu : X.A.units + 65 < cLine) (ha : PEI X W a ma) (hb : PEI X W b mb) : PEI X W (.Compare a [.NotEq] [b] pos) (Bin neI ma mb) := pei_cmp ri_ne (L2.OpR.or op_ne (op_neD (by omega))) ha hb (nomark _)
theorem dec_none {ι : List Addr} {H : Hp} {v : V} {x : IV} (rv : RV ι H v x) : decide (v = V.non) = isNone x := by cases rv <;> rfl
theorem pei_isN {j pos'} (ha : PEI X W a ma) : PEI X W (.Compare a [.Is] [.Constant .none j pos'] pos) (Un isN ma) := PE.weak (pe_cmp (pc_isN ha)) fun σ H Q ⟨ι, h, env, R, S, r⟩ =>
  ⟨ι, h, env, R, S, (run_bind (rel1 := RV) r).mono fun v H1 ⟨ι1, h1, x, R1, F1, rv, r1⟩ => by rw [dec_none rv]; exact run_pure r1 R1 (.bl _)⟩
theorem pei_isNN {j pos'} (ha : PEI X W a ma) : PEI X W (.Compare a [.IsNot] [.Constant .none j pos'] pos) (Un isNN ma) := PE.weak (pe_cmp (pc_notN ha)) fun σ H Q ⟨ι, h, env, R, S, r⟩ =>
  ⟨ι, h, env, R, S, (run_bind (rel1 := RV) r).mono fun v H1 ⟨ι1, h1, x, R1, F1, rv, r1⟩ => by rw [dec_none rv]; exact run_pure r1 R1 (.bl _)⟩
theorem pei_neg (ha : PEI X W a ma) : PEI X W (.UnaryOp .USub a pos) (Un negI ma) := pei_un (r := rU fun i => .int (-i)) (by
  intro ι h H v x Q R rv r
  cases rv with
  | int i => exact ⟨i, rfl, run_pure r R (.int _)⟩
  | _ => exact False.elim r) un_neg ha
end
end Iv
set_option Elab.async false
set_option linter.all false
set_option maxRecDepth 100000
set_option maxHeartbeats 2000000
set_option autoImplicit false
namespace Iv
open PySem L2
variable [KL]

/-! ### truth, tests -/
def truth (h : IH) : IV → Option Bool
  | .non => some false
  | .bl b => some b
  | .int i => some (i != 0)
  | .str s => if s.length ≤ lim then some ((s.length : Int) != 0) else none
  | .tup xs => some (!xs.isEmpty)
  | .fl xs => some (!xs.isEmpty)
  | .kl _ => none
  | .exo => none
  | .ref n => match h[n]? with
    | some (.lst xs) => some (!xs.isEmpty)
    | some (.dic kvs) => some (!kvs.isEmpty)
    | some (.fdc _) => none
    | none => none
def truM (x : IV) : M Bool := fun h => (truth h x).map fun b => (.ok b, h)
theorem RVs.isEmpty {ι : List Addr} {H : Hp} {vs : List V} {xs : List IV} (r : RVs ι H vs xs) : vs.isEmpty = xs.isEmpty := by cases r <;> rfl
theorem truth_ok {K : PySem.W.Frag} {ι : List Addr} {h : IH} {H : Hp} (R : Rel ι h H) {v : V} {x : IV} {b : Bool} (rv : RV ι H v x) (e : truth h x = some b) : TruV K v H b := by
  cases rv with
  | non => cases e; rfl
  | bl b => cases e; rfl
  | int i => cases e; rfl
  | str s =>
    have e' : (if s.length ≤ lim then some ((s.length : Int) != 0) else none) = some b := e
    split at e'
    · rename_i hl; cases e'; exact ⟨sz_of hl, rfl⟩
    · cases e'
  | tup e1 r => cases e; exact .inr (.inl ⟨_, st_of e1, by rw [r.isEmpty]⟩)
  | fl e1 _ r => cases e; exact .inl ⟨_, sf_of e1, by rw [r.isEmpty]⟩
  | kl _ _ => cases e
  | exo _ _ _ => cases e
  | @ref n a ea =>
    have e' : (match h[n]? with
      | some (.lst xs) => some (!xs.isEmpty)
      | some (.dic kvs) => some (!kvs.isEmpty)
      | some (.fdc _) => none
      | none => none) = some b := e
    split at e'
    · rename_i xs e2; cases e'
      obtain ⟨a', vs, q1, _, q2, r⟩ := R.lst (.ref ea) e2
      cases q1
      exact .inl ⟨vs, sq_of q2, by rw [r.isEmpty]⟩
    · rename_i xs e2; cases e'
      obtain ⟨a', vs, q1, _, q2, r⟩ := R.dic (.ref ea) e2
      cases q1
      exact .inr (.inr ⟨vs, q2, by cases r <;> rfl⟩)
    · cases e'
    · cases e'
/-- the truth of a value -/
def Tru (m : Env → M IV) : Env → M Bool := fun env => M.bind (m env) truM
def asB : IV → M Bool
  | .bl b => M.pure b
  | _ => stuck
def Tst (m : Env → M IV) : Env → M Bool := fun env => M.bind (m env) asB
def NotT (m : Env → M Bool) : Env → M Bool := fun env => M.bind (m env) fun b => M.pure (!b)
def AndT (m n : Env → M Bool) : Env → M Bool := fun env => M.bind (m env) fun b => if b = true then n env else M.pure false
def OrT (m n : Env → M Bool) : Env → M Bool := fun env => M.bind (m env) fun b => if b = true then M.pure true else n env
def IfE (c : Env → M Bool) (m n : Env → M IV) : Env → M IV := fun env => M.bind (c env) fun b => if b = true then m env else n env
def OrV (m n : Env → M IV) : Env → M IV := fun env => M.bind (m env) fun x => M.bind (truM x) fun b => if b = true then M.pure x else n env
def AndV (m n : Env → M IV) : Env → M IV := fun env => M.bind (m env) fun x => M.bind (truM x) fun b => if b = true then n env else M.pure x
def NotV (m : Env → M IV) : Env → M IV := fun env => M.bind (m env) fun x => M.bind (truM x) fun b => M.pure (.bl (!b))
section
variable {X : Cx} {W : ExW} {e a b c : Expr} {rest : List Expr} {m n : Env → M IV} {t u : Env → M Bool} {pos : Pos} {ι : List Addr} {h : IH} {H : Hp}
theorem run_tru {α β : Type} {rel : List Addr → Hp → β → α → Prop} {K : PySem.W.Frag} {v : V} {x : IV} {k : Bool → M α} {Q : β → Hp → Prop} (R : Rel ι h H) (rv : RV ι H v x) (r : Run W rel (M.bind (truM x) k h) ι H Q) :
    ∃ b, TruV K v H b ∧ Run W rel (k b h) ι H Q := by
  cases e : truth h x with
  | none =>
    have : M.bind (truM x) k h = none := by unfold M.bind truM; rw [e]; rfl
    rw [this] at r; exact r.elim
  | some b =>
    have : M.bind (truM x) k h = k b h := by unfold M.bind truM; rw [e]; rfl
    rw [this] at r
    exact ⟨b, truth_ok R rv e, r⟩
theorem pti_tru (ha : PEI X W a m) (he : ∀ whole, isTrue a X.env whole = (do let v ← whole; standAt a.pos; holding [v] (truthy v)) := by intro _; rfl) : PTI X W a (Tru m) := PT.weak (pt_truth ha he) fun σ H Q ⟨ι, h, env, R, S, r⟩ =>
  ⟨ι, h, env, R, S, (run_bind (rel1 := RV) r).mono fun v H1 ⟨ι1, h1, x, R1, F1, rv, r1⟩ => by
    cases e : truth h1 x with
    | none => unfold truM at r1; rw [e] at r1; exact r1.elim
    | some b => unfold truM at r1; rw [e] at r1; exact ⟨b, truth_ok R1 rv e, r1 ι1 H1 b R1 (Fr.refl _ _) rfl⟩⟩
theorem pti_of_pe {te : TE} {t : TT} (hp : PT X e t) (k : ∀ σ H Q, tTest te σ H Q → t σ H Q) (hw : ∀ σ H Q, tI W m σ H Q → te σ H Q) : PTI X W e (Tst m) := PT.weak hp fun σ H Q ⟨ι, h, env, R, S, r⟩ => by
  refine k _ _ _ (hw _ _ _ ⟨ι, h, env, R, S, (run_bind (rel1 := RV) r).mono fun v H1 ⟨ι1, h1, x, R1, F1, rv, r1⟩ => ?_⟩)
  cases rv with
  | bl b => exact ⟨b, rfl, r1 ι1 H1 b R1 (Fr.refl _ _) rfl⟩
  | _ => exact r1.elim
theorem pti_cmp {op : CmpOp} {r : R2} {g : IV → IV → M IV} (hr : RI2 W r g) (ho : OpR X (compareOp op) r) (ha : PEI X W a m) (hb : PEI X W b n) (hm : behindInMarks op b = false) : PTI X W (.Compare a [op] [b] pos) (Tst (Bin g m n)) :=
  pti_of_pe (pt_cmpR ho ha hb hm) (fun _ _ _ q => q) fun _ _ _ q => tI_bin hr q
theorem pti_lt (ha : PEI X W a m) (hb : PEI X W b n) : PTI X W (.Compare a [.Lt] [b] pos) (Tst (Bin ltI m n)) := pti_cmp (ri_ord fun a b H Q q => ⟨a, b, rfl, rfl, q⟩) (L2.OpR.or op_lt op_lt_str) ha hb (nomark _)
theorem pti_le (ha : PEI X W a m) (hb : PEI X W b n) : PTI X W (.Compare a [.LtE] [b] pos) (Tst (Bin leI m n)) := pti_cmp (ri_ord fun a b H Q q => ⟨a, b, rfl, rfl, q⟩) (L2.OpR.or op_le op_le_str) ha hb (nomark _)
theorem pti_gt (ha : PEI X W a m) (hb : PEI X W b n) : PTI X W (.Compare a [.Gt] [b] pos) (Tst (Bin gtI m n)) := pti_cmp (ri_ord fun a b H Q q => ⟨a, b, rfl, rfl, q⟩) (L2.OpR.or op_gt op_gt_str) ha hb (nomark _)
theorem pti_ge (ha : PEI X W a m) (hb : PEI X W b n) : PTI X W (.Compare a [.GtE] [b] pos) (Tst (Bin geI m n)) := pti_cmp (ri_ord fun a b H Q q => ⟨a, b, rfl, rfl, q⟩) (L2.OpR.or op_ge op_ge_str) ha hb (nomark _)
theorem pti_eq (hu : X.A.units + 65 < cLine) (ha : PEI X W a m) (hb : PEI X W b n) : PTI X W (.Compare a [.Eq] [b] pos) (Tst (Bin eqI m n)) := pti_cmp ri_eq (L2.OpR.or op_eq (op_eqD (by omega))) ha hb (nomark _)
theorem pti_ne (hu : X.A.units + 65 < cLine) (ha : PEI X W a m) (hb : PEI X W b n) : PTI X W (.Compare a [.NotEq] [b] pos) (Tst (Bin neI m n)) := pti_cmp ri_ne (L2.OpR.or op_ne (op_neD (by omega))) ha hb (nomark _)
theorem pti_isN {j pos'} (ha : PEI X W a m) : PTI X W (.Compare a [.Is] [.Constant .none j pos'] pos) (Tst (Un isN m)) := by
  refine PT.weak (pt_cmp (pc_isN ha)) fun σ H Q ⟨ι, h, env, R, S, r⟩ => ?_
  have r := run_bind (rel1 := RV) (m := Un isN m env) (k := asB) r
  refine ⟨ι, h, env, R, S, (run_bind (rel1 := RV) r).mono fun v H1 ⟨ι1, h1, x, R1, F1, rv, r1⟩ => ?_⟩
  rw [dec_none rv]
  obtain ⟨ι2, h2, y, R2, F2, ry, r2⟩ := run_pure r1 R1 (.bl _)
  cases ry
  exact ⟨_, rfl, r2 ι2 H1 _ R2 (Fr.refl _ _) rfl⟩
theorem pti_isNN {j pos'} (ha : PEI X W a m) : PTI X W (.Compare a [.IsNot] [.Constant .none j pos'] pos) (Tst (Un isNN m)) := by
  refine PT.weak (pt_cmp (pc_notN ha)) fun σ H Q ⟨ι, h, env, R, S, r⟩ => ?_
  have r := run_bind (rel1 := RV) (m := Un isNN m env) (k := asB) r
  refine ⟨ι, h, env, R, S, (run_bind (rel1 := RV) r).mono fun v H1 ⟨ι1, h1, x, R1, F1, rv, r1⟩ => ?_⟩
  rw [dec_none rv]
  obtain ⟨ι2, h2, y, R2, F2, ry, r2⟩ := run_pure r1 R1 (.bl _)
  cases ry
  exact ⟨_, rfl, r2 ι2 H1 _ R2 (Fr.refl _ _) rfl⟩
theorem tT_bind {γ : Type} {k : Bool → Env → M γ} {δ : Type} {rel : List Addr → Hp → δ → γ → Prop} {σ : L2.St} {Q : δ → Hp → Prop} (s : ∃ ι h env, Rel ι h H ∧ RSt ι H σ env ∧ Run W rel (M.bind (t env) (fun b => k b env) h) ι H Q) :
    tIT W t σ H fun b H1 => ∃ ι h env, Rel ι h H1 ∧ RSt ι H1 σ env ∧ Run W rel (k b env h) ι H1 Q := by
  obtain ⟨ι, h, env, R, S, r⟩ := s
  refine ⟨ι, h, env, R, S, (run_bind (rel1 := RB) r).mono fun b H1 ⟨ι1, h1, x, R1, F1, rv, r1⟩ => ?_⟩
  cases (show b = x from rv)
  exact ⟨ι1, h1, env, R1, S.mono R F1, r1⟩
theorem pti_not (ha : PTI X W a t) : PTI X W (.UnaryOp .Not a pos) (NotT t) := PT.weak (pt_not ha) fun σ H Q s =>
  let ⟨ι, h, env, R, S, r⟩ := tT_bind (k := fun b _ => M.pure (!b)) s
  ⟨ι, h, env, R, S, r.mono fun b H1 ⟨ι1, h1, env1, R1, S1, r1⟩ => r1 ι1 H1 _ R1 (Fr.refl _ _) rfl⟩
def PWI (X : Cx) (W : ExW) (e : Expr) (m : Env → M Bool) : Prop := PW X e (tIT W m)
theorem PWI.pt (h : PWI X W e t) : PTI X W e t := PW.pt h
theorem pwi_and1 (ha : PTI X W a t) : PWI X W (.BoolOp .And [a] pos) t := pw_and1 ha
theorem pwi_or1 (ha : PTI X W a t) : PWI X W (.BoolOp .Or [a] pos) t := pw_or1 ha
theorem pwi_and (ha : PTI X W a t) (hb : PWI X W (.BoolOp .And (b :: rest) pos) u) : PWI X W (.BoolOp .And (a :: b :: rest) pos) (AndT t u) := PW.weak (pw_and ha hb) fun σ H Q s =>
  let ⟨ι, h, env, R, S, r⟩ := tT_bind (k := fun b env => if b = true then u env else M.pure false) s
  ⟨ι, h, env, R, S, r.mono fun b H1 ⟨ι1, h1, env1, R1, S1, r1⟩ => by
    cases b with
    | true => exact iteT ⟨ι1, h1, env1, R1, S1, r1⟩
    | false => exact iteF (r1 ι1 H1 _ R1 (Fr.refl _ _) rfl)⟩
theorem pwi_or (ha : PTI X W a t) (hb : PWI X W (.BoolOp .Or (b :: rest) pos) u) : PWI X W (.BoolOp .Or (a :: b :: rest) pos) (OrT t u) := PW.weak (pw_or ha hb) fun σ H Q s =>
  let ⟨ι, h, env, R, S, r⟩ := tT_bind (k := fun b env => if b = true then M.pure true else u env) s
  ⟨ι, h, env, R, S, r.mono fun b H1 ⟨ι1, h1, env1, R1, S1, r1⟩ => by
    cases b with
    | true => exact iteT (r1 ι1 H1 _ R1 (Fr.refl _ _) rfl)
    | false => exact iteF ⟨ι1, h1, env1, R1, S1, r1⟩⟩
theorem pei_ifE (hc : PTI X W c t) (ha : PEI X W a m) (hb : PEI X W b n) : PEI X W (.IfExp c a b pos) (IfE t m n) := PE.weak (pe_ifExp hc ha hb) fun σ H Q s =>
  let ⟨ι, h, env, R, S, r⟩ := tT_bind (k := fun b env => if b = true then m env else n env) s
  ⟨ι, h, env, R, S, r.mono fun b H1 ⟨ι1, h1, env1, R1, S1, r1⟩ => by
    cases b with
    | true => exact iteT ⟨ι1, h1, env1, R1, S1, r1⟩
    | false => exact iteF ⟨ι1, h1, env1, R1, S1, r1⟩⟩
theorem pei_one {op} (h : PEI X W a m) : PEI X W (.BoolOp op [a] pos) m := pe_one h
theorem pei_or (ha : PEI X W a m) (hb : PEI X W (.BoolOp .Or (b :: rest) pos) n) : PEI X W (.BoolOp .Or (a :: b :: rest) pos) (OrV m n) := PE.weak (pe_orT ha hb) fun σ H Q ⟨ι, h, env, R, S, r⟩ =>
  ⟨ι, h, env, R, S, (run_bind (rel1 := RV) r).mono fun v H1 ⟨ι1, h1, x, R1, F1, rv, r1⟩ => by
    obtain ⟨k, ht, r2⟩ := run_tru (K := X.K) R1 rv r1
    refine ⟨k, ht, ?_⟩
    cases k with
    | true => exact iteT (run_pure r2 R1 rv)
    | false => exact iteF ⟨ι1, h1, env, R1, S.mono R F1, r2⟩⟩
theorem pei_and (ha : PEI X W a m) (hb : PEI X W (.BoolOp .And (b :: rest) pos) n) : PEI X W (.BoolOp .And (a :: b :: rest) pos) (AndV m n) := PE.weak (pe_andT ha hb) fun σ H Q ⟨ι, h, env, R, S, r⟩ =>
  ⟨ι, h, env, R, S, (run_bind (rel1 := RV) r).mono fun v H1 ⟨ι1, h1, x, R1, F1, rv, r1⟩ => by
    obtain ⟨k, ht, r2⟩ := run_tru (K := X.K) R1 rv r1
    refine ⟨k, ht, ?_⟩
    cases k with
    | true => exact iteT ⟨ι1, h1, env, R1, S.mono R F1, r2⟩
    | false => exact iteF (run_pure r2 R1 rv)⟩
theorem pei_notV (ha : PEI X W a m) : PEI X W (.UnaryOp .Not a pos) (NotV m) := PE.weak (pe_notT ha) fun σ H Q ⟨ι, h, env, R, S, r⟩ =>
  ⟨ι, h, env, R, S, (run_bind (rel1 := RV) r).mono fun v H1 ⟨ι1, h1, x, R1, F1, rv, r1⟩ => by
    obtain ⟨k, ht, r2⟩ := run_tru (K := X.K) R1 rv r1
    exact ⟨k, ht, run_pure r2 R1 (.bl _)⟩⟩
/-- a < b < c -/
def Chain (g g' : IV → IV → M IV) (ma mb mc : Env → M IV) : Env → M IV := fun env => M.bind (ma env) fun x => M.bind (mb env) fun y => M.bind (g x y) fun z => M.bind (asB z) fun k => if k = true then M.bind (mc env) fun w => g' y w else M.pure (.bl false)
theorem tI_chain {g g' : IV → IV → M IV} {r r' : R2} {ma mb mc : Env → M IV} (hr : RI2 W r g) (hr' : RI2 W r' g') {σ : L2.St} {Q : VK} (s : tI W (Chain g g' ma mb mc) σ H Q) : tChain r r' (tI W ma) (tI W mb) (tI W mc) σ H Q := by
  obtain ⟨ι, h, env, R, S, r0⟩ := s
  refine ⟨ι, h, env, R, S, (run_bind (rel1 := RV) r0).mono fun v H1 ⟨ι1, h1, x, R1, F1, rv, r1⟩ => ?_⟩
  refine ⟨ι1, h1, env, R1, S.mono R F1, (run_bind (rel1 := RV) r1).mono fun w H2 ⟨ι2, h2, y, R2, F2, rw, r2⟩ => ?_⟩
  refine hr ι2 h2 H2 v w x y _ R2 (R1.mono F2 rv) rw ((run_bind (rel1 := RV) r2).mono fun z H3 ⟨ι3, h3, zz, R3, F3, rz, r3⟩ => ?_)
  cases rz with
  | bl k =>
    refine ⟨k, rfl, ?_⟩
    have r3' : Run W RV ((if k = true then M.bind (mc env) fun w => g' y w else M.pure (.bl false)) h3) ι3 H3 Q := r3
    cases k with
    | true => exact iteT ⟨ι3, h3, env, R3, (S.mono R (F1.trans F2)).mono (h := h2) R2 F3, (run_bind (rel1 := RV) r3').mono fun w' H4 ⟨ι4, h4, ww, R4, F4, rw', r4⟩ => hr' ι4 h4 H4 w w' y ww Q R4 (R3.mono F4 (R2.mono F3 rw)) rw' r4⟩
    | false => exact iteF (run_pure r3' R3 (.bl _))
  | _ => exact r3.elim
theorem pei_lele {ma mb mc : Env → M IV} (ha : PEI X W a ma) (hb : PEI X W b mb) (hc : PEI X W c mc) (hm : lastMarks [.LtE, .LtE] [b, c] = false := by rfl) : PEI X W (.Compare a [.LtE, .LtE] [b, c] pos) (Chain leI leI ma mb mc) := PE.weak (pe_chain (L2.OpR.or op_le op_le_str) (L2.OpR.or op_le op_le_str) ha hb hc hm) fun _ _ _ q => tI_chain (ri_ord fun a b H Q q => ⟨a, b, rfl, rfl, q⟩) (ri_ord fun a b H Q q => ⟨a, b, rfl, rfl, q⟩) q
theorem pei_lelt {ma mb mc : Env → M IV} (ha : PEI X W a ma) (hb : PEI X W b mb) (hc : PEI X W c mc) (hm : lastMarks [.LtE, .Lt] [b, c] = false := by rfl) : PEI X W (.Compare a [.LtE, .Lt] [b, c] pos) (Chain leI ltI ma mb mc) := PE.weak (pe_chain (L2.OpR.or op_le op_le_str) (L2.OpR.or op_lt op_lt_str) ha hb hc hm) fun _ _ _ q => tI_chain (ri_ord fun a b H Q q => ⟨a, b, rfl, rfl, q⟩) (ri_ord fun a b H Q q => ⟨a, b, rfl, rfl, q⟩) q
theorem pei_ltlt {ma mb mc : Env → M IV} (ha : PEI X W a ma) (hb : PEI X W b mb) (hc : PEI X W c mc) (hm : lastMarks [.Lt, .Lt] [b, c] = false := by rfl) : PEI X W (.Compare a [.Lt, .Lt] [b, c] pos) (Chain ltI ltI ma mb mc) := PE.weak (pe_chain (L2.OpR.or op_lt op_lt_str) (L2.OpR.or op_lt op_lt_str) ha hb hc hm) fun _ _ _ q => tI_chain (ri_ord fun a b H Q q => ⟨a, b, rfl, rfl, q⟩) (ri_ord fun a b H Q q => ⟨a, b, rfl, rfl, q⟩) q
end

/-! ### in, subscripts, slices -/
def toV : IV → V
  | .non => .non
  | .bl b => .bl b
  | .int i => .int i
  | .str s => .str s
  | _ => .non
def flatI : IV → Bool
  | .non => true
  | .bl _ => true
  | .int _ => true
  | .str _ => true
  | _ => false
theorem RV.flat {ι : List Addr} {H : Hp} {v : V} {x : IV} (r : RV ι H v x) (f : flatI x = true) : v = toV x ∧ flatV v = true := by
  cases r with
  | non => exact ⟨rfl, rfl⟩
  | bl => exact ⟨rfl, rfl⟩
  | int => exact ⟨rfl, rfl⟩
  | str => exact ⟨rfl, rfl⟩
  | _ => cases f
theorem RVs.flat {ι : List Addr} {H : Hp} {vs : List V} {xs : List IV} (r : RVs ι H vs xs) (f : xs.all flatI = true) : vs = xs.map toV ∧ vs.all flatV = true := by
  induction xs generalizing vs with
  | nil => cases r; exact ⟨rfl, rfl⟩
  | cons x xs ih =>
    cases r with
    | cons a r =>
      rw [List.all_cons, Bool.and_eq_true] at f
      obtain ⟨e1, f1⟩ := a.flat f.1
      obtain ⟨e2, f2⟩ := ih r f.2
      rw [e1] at f1 ⊢
      rw [e2] at f2 ⊢
      exact ⟨rfl, by rw [List.all_cons, f1, f2]; rfl⟩
def keyI : IV → Option Key
  | .int i => some (.inl i)
  | .str s => some (.inr s)
  | _ => none
theorem key_ok {ι : List Addr} {H : Hp} {v : V} {x : IV} {k : Key} (r : RV ι H v x) (e : keyI x = some k) : v = kV k := by
  cases r with
  | int => cases e; rfl
  | str => cases e; rfl
  | _ => cases e
def valI (kvs : List (Key × IV)) (k : Key) : Option IV := (kvs.find? fun kv => decide (kv.1 = k)).map (·.2)
def putI (kvs : List (Key × IV)) (k : Key) (v : IV) : List (Key × IV) :=
  if (kvs.any fun kv => decide (kv.1 = k)) = true then kvs.map (fun kv => if kv.1 = k then (kv.1, v) else kv) else kvs ++ [(k, v)]
section
variable {ι : List Addr} {H : Hp}
theorem RKs.val {ks : List (Key × V)} {kvs : List (Key × IV)} (r : RKs ι H ks kvs) (k : Key) : (valV ks k = none ∧ valI kvs k = none) ∨ ∃ v x, valV ks k = some v ∧ valI kvs k = some x ∧ RV ι H v x := by
  induction r with
  | nil => exact .inl ⟨rfl, rfl⟩
  | @cons k' v x vs xs a r ih =>
    by_cases e : k' = k
    · refine .inr ⟨v, x, ?_, ?_, a⟩
      · exact valV_pos e
      · simp [valI, List.find?_cons, e]
    · have e1 : valV ((k', v) :: vs) k = valV vs k := valV_neg e
      have e2 : valI ((k', x) :: xs) k = valI xs k := by simp [valI, List.find?_cons, e]
      rw [e1, e2]
      exact ih
theorem RKs.append {ks ks' : List (Key × V)} {kvs kvs' : List (Key × IV)} (r : RKs ι H ks kvs) (r2 : RKs ι H ks' kvs') : RKs ι H (ks ++ ks') (kvs ++ kvs') := by
  induction r with
  | nil => exact r2
  | cons a _ ih => exact .cons a ih
theorem RKs.length {ks : List (Key × V)} {kvs : List (Key × IV)} (r : RKs ι H ks kvs) : ks.length = kvs.length := by
  induction r with
  | nil => rfl
  | cons a _ ih => simp [ih]
theorem RKs.any {ks : List (Key × V)} {kvs : List (Key × IV)} (r : RKs ι H ks kvs) (k : Key) : (ks.any fun kv => decide (kv.1 = k)) = (kvs.any fun kv => decide (kv.1 = k)) := by
  induction r with
  | nil => rfl
  | cons a _ ih => simp [ih]
theorem RKs.put {ks : List (Key × V)} {kvs : List (Key × IV)} (r : RKs ι H ks kvs) {k : Key} {v : V} {x : IV} (a : RV ι H v x) : RKs ι H (putK ks k v) (putI kvs k x) := by
  unfold putK putI
  rw [r.any]
  by_cases hc : (kvs.any fun kv => decide (kv.1 = k)) = true
  · rw [if_pos hc, if_pos hc]
    clear hc
    induction r with
    | nil => exact .nil
    | @cons k' v' x' vs xs b r ih =>
      rw [List.map_cons, List.map_cons]
      by_cases e : k' = k
      · simp only [e, if_true]
        exact .cons a ih
      · simp only [e, if_false]
        exact .cons b ih
  · rw [if_neg hc, if_neg hc]
    exact r.append (.cons a .nil)
end
def inM (neg : Bool) (x y : IV) : M IV := fun h => match y with
  | .str b => match x with
    | .str a => some (.ok (.bl (if neg then !(!(Builtin.Str.occurrences b a 0 b.length 1).isEmpty) else !(Builtin.Str.occurrences b a 0 b.length 1).isEmpty)), h)
    | _ => none
  | y => match seqI h y with
    | some ys => if flatI x = true ∧ ys.all flatI = true then some (.ok (.bl (if neg then !inV (toV x) (ys.map toV) else inV (toV x) (ys.map toV))), h) else none
    | none => match y with
      | .ref n => match h[n]?, keyI x with
        | some (.dic kvs), some k => some (.ok (.bl (if neg then !(valI kvs k).isSome else (valI kvs k).isSome)), h)
        | some (.fdc kvs), some k => some (.ok (.bl (if neg then !(valI kvs k).isSome else (valI kvs k).isSome)), h)
        | _, _ => none
      | _ => none
def rInD1 (neg : Bool) : R2 := fun y x H Q => ∃ a o, x = .ref a ∧ DGet H a y o ∧ Q (.bl (if neg then !o.isSome else o.isSome)) H
def rInS1 (neg : Bool) : R2 := fun x y H Q => ∃ i j, x = .str i ∧ y = .str j ∧ Q (.bl (if neg then !(!(Builtin.Str.occurrences j i 0 j.length 1).isEmpty) else !(Builtin.Str.occurrences j i 0 j.length 1).isEmpty)) H
def rInI (K : PySem.W.Frag) (neg : Bool) : R2 := fun x y H Q => rIn K neg x y H Q ∨ rInD1 neg x y H Q ∨ rInS1 neg x y H Q
section
variable {X : Cx} {W : ExW} {a b c e : Expr} {m n : Env → M IV} {pos : Pos} {ι : List Addr} {h : IH} {H : Hp}
theorem op_inI (hu : X.A.units + 65 < cLine) : OpR X (compareOp .In) (rInI X.K false) := L2.OpR.or op_in_seq (L2.OpR.or (fun pins s σ H y x v u Q I ry rx ⟨a, ov, ex, g, q⟩ => by
  subst ex
  obtain rfl : u = Value.ref a := rx
  exact d_in (by omega) I g ry fun s3 I3 => ⟨.bl ov.isSome, H, I3, rfl, q⟩) op_in_str)
theorem op_notInI (hu : X.A.units + 65 < cLine) : OpR X (compareOp .NotIn) (rInI X.K true) := L2.OpR.or op_notIn_seq (L2.OpR.or (fun pins s σ H y x v u Q I ry rx ⟨a, ov, ex, g, q⟩ => by
  subst ex
  obtain rfl : u = Value.ref a := rx
  exact d_notIn (by omega) I g ry fun s3 I3 => ⟨.bl (!ov.isSome), H, I3, rfl, q⟩) op_notin_str)
theorem ri_in (neg : Bool) : RI2 W (rInI X.K neg) (inM neg) := by
  intro ι h H v w x y Q R rv rw r
  have seq : ∀ ys, seqI h y = some ys → Run W RV (if flatI x = true ∧ ys.all flatI = true then some (.ok (.bl (if neg then !inV (toV x) (ys.map toV) else inV (toV x) (ys.map toV))), h) else none) ι H Q → rInI X.K neg v w H Q := by
    intro ys e r
    split at r
    · rename_i hf
      obtain ⟨a, vs, e1, rs, e2⟩ := seq_ok (K := X.K) R rw e
      obtain ⟨q1, f1⟩ := rv.flat hf.1
      obtain ⟨q2, f2⟩ := rs.flat hf.2
      refine .inl ⟨a, vs, e1, e2, f1, f2, ?_⟩
      rw [q1, q2]
      exact run_pure (x := IV.bl _) r R (.bl _)
    · exact r.elim
  cases rw with
  | non => exact r.elim
  | bl => exact r.elim
  | int => exact r.elim
  | str b =>
    cases rv with
    | str a => exact .inr (.inr ⟨a, b, rfl, rfl, run_pure (x := IV.bl _) r R (.bl _)⟩)
    | _ => exact r.elim
  | tup e1 r1 => exact seq _ rfl r
  | fl e1 n1 r1 => exact seq _ rfl r
  | kl _ _ => exact r.elim
  | exo _ _ _ => exact r.elim
  | @ref k a ea =>
    have r' : Run W RV (match seqI h (.ref k) with
      | some ys => if flatI x = true ∧ ys.all flatI = true then some (.ok (.bl (if neg then !inV (toV x) (ys.map toV) else inV (toV x) (ys.map toV))), h) else none
      | none => match h[k]?, keyI x with
        | some (.dic kvs), some k => some (.ok (.bl (if neg then !(valI kvs k).isSome else (valI kvs k).isSome)), h)
        | some (.fdc kvs), some k => some (.ok (.bl (if neg then !(valI kvs k).isSome else (valI kvs k).isSome)), h)
        | _, _ => none) ι H Q := r
    split at r'
    · rename_i ys e
      exact seq ys e r'
    · split at r'
      · rename_i kvs kk e1 e2
        obtain ⟨a', ks, q1, _, q2, rk⟩ := R.dic (.ref ea) e1
        cases q1
        refine .inr (.inl ⟨_, valV ks kk, rfl, ?_, ?_⟩)
        · rw [key_ok rv e2]; exact DGet.k q2
        · have e3 : (valV ks kk).isSome = (valI kvs kk).isSome := by
            rcases rk.val kk with ⟨z1, z2⟩ | ⟨_, _, z1, z2, _⟩ <;> rw [z1, z2] <;> rfl
          rw [e3]
          exact run_pure (x := IV.bl _) r' R (.bl _)
      · rename_i kvs kk e1 e2
        obtain ⟨a', ob, ks, q1, _, q2, rk⟩ := R.fdc (.ref ea) e1
        cases q1
        refine .inr (.inl ⟨_, valV ks kk, rfl, ?_, ?_⟩)
        · rw [key_ok rv e2]; exact .inl ⟨ks, kk, .inr ⟨ob, q2⟩, rfl, rfl⟩
        · have e3 : (valV ks kk).isSome = (valI kvs kk).isSome := by
            rcases rk.val kk with ⟨z1, z2⟩ | ⟨_, _, z1, z2, _⟩ <;> rw [z1, z2] <;> rfl
          rw [e3]
          exact run_pure (x := IV.bl _) r' R (.bl _)
      · exact r'.elim
theorem pei_in (hu : X.A.units + 65 < cLine) (ha : PEI X W a m) (hb : PEI X W b n) (hm : behindInMarks .In b = false := by with_unfolding_all rfl) : PEI X W (.Compare a [.In] [b] pos) (Bin (inM false) m n) := pei_cmp (ri_in false) (op_inI hu) ha hb hm
theorem pei_nin (hu : X.A.units + 65 < cLine) (ha : PEI X W a m) (hb : PEI X W b n) (hm : behindInMarks .NotIn b = false := by with_unfolding_all rfl) : PEI X W (.Compare a [.NotIn] [b] pos) (Bin (inM true) m n) := pei_cmp (ri_in true) (op_notInI hu) ha hb hm
theorem pti_in (hu : X.A.units + 65 < cLine) (ha : PEI X W a m) (hb : PEI X W b n) (hm : behindInMarks .In b = false := by with_unfolding_all rfl) : PTI X W (.Compare a [.In] [b] pos) (Tst (Bin (inM false) m n)) := pti_cmp (ri_in false) (op_inI hu) ha hb hm
theorem pti_nin (hu : X.A.units + 65 < cLine) (ha : PEI X W a m) (hb : PEI X W b n) (hm : behindInMarks .NotIn b = false := by with_unfolding_all rfl) : PTI X W (.Compare a [.NotIn] [b] pos) (Tst (Bin (inM true) m n)) := pti_cmp (ri_in true) (op_notInI hu) ha hb hm
end
/-- a[b] -/
def ixS (h : IH) (xs : List IV) : IV → Option (Out IV × IH)
  | .int i => match atI xs i with
    | some z => some (.ok z, h)
    | none => none
  | _ => none
def ixT (h : IH) (z : Str) : IV → Option (Out IV × IH)
  | .int i => if z.length ≤ lim then (match atI z.cps.toList i with | some c => some (.ok (.str ⟨#[c]⟩), h) | none => none) else none
  | _ => none
def ixD (h : IH) (n : Nat) (y : IV) : Option (Out IV × IH) := match h[n]?, keyI y with
  | some (.dic kvs), some k => (match valI kvs k with | some z => some (.ok z, h) | none => none)
  | some (.fdc kvs), some k => (match valI kvs k with | some z => some (.ok z, h) | none => none)
  | _, _ => none
def ixM (x y : IV) : M IV := fun h => match x with
  | .str z => ixT h z y
  | .tup xs => ixS h xs y
  | .fl xs => ixS h xs y
  | .ref n => match h[n]? with
    | some (.lst xs) => ixS h xs y
    | some (.dic _) => ixD h n y
    | some (.fdc _) => ixD h n y
    | none => none
  | _ => none
def rIxD1 : R2 := fun x y H Q => ∃ a v, x = .ref a ∧ DGet H a y (some v) ∧ Q v H
section
variable {X : Cx} {W : ExW} {a b c e : Expr} {m n : Env → M IV} {pos p2 : Pos} {ι : List Addr} {h : IH} {H : Hp}
theorem ix_dict (hu : X.A.units + 65 < cLine) : IxR X rIxD1 := by
  intro value slice pins s σ H x y v u Q I rx ry hq hs
  obtain ⟨a, w, ex, g, q⟩ := hq
  subst ex
  obtain rfl : v = Value.ref a := rx
  have hT := dict_typeIs I g
  unfold PyProof.Rows.subscriptTail
  refine wpAny_bind ?_
  rw [getitemInPython_of_ne hT.not_modules]
  refine wpAny_bind (wpAny_specialOf hT PySem.F.slot_dict_getitem.lookup ?_)
  have fin : wpAny (model X.prog X.w) X.A (subscripted slice false (Value.ref a) u) (fun r s₃ => wpAny (model X.prog X.w) X.A (letTemporaryGo value (Value.ref a) r >>= fun _ => pure r) (EP X pins σ Q) X.xe s₃) X.xe s := by
    rw [hs]
    exact wpAny_operating (d_getItem (by omega) I g ry fun w' s3 I3 rw' => wpAny_bind (wpAny_letTemporaryGo (wpAny_pure ⟨w, H, I3, rw', q⟩)))
  first
    | exact wpAny_pure (wpAny_bind fin)
    | exact wpAny_bind (wpAny_pure (wpAny_bind fin))
    | exact wpAny_bind fin
theorem atI_get {α : Type} {xs : List α} {i : Int} {x : α} (e : atI xs i = some x) : ∃ j : Nat, ixN xs.length i = some j ∧ xs[j]? = some x := by
  unfold atI at e
  cases q : ixN xs.length i with
  | none => rw [q] at e; cases e
  | some j => rw [q] at e; exact ⟨j, rfl, e⟩
theorem RVs.atI {vs : List V} {xs : List IV} (r : RVs ι H vs xs) {i : Int} {x : IV} (e : L2.atI xs i = some x) : ∃ v, L2.atI vs i = some v ∧ RV ι H v x := by
  obtain ⟨j, e1, e2⟩ := atI_get e
  obtain ⟨v, e3, rv⟩ := r.get e2
  refine ⟨v, ?_, rv⟩
  unfold L2.atI
  rw [r.length, e1]
  exact e3
theorem ri_ix : RI2 W (fun x y H Q => rIx X.K x y H Q ∨ rIxD1 x y H Q) ixM := by
  intro ι h H v w x y Q R rv rw r
  have seq : ∀ xs a vs, v = .ref a → RVs ι H vs xs → (SqL X.K H a vs ∨ SqT X.K H a vs) → Run W RV (ixS h xs y) ι H Q → rIx X.K v w H Q ∨ rIxD1 v w H Q := by
    intro xs a vs q1 rs q2 r
    cases rw with
    | int i =>
      have r' : Run W RV (match atI xs i with
        | some z => some (.ok z, h)
        | none => none) ι H Q := r
      split at r'
      · rename_i z e1
        obtain ⟨u, q3, ru⟩ := rs.atI e1
        have qq := run_pure r' R ru
        rcases q2 with q2 | q2
        · exact .inl (.inl ⟨a, vs, i, u, q1, rfl, q2, q3, qq⟩)
        · exact .inl (.inr (.inl ⟨a, vs, i, u, q1, rfl, q2, q3, qq⟩))
      · exact r'.elim
    | _ => exact r.elim
  cases rv with
  | non => exact r.elim
  | bl => exact r.elim
  | int => exact r.elim
  | str z =>
    cases rw with
    | int i =>
      have r' : Run W RV (if z.length ≤ lim then (match atI z.cps.toList i with | some c => some (.ok (.str ⟨#[c]⟩), h) | none => none) else none) ι H Q := r
      split at r'
      · rename_i hl
        split at r'
        · rename_i c e1
          exact .inl (.inr (.inr ⟨z, i, c, rfl, rfl, sz_of hl, e1, run_pure (x := IV.str _) r' R (.str _)⟩))
        · exact r'.elim
      · exact r'.elim
    | _ => exact r.elim
  | tup e1 r1 => exact seq _ _ _ rfl r1 (.inr (st_of e1)) r
  | fl e1 n1 r1 => exact seq _ _ _ rfl r1 (.inl (sf_of e1)) r
  | kl _ _ => exact r.elim
  | exo _ _ _ => exact r.elim
  | @ref k a ea =>
    have dct : Run W RV (ixD h k y) ι H Q → rIx X.K (V.ref a) w H Q ∨ rIxD1 (V.ref a) w H Q := fun r' => by
      unfold ixD at r'
      split at r'
      · rename_i kvs kk e1 e2
        obtain ⟨a', ks, q1, _, q2, rk⟩ := R.dic (.ref ea) e1
        cases q1
        split at r'
        · rename_i z e3
          rcases rk.val kk with ⟨z1, z2⟩ | ⟨u, x1, z1, z2, ru⟩
          · rw [e3] at z2; cases z2
          · rw [e3] at z2; cases z2
            refine .inr ⟨_, u, rfl, ?_, run_pure r' R ru⟩
            rw [key_ok rw e2, ← z1]; exact DGet.k q2
        · exact r'.elim
      · rename_i kvs kk e1 e2
        obtain ⟨a', ob, ks, q1, _, q2, rk⟩ := R.fdc (.ref ea) e1
        cases q1
        split at r'
        · rename_i z e3
          rcases rk.val kk with ⟨z1, z2⟩ | ⟨u, x1, z1, z2, ru⟩
          · rw [e3] at z2; cases z2
          · rw [e3] at z2; cases z2
            refine .inr ⟨_, u, rfl, ?_, run_pure r' R ru⟩
            rw [key_ok rw e2, ← z1]; exact .inl ⟨ks, kk, .inr ⟨ob, q2⟩, rfl, rfl⟩
        · exact r'.elim
      · exact r'.elim
    have r' : Run W RV (match h[k]? with
      | some (.lst xs) => ixS h xs y
      | some (.dic _) => ixD h k y
      | some (.fdc _) => ixD h k y
      | none => none) ι H Q := r
    split at r'
    · rename_i ys e
      obtain ⟨a', vs, q1, _, q2, rs⟩ := R.lst (.ref ea) e
      exact seq ys a' vs q1 rs (.inl (sq_of q2)) r'
    · exact dct r'
    · exact dct r'
    · exact r'.elim
theorem pei_ix (hu : X.A.units + 65 < cLine) (ha : PEI X W a m) (hb : PEI X W b n) (hs : PlainIx b := by exact fun _ _ => rfl) : PEI X W (.Subscript a b pos) (Bin ixM m n) := PE.weak (pe_ix (ix_seq.or (ix_dict hu)) ha hb hs) fun σ H Q t => tI_bin ri_ix t
/-- a[lo:hi] -/
def cutI (xs : List IV) (lo hi : Option Int) : List IV := (xs.drop (HT.sIx xs.length 0 lo)).take (HT.sIx xs.length xs.length hi - HT.sIx xs.length 0 lo)
theorem RVs.cut {vs : List V} {xs : List IV} (r : RVs ι H vs xs) (lo hi : Option Int) : RVs ι H (cutV vs lo hi) (cutI xs lo hi) := by
  unfold cutV cutI
  rw [r.length]
  exact (r.drop _).take _
def slM (x : IV) (lo hi : Option Int) : M IV := fun h => match x with
  | .str z => if z.length ≤ lim then some (.ok (.str (cutS z lo hi)), h) else none
  | .tup xs => some (.ok (.tup (cutI xs lo hi)), h)
  | .fl xs => mkL (cutI xs lo hi) h
  | .kl xs => mkL (cutI xs lo hi) h
  | .ref n => match h[n]? with
    | some (.lst xs) => mkL (cutI xs lo hi) h
    | _ => none
  | _ => none
abbrev EnvO := Env → M (Option Int)
def NoO : EnvO := fun _ => M.pure none
def asI : IV → M (Option Int)
  | .int i => M.pure (some i)
  | _ => stuck
def SoO (m : Env → M IV) : EnvO := fun env => M.bind (m env) asI
def Sl (m : Env → M IV) (lo hi : EnvO) : Env → M IV := fun env => M.bind (m env) fun x => M.bind (lo env) fun l => M.bind (hi env) fun u => slM x l u
def ROp (_ : List Addr) (_ : Hp) (a b : Option Int) : Prop := a = b
def tIO (W : ExW) (m : EnvO) : TO := fun σ H Q => ∃ ι h env, Rel ι h H ∧ RSt ι H σ env ∧ Run W ROp (m env h) ι H Q
def POI (X : Cx) (W : ExW) (e : Option Expr) (m : EnvO) : Prop := PO X e (tIO W m)
theorem PO.weak {e : Option Expr} {t t' : TO} (h : PO X e t) (k : ∀ σ H Q, t' σ H Q → t σ H Q) : PO X e t' := ⟨fun pins s σ H Q I q => h.run pins s σ H Q I (k σ H Q q)⟩
theorem poi_none : POI X W none NoO := PO.weak po_none fun σ H Q ⟨ι, h, env, R, S, r⟩ => r ι H _ R (Fr.refl _ _) rfl
theorem poi_some (he : PEI X W e m) : POI X W (some e) (SoO m) := PO.weak (po_some he) fun σ H Q ⟨ι, h, env, R, S, r⟩ =>
  ⟨ι, h, env, R, S, (run_bind (rel1 := RV) r).mono fun v H1 ⟨ι1, h1, x, R1, F1, rv, r1⟩ => by
    cases rv with
    | int i => exact ⟨i, rfl, r1 ι1 H1 _ R1 (Fr.refl _ _) rfl⟩
    | _ => exact r1.elim⟩
theorem cut_whole {α : Type} (xs : List α) (lo hi : Option Int) (e : HT.sIx xs.length 0 lo = 0 ∧ HT.sIx xs.length xs.length hi = xs.length) : (xs.drop (HT.sIx xs.length 0 lo)).take (HT.sIx xs.length xs.length hi - HT.sIx xs.length 0 lo) = xs := by
  rw [e.1, e.2]; simp
theorem pei_sl {lo hi : Option Expr} {ml mh : EnvO} (hk : ∀ a vs H, KL.p a vs → SqL X.K H a vs) (he : PEI X W e m) (hl : POI X W lo ml) (hh : POI X W hi mh) : PEI X W (.Subscript e (.Slice lo hi none p2) pos) (Sl m ml mh) := by
  refine PE.weak (pe_slice (r := fun x lo hi H Q => rSlL X.K x lo hi H Q ∨ rSlA X.K x lo hi H Q ∨ rSlS x lo hi H Q) (sl_list.or (sl_tupA.or sl_str)) he hl hh) fun σ H Q ⟨ι, h, env, R, S, r⟩ => ?_
  refine ⟨ι, h, env, R, S, (run_bind (rel1 := RV) r).mono fun v H1 ⟨ι1, h1, x, R1, F1, rv, r1⟩ => ?_⟩
  refine ⟨ι1, h1, env, R1, S.mono R F1, (run_bind (rel1 := ROp) r1).mono fun l H2 ⟨ι2, h2, l', R2, F2, rl, r2⟩ => ?_⟩
  refine ⟨ι2, h2, env, R2, (S.mono R F1).mono R1 F2, (run_bind (rel1 := ROp) r2).mono fun u H3 ⟨ι3, h3, u', R3, F3, ru, r3⟩ => ?_⟩
  cases (show l = l' from rl)
  cases (show u = u' from ru)
  have rv := R2.mono F3 (R1.mono F2 rv)
  cases rv with
  | non => exact r3.elim
  | bl => exact r3.elim
  | int => exact r3.elim
  | str z =>
    have r' : Run W RV (if z.length ≤ lim then some (.ok (.str (cutS z l u)), h3) else none) ι3 H3 Q := r3
    split at r'
    · rename_i hz
      exact .inr (.inr ⟨z, rfl, sz_of hz, run_pure (x := IV.str _) r' R3 (.str _)⟩)
    · exact r'.elim
  | @tup a vs xs e1 rs =>
    have r' : Run W RV (some (.ok (.tup (cutI xs l u)), h3)) ι3 H3 Q := r3
    refine .inr (.inl ⟨a, vs, rfl, st_of e1, fun hw => ?_, fun hw p hp => ?_⟩)
    · have e : cutI xs l u = xs := cut_whole xs l u (by rw [← rs.length]; exact hw)
      rw [e] at r'
      exact run_pure (x := IV.tup _) r' R3 (.tup e1 rs)
    · exact r' ι3 _ _ (R3.new hp) (fr_new hp) (.tup upd_same (R3.monos (fr_new hp) (rs.cut l u)))
  | @fl a o vs xs e1 n1 rs =>
    exact .inl ⟨a, vs, rfl, sf_of e1, (new_lst R3 (rs.cut l u) r3).2⟩
  | exo _ _ _ => exact r3.elim
  | @kl a vs xs e1 rs =>
    exact .inl ⟨a, vs, rfl, hk _ _ _ e1, (new_lst R3 (rs.cut l u) r3).2⟩
  | @ref k a ea =>
    have r' : Run W RV (match h3[k]? with
      | some (.lst xs) => mkL (cutI xs l u) h3
      | _ => none) ι3 H3 Q := r3
    split at r'
    · rename_i xs e1
      obtain ⟨a', vs, q1, _, q2, rs⟩ := R3.lst (.ref ea) e1
      cases q1
      exact .inl ⟨_, vs, rfl, sq_of q2, (new_lst R3 (rs.cut l u) r').2⟩
    · exact r'.elim
end
end Iv
set_option Elab.async false
set_option linter.all false
set_option maxRecDepth 100000
set_option maxHeartbeats 2000000
set_option autoImplicit false
namespace Iv
open PySem L2
variable [KL]

/-! ### calls of built-ins -/
def CallB (g : List IV → M IV) (a : Env → M (List IV)) : Env → M IV := fun env => M.bind (a env) g
section
variable {X : Cx} {W : ExW} {e : Expr} {es : List Expr} {ma : Env → M (List IV)} {m : Env → M IV} {pos p : Pos} {x : Str} {r : List V → Hp → VK → Prop} {g : List IV → M IV}
theorem tI_call (hr : RIL W r g) {σ : L2.St} {H : Hp} {Q : VK} (t : tI W (CallB g ma) σ H Q) : tCB r (tIA W ma) σ H Q := by
  obtain ⟨ι, h, env, R, S, r0⟩ := t
  exact ⟨ι, h, env, R, S, (run_bind (rel1 := RVs) r0).mono fun v H1 ⟨ι1, h1, x, R1, F1, rv, r1⟩ => hr ι1 h1 H1 v x Q R1 rv r1⟩
theorem pei_callB {id : String} (hr : RIL W r g) (hc : CallR X (.builtin id) r) (hm : X.mg x = none) (hv : bootBuiltins x = some (.builtin id)) (ha : PAI X W (e :: es) ma) (hg : Gl X x := by rfl) (hn : x ≠ "__name__" := by decide) (hdb : (x == ("__debug__" : Str)) = false := by decide)
    (he : starEach (e :: es) X.env = (false, eval e X.env) :: starEach es X.env := by rfl) (hpl : (backTo pos (starEach es X.env)).any (·.1) = false := by rfl) : PEI X W (.Call (.Name x p) (e :: es) [] pos) (CallB g ma) :=
  PE.weak (pe_callB hc hg hm hv ha hn hdb he hpl) fun σ H Q t => tI_call hr t
theorem pei_callT {id : String} (hr : RIL W r g) (hc : CallR X (.type id) r) (hm : X.mg x = none) (hv : bootBuiltins x = some (.type id)) (ha : PAI X W (e :: es) ma) (hg : Gl X x := by rfl) (hn : x ≠ "__name__" := by decide) (hdb : (x == ("__debug__" : Str)) = false := by decide)
    (he : starEach (e :: es) X.env = (false, eval e X.env) :: starEach es X.env := by rfl) (hpl : (backTo pos (starEach es X.env)).any (·.1) = false := by rfl) : PEI X W (.Call (.Name x p) (e :: es) [] pos) (CallB g ma) :=
  PE.weak (pe_callTy hc hg hm hv ha hn hdb he hpl) fun σ H Q t => tI_call hr t
end

/-! len, int, abs, list, tuple, sum, max, min, all, any -/
def len1 (h : IH) : IV → Option (Out IV × IH)
  | .str s => if s.length ≤ lim then some (.ok (.int s.length), h) else none
  | .tup xs => some (.ok (.int xs.length), h)
  | .fl xs => some (.ok (.int xs.length), h)
  | .ref n => match h[n]? with
    | some (.lst xs) => some (.ok (.int xs.length), h)
    | some (.dic kvs) => some (.ok (.int kvs.length), h)
    | some (.fdc _) => none
    | none => none
  | _ => none
def lenM : List IV → M IV
  | [x] => fun h => len1 h x
  | _ => stuck
def intM : List IV → M IV
  | [.int i] => M.pure (.int i)
  | [.bl b] => M.pure (.int (if b then 1 else 0))
  | _ => stuck
def absM : List IV → M IV
  | [.int i] => M.pure (.int (if i < 0 then -i else i))
  | _ => stuck
/-- what list(..) and tuple(..) go over -/
def itemsI (h : IH) : IV → Option (List IV)
  | .tup xs => some xs
  | .fl xs => some xs
  | .ref n => match h[n]? with
    | some (.lst xs) => some xs
    | some (.dic kvs) => some (kvs.map fun kv => match kv.1 with | .inl i => .int i | .inr s => .str s)
    | some (.fdc kvs) => some (kvs.map fun kv => match kv.1 with | .inl i => .int i | .inr s => .str s)
    | none => none
  | _ => none
def listM : List IV → M IV
  | [x] => fun h => match itemsI h x with
    | some xs => mkL xs h
    | none => none
  | _ => stuck
def tupleM : List IV → M IV
  | [x] => fun h => match seqI h x with
    | some xs => some (.ok (.tup xs), h)
    | none => none
  | _ => stuck
def maxL (ns : List Int) : Int := ns.foldl (fun a b => if a < b then b else a) (ns.headD 0)
def minL (ns : List Int) : Int := ns.foldl (fun a b => if b < a then b else a) (ns.headD 0)
section
variable {X : Cx} {W : ExW} {e : Expr} {es : List Expr} {ma : Env → M (List IV)} {m : Env → M IV} {pos p : Pos} {ι : List Addr} {h : IH} {H : Hp}
def rLen (K : PySem.W.Frag) : List V → Hp → VK → Prop := fun xs H Q => (∃ x n, xs = [x] ∧ LenV K x H n ∧ Q (.int n) H) ∨ ∃ a kvs, xs = [V.ref a] ∧ H a = some (.dK kvs) ∧ Q (.int kvs.length) H
theorem ri_len : RIL W (rLen X.K) lenM := by
  intro ι h H vs xs Q R rs r
  cases rs with
  | nil => exact r.elim
  | @cons v x _ _ rv rs =>
    cases rs with
    | cons _ _ => exact r.elim
    | nil =>
      have r : Run W RV (len1 h x) ι H Q := r
      cases rv with
      | str s =>
        have r' : Run W RV (if s.length ≤ lim then some (.ok (.int s.length), h) else none) ι H Q := r
        split at r'
        · rename_i hl; exact .inl ⟨_, s.length, rfl, ⟨sz_of hl, rfl⟩, run_pure (x := IV.int _) r' R (.int _)⟩
        · exact r'.elim
      | @tup a vs xs e1 r1 => exact .inl ⟨_, vs.length, rfl, .inr ⟨vs, st_of e1, rfl⟩, run_pure (x := IV.int _) r R (by rw [r1.length]; exact .int _)⟩
      | @fl a o vs xs e1 _ r1 => exact .inl ⟨_, vs.length, rfl, .inl ⟨vs, sf_of e1, rfl⟩, run_pure (x := IV.int _) r R (by rw [r1.length]; exact .int _)⟩
      | @ref n a ea =>
        have r' : Run W RV (match h[n]? with
          | some (.lst xs) => some (.ok (.int xs.length), h)
          | some (.dic kvs) => some (.ok (.int kvs.length), h)
          | some (.fdc _) => none
          | none => none) ι H Q := r
        split at r'
        · rename_i xs e1
          obtain ⟨a', ws, q1, _, q2, r1⟩ := R.lst (.ref ea) e1
          cases q1
          exact .inl ⟨_, ws.length, rfl, .inl ⟨ws, sq_of q2, rfl⟩, run_pure (x := IV.int _) r' R (by rw [r1.length]; exact .int _)⟩
        · rename_i kvs e1
          obtain ⟨a', ks, q1, _, q2, r1⟩ := R.dic (.ref ea) e1
          cases q1
          exact .inr ⟨_, ks, rfl, q2, run_pure (x := IV.int _) r' R (by rw [r1.length]; exact .int _)⟩
        · exact r'.elim
        · exact r'.elim
      | _ => exact r.elim
theorem pei_len (hm : X.mg "len" = none) (ha : PAI X W [e] ma) (hg : Gl X "len" := by rfl) (he : starEach [e] X.env = (false, eval e X.env) :: starEach [] X.env := by rfl) : PEI X W (.Call (.Name "len" p) [e] [] pos) (CallB lenM ma) :=
  pei_callB (r := rLen X.K) ri_len (L2.CallR.or call_len call_lenD) hm PySem.boot_len ha hg (by decide) (by decide) he
theorem ri_int1 : RIL W (fun xs H Q => (∃ i, xs = [.int i] ∧ Q (.int i) H) ∨ ∃ k, xs = [.bl k] ∧ Q (.int (if k then 1 else 0)) H) intM := by
  intro ι h H vs xs Q R rs r
  cases rs with
  | nil => exact r.elim
  | @cons v x _ _ rv rs =>
    cases rs with
    | cons _ _ => cases rv <;> exact r.elim
    | nil =>
      cases rv with
      | int i => exact .inl ⟨i, rfl, run_pure r R (.int _)⟩
      | bl b => exact .inr ⟨b, rfl, run_pure r R (.int _)⟩
      | _ => exact r.elim
theorem pei_intc (hm : X.mg "int" = none) (ha : PAI X W [e] ma) (hg : Gl X "int" := by rfl) (he : starEach [e] X.env = (false, eval e X.env) :: starEach [] X.env := by rfl) : PEI X W (.Call (.Name "int" p) [e] [] pos) (CallB intM ma) :=
  pei_callT ri_int1 call_int1 hm (by decide +kernel) ha hg (by decide) (by decide) he
theorem ri_abs : RIL W (fun xs H Q => ∃ i, xs = [.int i] ∧ Q (.int (if i < 0 then -i else i)) H) absM := by
  intro ι h H vs xs Q R rs r
  cases rs with
  | nil => exact r.elim
  | @cons v x _ _ rv rs =>
    cases rs with
    | cons _ _ => cases rv <;> exact r.elim
    | nil =>
      cases rv with
      | int i => exact ⟨i, rfl, run_pure r R (.int _)⟩
      | _ => exact r.elim
theorem pei_abs (hm : X.mg "abs" = none) (ha : PAI X W [e] ma) (hg : Gl X "abs" := by rfl) (he : starEach [e] X.env = (false, eval e X.env) :: starEach [] X.env := by rfl) : PEI X W (.Call (.Name "abs" p) [e] [] pos) (CallB absM ma) :=
  pei_callB ri_abs call_abs hm (by decide +kernel) ha hg (by decide) (by decide) he
theorem RKs.keys {ks : List (Key × V)} {kvs : List (Key × IV)} (r : RKs ι H ks kvs) : RVs ι H (ks.map fun kv => kV kv.1) (kvs.map fun kv => match kv.1 with | .inl i => .int i | .inr s => .str s) := by
  induction r with
  | nil => exact .nil
  | @cons k v x vs xs a r ih =>
    refine .cons ?_ ih
    cases k with
    | inl i => exact .int i
    | inr s => exact .str s
def rList (K : PySem.W.Frag) : List V → Hp → VK → Prop := fun xs H Q => (∃ p ys, xs = [.ref p] ∧ (SqL K H p ys ∨ SqT K H p ys) ∧ ∀ l, H l = none → Q (.ref l) (upd H l (.lst ys))) ∨
  ∃ (a : Addr) (kvs : List (Key × V)), xs = [.ref a] ∧ Rd H a (.dK kvs) ∧ ∀ p, H p = none → Q (.ref p) (upd H p (.lst (kvs.map fun kv => kV kv.1)))
theorem ri_list : RIL W (rList X.K) listM := by
  intro ι h H vs xs Q R rs r
  cases rs with
  | nil => exact r.elim
  | @cons v x _ _ rv rs =>
    cases rs with
    | cons _ _ => exact r.elim
    | nil =>
      have r' : Run W RV (match itemsI h x with
        | some xs => mkL xs h
        | none => none) ι H Q := r
      cases rv with
      | @tup a vs xs e1 r1 => exact .inl ⟨a, vs, rfl, .inr (st_of e1), (new_lst R r1 r').2⟩
      | @fl a o vs xs e1 _ r1 => exact .inl ⟨a, vs, rfl, .inl (sf_of e1), (new_lst R r1 r').2⟩
      | @ref n a ea =>
        unfold itemsI at r'
        cases q : h[n]? with
        | none => simp only [q] at r'; exact r'.elim
        | some o =>
          cases o with
          | lst xs =>
            simp only [q] at r'
            obtain ⟨a', ws, q1, _, q2, r1⟩ := R.lst (.ref ea) q
            cases q1
            exact .inl ⟨_, ws, rfl, .inl (sq_of q2), (new_lst R r1 r').2⟩
          | dic kvs =>
            simp only [q] at r'
            obtain ⟨a', ks, q1, _, q2, r1⟩ := R.dic (.ref ea) q
            cases q1
            exact .inr ⟨_, ks, rfl, .inl q2, (new_lst R r1.keys r').2⟩
          | fdc kvs =>
            simp only [q] at r'
            obtain ⟨a', ob, ks, q1, _, q2, r1⟩ := R.fdc (.ref ea) q
            cases q1
            exact .inr ⟨_, ks, rfl, .inr ⟨ob, q2⟩, (new_lst R r1.keys r').2⟩
      | _ => exact r.elim
theorem pei_list (hc : X.calm = true) (hm : X.mg "list" = none) (ha : PAI X W [e] ma) (hg : Gl X "list" := by rfl) (he : starEach [e] X.env = (false, eval e X.env) :: starEach [] X.env := by rfl) : PEI X W (.Call (.Name "list" p) [e] [] pos) (CallB listM ma) :=
  pei_callT (r := rList X.K) ri_list (L2.CallR.or call_list_of (call_listD hc)) hm (by decide +kernel) ha hg (by decide) (by decide) he
theorem seq_run {x : IV} {g : List IV → Option (Out IV × IH)} {r : Option (Out IV × IH)} (e : r = (match seqI h x with | some xs => g xs | none => none)) {Q : VK} (q : Run W RV r ι H Q) : ∃ xs, seqI h x = some xs ∧ Run W RV (g xs) ι H Q := by
  subst e
  cases k : seqI h x with
  | none => rw [k] at q; exact q.elim
  | some xs => rw [k] at q; exact ⟨xs, rfl, q⟩
theorem ri_tuple : RIL W (fun xs H Q => ∃ p ys, xs = [.ref p] ∧ ((SqL X.K H p ys ∧ ∀ l, H l = none → Q (.ref l) (upd H l (.tup ys))) ∨ (SqT X.K H p ys ∧ Q (.ref p) H))) tupleM := by
  intro ι h H vs xs Q R rs r
  cases rs with
  | nil => exact r.elim
  | @cons v x _ _ rv rs =>
    cases rs with
    | cons _ _ => exact r.elim
    | nil =>
      have r' : Run W RV (match seqI h x with
        | some xs => some (.ok (.tup xs), h)
        | none => none) ι H Q := r
      have newT : ∀ {vs : List V} {xs : List IV}, RVs ι H vs xs → Run W RV (some (.ok (.tup xs), h)) ι H Q → ∀ l, H l = none → Q (.ref l) (upd H l (.tup vs)) := fun r1 r l hl =>
        r ι _ _ (R.new hl) (fr_new hl) (.tup upd_same (R.monos (fr_new hl) r1))
      cases rv with
      | @tup a vs xs e1 r1 => exact ⟨a, vs, rfl, .inr ⟨st_of e1, run_pure (x := IV.tup _) r' R (.tup e1 r1)⟩⟩
      | @fl a o vs xs e1 _ r1 => exact ⟨a, vs, rfl, .inl ⟨sf_of e1, newT r1 r'⟩⟩
      | @ref n a ea =>
        unfold seqI at r'
        cases q : h[n]? with
        | none => simp only [q] at r'; exact r'.elim
        | some o =>
          cases o with
          | lst xs =>
            simp only [q] at r'
            obtain ⟨a', ws, q1, _, q2, r1⟩ := R.lst (.ref ea) q
            cases q1
            exact ⟨_, ws, rfl, .inl ⟨sq_of q2, newT r1 r'⟩⟩
          | dic kvs => simp only [q] at r'; exact r'.elim
          | fdc kvs => simp only [q] at r'; exact r'.elim
      | _ => exact r.elim
theorem pei_tuple (hm : X.mg "tuple" = none) (ha : PAI X W [e] ma) (hg : Gl X "tuple" := by rfl) (he : starEach [e] X.env = (false, eval e X.env) :: starEach [] X.env := by rfl) : PEI X W (.Call (.Name "tuple" p) [e] [] pos) (CallB tupleM ma) :=
  pei_callT ri_tuple call_tuple_of hm (by decide +kernel) ha hg (by decide) (by decide) he
/-- a list of the mirror (not a tuple) -/
def lstI (h : IH) : IV → Option (List IV)
  | .fl xs => some xs
  | .ref n => match h[n]? with
    | some (.lst xs) => some xs
    | _ => none
  | _ => none
theorem lst_ok {K : PySem.W.Frag} (R : Rel ι h H) {v : V} {x : IV} {xs : List IV} (rv : RV ι H v x) (e : lstI h x = some xs) : ∃ a vs, v = .ref a ∧ RVs ι H vs xs ∧ SqL K H a vs := by
  cases rv with
  | @fl a o vs xs e1 _ r => cases e; exact ⟨_, _, rfl, r, sf_of e1⟩
  | @ref n a ea =>
    have e' : (match h[n]? with
    | some (.lst xs) => some xs
    | _ => none) = some xs := e
    split at e'
    · rename_i ys e2
      cases e'
      obtain ⟨a', vs, e3, _, e4, r⟩ := R.lst (.ref ea) e2
      exact ⟨a', vs, e3, r, sq_of e4⟩
    · cases e'
  | _ => cases e
end
def ofInts (f : List Int → Option IV) : List IV → M IV
  | [x] => fun h => match (lstI h x).bind ints? with
    | some ns => (f ns).map fun y => (.ok y, h)
    | none => none
  | _ => stuck
def ofBools (f : List Bool → IV) : List IV → M IV
  | [x] => fun h => match (lstI h x).bind bools? with
    | some ns => some (.ok (f ns), h)
    | none => none
  | _ => stuck
def sumI : List IV → M IV := ofInts fun ns => some (.int ns.sum)
def allI : List IV → M IV := ofBools fun bs => .bl (bs.all id)
def anyI : List IV → M IV := ofBools fun bs => .bl (bs.any id)
def max1 : List Int → Option IV
  | [] => none
  | n :: ns => some (.int (maxL (n :: ns)))
def min1 : List Int → Option IV
  | [] => none
  | n :: ns => some (.int (minL (n :: ns)))
def maxI : List IV → M IV := ofInts max1
def minI : List IV → M IV := ofInts min1
def max2 : List IV → M IV
  | [.int i, .int j] => M.pure (.int (if j > i then j else i))
  | _ => stuck
def min2 : List IV → M IV
  | [.int i, .int j] => M.pure (.int (if j < i then j else i))
  | _ => stuck
theorem max_step (ns : List Int) : ∀ a : Int, (ns.foldl (fun a b => if a < b then b else a) a ∈ a :: ns) ∧ ∀ y ∈ a :: ns, y ≤ ns.foldl (fun a b => if a < b then b else a) a := by
  induction ns with
  | nil => intro a; simp
  | cons n ns ih =>
    intro a
    rw [List.foldl_cons]
    obtain ⟨h1, h2⟩ := ih (if a < n then n else a)
    constructor
    · rcases List.mem_cons.mp h1 with e | e
      · rw [e]; split <;> simp
      · simp [e]
    · intro y hy
      have q := h2 (if a < n then n else a) (by simp)
      rcases List.mem_cons.mp hy with e | hy
      · subst e; exact Int.le_trans (by split <;> omega) q
      · rcases List.mem_cons.mp hy with e | hy
        · subst e; exact Int.le_trans (by split <;> omega) q
        · exact h2 y (List.mem_cons_of_mem _ hy)
theorem min_step (ns : List Int) : ∀ a : Int, (ns.foldl (fun a b => if b < a then b else a) a ∈ a :: ns) ∧ ∀ y ∈ a :: ns, ns.foldl (fun a b => if b < a then b else a) a ≤ y := by
  induction ns with
  | nil => intro a; simp
  | cons n ns ih =>
    intro a
    rw [List.foldl_cons]
    obtain ⟨h1, h2⟩ := ih (if n < a then n else a)
    constructor
    · rcases List.mem_cons.mp h1 with e | e
      · rw [e]; split <;> simp
      · simp [e]
    · intro y hy
      have q := h2 (if n < a then n else a) (by simp)
      rcases List.mem_cons.mp hy with e | hy
      · subst e; exact Int.le_trans q (by split <;> omega)
      · rcases List.mem_cons.mp hy with e | hy
        · subst e; exact Int.le_trans q (by split <;> omega)
        · exact h2 y (List.mem_cons_of_mem _ hy)
theorem maxL_ok (n : Int) (ns : List Int) : maxL (n :: ns) ∈ n :: ns ∧ ∀ y ∈ n :: ns, y ≤ maxL (n :: ns) := by
  obtain ⟨h1, h2⟩ := max_step (n :: ns) n
  refine ⟨?_, fun y hy => h2 y (List.mem_cons_of_mem _ hy)⟩
  rcases List.mem_cons.mp h1 with e | e
  · exact List.mem_cons.mpr (.inl e)
  · exact e
theorem minL_ok (n : Int) (ns : List Int) : minL (n :: ns) ∈ n :: ns ∧ ∀ y ∈ n :: ns, minL (n :: ns) ≤ y := by
  obtain ⟨h1, h2⟩ := min_step (n :: ns) n
  refine ⟨?_, fun y hy => h2 y (List.mem_cons_of_mem _ hy)⟩
  rcases List.mem_cons.mp h1 with e | e
  · exact List.mem_cons.mpr (.inl e)
  · exact e
section
variable {X : Cx} {W : ExW} {e e2 : Expr} {es : List Expr} {ma : Env → M (List IV)} {m : Env → M IV} {pos p : Pos} {ι : List Addr} {h : IH} {H : Hp}
theorem ri_ints {f : List Int → Option IV} {r : List V → Hp → VK → Prop} (hr : ∀ a ns H Q y, SqL X.K H a (ns.map V.int) → f ns = some y → (∀ v, (∀ ι, RV ι H v y) → Q v H) → r [.ref a] H Q) (hf : ∀ ns y, f ns = some y → ∀ ι H v, RV ι H v y → ∀ ι' H', RV ι' H' v y) : RIL W r (ofInts f) := by
  intro ι h H vs xs Q R rs r0
  cases rs with
  | nil => exact r0.elim
  | @cons v x _ _ rv rs =>
    cases rs with
    | cons _ _ => exact r0.elim
    | nil =>
      have r' : Run W RV (match (lstI h x).bind ints? with
        | some ns => (f ns).map fun y => (.ok y, h)
        | none => none) ι H Q := r0
      cases q : lstI h x with
      | none => rw [q] at r'; exact r'.elim
      | some ys =>
        cases q2 : ints? ys with
        | none => rw [q] at r'; simp only [Option.bind_some, q2] at r'; exact r'.elim
        | some ns =>
          rw [q] at r'; simp only [Option.bind_some, q2] at r'
          cases q3 : f ns with
          | none => rw [q3] at r'; exact r'.elim
          | some y =>
            rw [q3] at r'
            obtain ⟨a, vs, e1, rs, e2⟩ := lst_ok (K := X.K) R rv q
            subst e1
            rw [ints?_eq q2] at rs
            have e3 := rs.ints
            subst e3
            exact hr a ns H Q y e2 q3 fun v hv => run_pure (x := y) r' R (hv ι)
theorem ri_bools {f : List Bool → IV} {r : List V → Hp → VK → Prop} (hr : ∀ a ns H Q, SqL X.K H a (ns.map V.bl) → (∀ v, (∀ ι, RV ι H v (f ns)) → Q v H) → r [.ref a] H Q) : RIL W r (ofBools f) := by
  intro ι h H vs xs Q R rs r0
  cases rs with
  | nil => exact r0.elim
  | @cons v x _ _ rv rs =>
    cases rs with
    | cons _ _ => exact r0.elim
    | nil =>
      have r' : Run W RV (match (lstI h x).bind bools? with
        | some ns => some (.ok (f ns), h)
        | none => none) ι H Q := r0
      cases q : lstI h x with
      | none => rw [q] at r'; exact r'.elim
      | some ys =>
        cases q2 : bools? ys with
        | none => rw [q] at r'; simp only [Option.bind_some, q2] at r'; exact r'.elim
        | some ns =>
          rw [q] at r'; simp only [Option.bind_some, q2] at r'
          obtain ⟨a, vs, e1, rs, e2⟩ := lst_ok (K := X.K) R rv q
          subst e1
          rw [bools?_eq q2] at rs
          have e3 := rs.bools
          subst e3
          exact hr a ns H Q e2 fun v hv => run_pure (x := f ns) r' R (hv ι)
theorem pei_sum (hc : X.calm = true) (hm : X.mg "sum" = none) (ha : PAI X W [e] ma) (hg : Gl X "sum" := by rfl) (he : starEach [e] X.env = (false, eval e X.env) :: starEach [] X.env := by rfl) : PEI X W (.Call (.Name "sum" p) [e] [] pos) (CallB sumI ma) :=
  pei_callB (ri_ints (fun a ns H Q y h1 h2 h3 => by cases h2; exact ⟨a, ns, rfl, h1, h3 _ fun _ => .int _⟩) (fun ns y e ι H v r ι' H' => by cases e; cases r; exact .int _)) (cr_sum hc) hm (by decide +kernel) ha hg (by decide) (by decide) he
theorem pei_max1 (hc : X.calm = true) (hm : X.mg "max" = none) (ha : PAI X W [e] ma) (hg : Gl X "max" := by rfl) (he : starEach [e] X.env = (false, eval e X.env) :: starEach [] X.env := by rfl) : PEI X W (.Call (.Name "max" p) [e] [] pos) (CallB maxI ma) :=
  pei_callB (ri_ints (fun a ns H Q y h1 h2 h3 => by
    cases ns with
    | nil => cases h2
    | cons n ns =>
      cases h2
      refine ⟨a, n :: ns, rfl, h1, Nat.succ_pos _, fun m hm hle => ?_⟩
      have e : m = maxL (n :: ns) := Int.le_antisymm ((maxL_ok n ns).2 m hm) (hle _ (maxL_ok n ns).1)
      rw [e]
      exact h3 _ fun _ => .int _) (fun ns y e ι H v r ι' H' => by cases ns <;> cases e; cases r; exact .int _)) (cr_max hc) hm (by decide +kernel) ha hg (by decide) (by decide) he
theorem pei_min1 (hc : X.calm = true) (hm : X.mg "min" = none) (ha : PAI X W [e] ma) (hg : Gl X "min" := by rfl) (he : starEach [e] X.env = (false, eval e X.env) :: starEach [] X.env := by rfl) : PEI X W (.Call (.Name "min" p) [e] [] pos) (CallB minI ma) :=
  pei_callB (ri_ints (fun a ns H Q y h1 h2 h3 => by
    cases ns with
    | nil => cases h2
    | cons n ns =>
      cases h2
      refine ⟨a, n :: ns, rfl, h1, Nat.succ_pos _, fun m hm hle => ?_⟩
      have e : m = minL (n :: ns) := Int.le_antisymm (hle _ (minL_ok n ns).1) ((minL_ok n ns).2 m hm)
      rw [e]
      exact h3 _ fun _ => .int _) (fun ns y e ι H v r ι' H' => by cases ns <;> cases e; cases r; exact .int _)) (cr_min hc) hm (by decide +kernel) ha hg (by decide) (by decide) he
theorem ri_two {f : Int → Int → Int} {r : List V → Hp → VK → Prop} {g : List IV → M IV} (hg : ∀ i j, g [.int i, .int j] = M.pure (.int (f i j))) (hn : ∀ xs, (∀ i j, xs ≠ [.int i, .int j]) → ∀ h, g xs h = none) (hr : ∀ i j H Q, Q (.int (f i j)) H → r [.int i, .int j] H Q) : RIL W r g := by
  intro ι h H vs xs Q R rs r0
  by_cases hx : ∃ i j, xs = [.int i, .int j]
  · obtain ⟨i, j, rfl⟩ := hx
    cases rs with
    | cons a rs => cases a; cases rs with
      | cons b rs => cases b; cases rs; rw [hg] at r0; exact hr i j H Q (run_pure r0 R (.int _))
  · rw [hn xs (fun i j e => hx ⟨i, j, e⟩) h] at r0
    exact r0.elim
theorem pei_max2 (hc : X.calm = true) (hm : X.mg "max" = none) (ha : PAI X W [e, e2] ma) (hg : Gl X "max" := by rfl) (he : starEach [e, e2] X.env = (false, eval e X.env) :: starEach [e2] X.env := by rfl) (hpl : (backTo pos (starEach [e2] X.env)).any (·.1) = false := by rfl) : PEI X W (.Call (.Name "max" p) [e, e2] [] pos) (CallB max2 ma) :=
  pei_callB (ri_two (f := fun i j => if j > i then j else i) (fun _ _ => rfl) (fun xs hx h => by
    unfold max2
    split
    · exact absurd rfl (hx _ _)
    · rfl) (fun i j H Q q => ⟨i, j, rfl, q⟩)) (call_max2 hc) hm (by decide +kernel) ha hg (by decide) (by decide) he hpl
theorem pei_min2 (hc : X.calm = true) (hm : X.mg "min" = none) (ha : PAI X W [e, e2] ma) (hg : Gl X "min" := by rfl) (he : starEach [e, e2] X.env = (false, eval e X.env) :: starEach [e2] X.env := by rfl) (hpl : (backTo pos (starEach [e2] X.env)).any (·.1) = false := by rfl) : PEI X W (.Call (.Name "min" p) [e, e2] [] pos) (CallB min2 ma) :=
  pei_callB (ri_two (f := fun i j => if j < i then j else i) (fun _ _ => rfl) (fun xs hx h => by
    unfold min2
    split
    · exact absurd rfl (hx _ _)
    · rfl) (fun i j H Q q => ⟨i, j, rfl, q⟩)) (call_min2 hc) hm (by decide +kernel) ha hg (by decide) (by decide) he hpl
theorem pei_all (hc : X.calm = true) (hm : X.mg "all" = none) (ha : PAI X W [e] ma) (hg : Gl X "all" := by rfl) (he : starEach [e] X.env = (false, eval e X.env) :: starEach [] X.env := by rfl) : PEI X W (.Call (.Name "all" p) [e] [] pos) (CallB allI ma) :=
  pei_callB (ri_bools fun a ns H Q h1 h3 => ⟨a, ns, rfl, h1, h3 _ fun _ => .bl _⟩) (cr_all hc) hm (by decide +kernel) ha hg (by decide) (by decide) he
theorem pei_any (hc : X.calm = true) (hm : X.mg "any" = none) (ha : PAI X W [e] ma) (hg : Gl X "any" := by rfl) (he : starEach [e] X.env = (false, eval e X.env) :: starEach [] X.env := by rfl) : PEI X W (.Call (.Name "any" p) [e] [] pos) (CallB anyI ma) :=
  pei_callB (ri_bools fun a ns H Q h1 h3 => ⟨a, ns, rfl, h1, h3 _ fun _ => .bl _⟩) (cr_any hc) hm (by decide +kernel) ha hg (by decide) (by decide) he
end

/-! ### sorted -/
def alikeB (ds : List PyData) : Bool := ds.all fun d => ds.all fun e => PySem.W.alike d e
def tupB : PyData → Bool
  | .tuple (_ :: _) => true
  | _ => false
def atomB : PyData → Bool
  | .none => false
  | .tuple _ => false
  | _ => true
def sortableB (ds : List PyData) : Bool := ds.all tupB || ds.all atomB
@[irreducible] def depLim : Nat := 60
def sortM : List IV → M IV
  | [x] => fun h => match lstI h x with
    | some xs => match xs.mapM (encH h 66) with
      | some ds => if alikeB ds = true ∧ sortableB ds = true ∧ (ds.all fun d => decide (d.depth ≤ depLim)) = true then mkL (((xs.zip ds).mergeSort (PySem.W.dataLe false fun p => p.2)).map (·.1)) h else none
      | none => none
    | none => none
  | _ => stuck
def rSortD (K : PySem.W.Frag) : List V → Hp → VK → Prop := fun vs H Q => ∃ (a : Addr) (xs : List V) (ds : List PyData), vs = [.ref a] ∧ SqL K H a xs ∧ DpAll K H xs ds ∧ PySem.W.AllAlike ds ∧ PySem.W.Sortable ds ∧ (∀ d ∈ ds, d.depth ≤ 60) ∧
  ∀ p, H p = none → Q (.ref p) (upd H p (.lst (((xs.zip ds).mergeSort (PySem.W.dataLe false fun p => p.2)).map (·.1))))
section
variable {X : Cx} {W : ExW} {e e2 : Expr} {ma : Env → M (List IV)} {pos p : Pos} {ι : List Addr} {h : IH} {H : Hp}
theorem dpAll_len {K : PySem.W.Frag} {H : Hp} : ∀ {xs : List V} {ds : List PyData}, DpAll K H xs ds → xs.length = ds.length
  | _, _, .nil => rfl
  | _, _, .cons _ r => by simp [dpAll_len r]
theorem each_pairs {X : Cx} {pins : List (Addr × Obj)} {σ : L2.St} {H : Hp} {s : Shared} (I : Inv X pins σ H s) : ∀ {xs : List V} {ds : List PyData} {us : List Value}, DpAll X.K H xs ds → Vals xs us →
    PySem.W.EachIs (fun u (p : V × PyData) => RelV p.1 u) us (xs.zip ds) ∧ PySem.W.EachIs (fun u (p : V × PyData) => ∃ as, Reads s.heap u p.2 as) us (xs.zip ds)
  | _, _, _, .nil, .nil => ⟨.nil, .nil⟩
  | _, _, _, .cons a r, .cons b t => let ⟨h1, h2⟩ := each_pairs I r t; ⟨.cons b h1, .cons (Dp.reads I _ _ _ a b) h2⟩
theorem vals_of {bs : List (V × PyData)} {us : List Value} (h : PySem.W.EachIs (fun u (p : V × PyData) => RelV p.1 u) us bs) : Vals (bs.map (·.1)) us := by
  induction h with
  | nil => exact .nil
  | cons a _ ih => exact .cons a ih
theorem cr_sortD (hu : X.A.units + 65 < cLine) : CallR X (.builtin "sorted") (rSortD X.K) := by
  intro pins s σ H vs us Q I r h
  obtain ⟨a, xs, ds, rfl, hs, hd, hal, hso, hdep, q⟩ := h
  obtain ⟨its, rv, hl, hz⟩ := I.list hs
  rw [Vals.ref1 r]
  obtain ⟨e1, e2⟩ := each_pairs I hd rv
  have hlen := dpAll_len hd
  have hm : (xs.zip ds).map (fun p => p.2) = ds := by
    rw [List.map_snd_zip]; omega
  have hL : (xs.zip ds).length ≤ sizeLine := by
    rw [List.length_zip, ← hlen, Nat.min_self]
    have := rv.length
    omega
  refine PySem.W.sorted_data (bs := xs.zip ds) (enc := fun p => p.2) hl.isList e1 e2 (by rw [hm]; exact hal) (by rw [hm]; exact hso) hL (fun b hb => ?_) fun out ho h2 => ?_
  · have h3 := hdep b.2 (by rw [← hm]; exact List.mem_map_of_mem hb)
    omega
  · obtain ⟨ep, he'⟩ := PyProof.Rows.sortedAll_at s.heap its (List.toArray out)
    refine ⟨.ref _, upd H (s.heap.objs.size + 1) (.lst (((xs.zip ds).mergeSort (PySem.W.dataLe false fun p => p.2)).map (·.1))), I.laid (t' := s.toks) (fun _ _ => PyProof.Rows.sortedAll_old) (Nat.le_succ _) ⟨?_, out, ep, vals_of h2, he'⟩, rfl, q _ (I.hok.fresh (Nat.le_succ _))⟩
    rw [List.length_map, List.length_mergeSort]; exact hL
theorem mapM_all {K : PySem.W.Frag} (R : Rel ι h H) : ∀ {xs : List IV} {vs : List V} {ds : List PyData}, RVs ι H vs xs → xs.mapM (encH h 66) = some ds → DpAll K H vs ds
  | [], _, _, .nil, e => by cases e; exact .nil
  | y :: ys, _, ds, .cons a r, e => by
    rw [List.mapM_cons] at e
    cases e1 : encH h 66 y with
    | none => rw [e1] at e; cases e
    | some d1 =>
      rw [e1] at e
      cases e2 : ys.mapM (encH h 66) with
      | none => rw [e2] at e; cases e
      | some ds1 => rw [e2] at e; cases e; exact .cons (encH_dp R _ y _ d1 a e1) (mapM_all R r e2)
theorem alikeB_ok {ds : List PyData} (e : alikeB ds = true) : PySem.W.AllAlike ds := fun d hd d' hd' => by
  unfold alikeB at e
  exact List.all_eq_true.mp (List.all_eq_true.mp e d hd) d' hd'
theorem sortableB_ok {ds : List PyData} (e : sortableB ds = true) : PySem.W.Sortable ds := by
  unfold sortableB at e
  rcases Bool.or_eq_true_iff.mp e with e | e
  · refine .inl fun d hd => ?_
    have := List.all_eq_true.mp e d hd
    cases d with
    | tuple xs => cases xs with
      | nil => cases this
      | cons x r => exact ⟨x, r, rfl⟩
    | _ => cases this
  · refine .inr fun d hd => ?_
    have := List.all_eq_true.mp e d hd
    cases d with
    | tuple xs => cases this
    | none => cases this
    | _ => exact ⟨fun z => (by cases z), fun xs z => (by cases z)⟩
theorem RVs.zip3 {vs : List V} {xs : List IV} (r : RVs ι H vs xs) (ds : List PyData) : (vs.zip (xs.zip ds)).map (fun p => (p.1, p.2.2)) = vs.zip ds ∧ (vs.zip (xs.zip ds)).map (fun p => p.2) = xs.zip ds ∧ ∀ p ∈ vs.zip (xs.zip ds), RV ι H p.1 p.2.1 := by
  induction xs generalizing vs ds with
  | nil => cases r; simp
  | cons x xs ih =>
    cases r with
    | cons a r =>
      cases ds with
      | nil => simp
      | cons d ds =>
        obtain ⟨h1, h2, h3⟩ := ih r ds
        refine ⟨by simp [h1], by simp [h2], fun p hp => ?_⟩
        simp only [List.zip_cons_cons, List.mem_cons] at hp
        rcases hp with hp | hp
        · subst hp; exact a
        · exact h3 p hp
theorem RVs.sorted {vs : List V} {xs : List IV} (r : RVs ι H vs xs) (ds : List PyData) : RVs ι H (((vs.zip ds).mergeSort (PySem.W.dataLe false fun p => p.2)).map (·.1)) (((xs.zip ds).mergeSort (PySem.W.dataLe false fun p => p.2)).map (·.1)) := by
  obtain ⟨h1, h2, h3⟩ := r.zip3 ds
  have e1 : (vs.zip ds).mergeSort (PySem.W.dataLe false fun p => p.2) = ((vs.zip (xs.zip ds)).mergeSort (PySem.W.dataLe false fun p => p.2.2)).map fun p => (p.1, p.2.2) := by
    rw [List.map_mergeSort (l := vs.zip (xs.zip ds)) (r := PySem.W.dataLe false fun p => p.2.2) (f := fun p => (p.1, p.2.2)) (s := PySem.W.dataLe false fun p => p.2) (by intros; rfl), h1]
  have e2 : (xs.zip ds).mergeSort (PySem.W.dataLe false fun p => p.2) = ((vs.zip (xs.zip ds)).mergeSort (PySem.W.dataLe false fun p => p.2.2)).map fun p => p.2 := by
    rw [List.map_mergeSort (l := vs.zip (xs.zip ds)) (r := PySem.W.dataLe false fun p => p.2.2) (f := fun p => p.2) (s := PySem.W.dataLe false fun p => p.2) (by intros; rfl), h2]
  rw [e1, e2, List.map_map, List.map_map]
  have all : ∀ p ∈ (vs.zip (xs.zip ds)).mergeSort (PySem.W.dataLe false fun p => p.2.2), RV ι H p.1 p.2.1 := fun p hp => h3 p (List.mem_mergeSort.mp hp)
  generalize (vs.zip (xs.zip ds)).mergeSort (PySem.W.dataLe false fun p => p.2.2) = l at all
  clear e1 e2 h1 h2 h3
  induction l with
  | nil => exact .nil
  | cons p l ih => exact .cons (all p List.mem_cons_self) (ih fun q hq => all q (List.mem_cons_of_mem _ hq))
theorem ri_sort : RIL W (rSortD X.K) sortM := by
  intro ι h H vs xs Q R rs r0
  cases rs with
  | nil => exact r0.elim
  | @cons v x _ _ rv rs =>
    cases rs with
    | cons _ _ => exact r0.elim
    | nil =>
      have r' : Run W RV (match lstI h x with
        | some xs => match xs.mapM (encH h 66) with
          | some ds => if alikeB ds = true ∧ sortableB ds = true ∧ (ds.all fun d => decide (d.depth ≤ depLim)) = true then mkL (((xs.zip ds).mergeSort (PySem.W.dataLe false fun p => p.2)).map (·.1)) h else none
          | none => none
        | none => none) ι H Q := r0
      split at r'
      · rename_i ys e1
        split at r'
        · rename_i ds e2
          split at r'
          · rename_i hc
            obtain ⟨a, ws, q1, r1, q2⟩ := lst_ok (K := X.K) R rv e1
            subst q1
            refine ⟨a, ws, ds, rfl, q2, mapM_all R r1 e2, alikeB_ok hc.1, sortableB_ok hc.2.1, fun d hd => ?_, (new_lst R (r1.sorted ds) r').2⟩
            have := of_decide_eq_true (List.all_eq_true.mp hc.2.2 d hd)
            unfold depLim at this
            exact this
          · exact r'.elim
        · exact r'.elim
      · exact r'.elim
theorem pei_sorted (hu : X.A.units + 65 < cLine) (hm : X.mg "sorted" = none) (ha : PAI X W [e] ma) (hg : Gl X "sorted" := by rfl) (he : starEach [e] X.env = (false, eval e X.env) :: starEach [] X.env := by rfl) : PEI X W (.Call (.Name "sorted" p) [e] [] pos) (CallB sortM ma) :=
  pei_callB ri_sort (cr_sortD hu) hm (by decide +kernel) ha hg (by decide) (by decide) he
end
end Iv
set_option Elab.async false
set_option linter.all false
set_option maxRecDepth 100000
set_option maxHeartbeats 2000000
set_option autoImplicit false
namespace Iv
open PySem L2
variable [KL]

/-! ### statements -/
inductive Fl where
  | nx (e : Env) | rt (x : IV) | bk (e : Env) | ct (e : Env)
inductive AF where
  | nx (σ : L2.St) | rt (v : V) | bk (σ : L2.St) | ct (σ : L2.St)
inductive RFl (ι : List Addr) (H : Hp) : AF → Fl → Prop where
  | nx {σ : L2.St} {env : Env} : RSt ι H σ env → RFl ι H (.nx σ) (.nx env)
  | rt {v : V} {x : IV} : RV ι H v x → RFl ι H (.rt v) (.rt x)
  | bk {σ : L2.St} {env : Env} : RSt ι H σ env → RFl ι H (.bk σ) (.bk env)
  | ct {σ : L2.St} {env : Env} : RSt ι H σ env → RFl ι H (.ct σ) (.ct env)
def D2Q (D : Ends) : AF → Hp → Prop
  | .nx σ, H => D.nx σ H
  | .rt v, H => D.rt v H
  | .bk σ, H => D.bk σ H
  | .ct σ, H => D.ct σ H
def tIS (W : ExW) (m : Env → M Fl) : TS := fun D σ H => ∃ ι h env, Rel ι h H ∧ RSt ι H σ env ∧ Run W RFl (m env h) ι H (D2Q D)
def PSI (X : Cx) (W : ExW) (s : Stmt) (m : Env → M Fl) : Prop := PS X s (tIS W m)
def PSsI (X : Cx) (W : ExW) (s : List Stmt) (m : Env → M Fl) : Prop := PSs X s (tIS W m)
def NextS : Env → M Fl := fun env => M.pure (.nx env)
def SeqS (a b : Env → M Fl) : Env → M Fl := fun env => M.bind (a env) fun f => match f with
  | .nx e => b e
  | .rt x => M.pure (.rt x)
  | .bk e => M.pure (.bk e)
  | .ct e => M.pure (.ct e)
def BrkS : Env → M Fl := fun env => M.pure (.bk env)
def CntS : Env → M Fl := fun env => M.pure (.ct env)
def RetS (m : Env → M IV) : Env → M Fl := fun env => M.bind (m env) fun x => M.pure (.rt x)
def RetN : Env → M Fl := fun _ => M.pure (.rt .non)
def DropS (m : Env → M IV) : Env → M Fl := fun env => M.bind (m env) fun _ => M.pure (.nx env)
def IfS (c : Env → M Bool) (a b : Env → M Fl) : Env → M Fl := fun env => M.bind (c env) fun k => if k = true then a env else b env
section
variable {X : Cx} {W : ExW} {e c : Expr} {m : Env → M IV} {t : Env → M Bool} {ms mr : Env → M Fl} {st : Stmt} {rest : List Stmt} {pos : Pos}
theorem pssi_nil : PSsI X W [] NextS := PSs.weak pss_nil fun D σ H ⟨ι, h, env, R, S, r⟩ => r ι H (.nx σ) R (Fr.refl _ _) (.nx S)
theorem pssi_one (h1 : PSI X W st ms) : PSsI X W [st] ms := pss_one h1
theorem pssi_cons (h1 : PSI X W st ms) (h2 : PSsI X W rest mr) : PSsI X W (st :: rest) (SeqS ms mr) := PSs.weak (pss_cons h1 h2) fun D σ H ⟨ι, h, env, R, S, r⟩ =>
  ⟨ι, h, env, R, S, (run_bind (rel1 := RFl) r).mono fun v H1 ⟨ι1, h1, f, R1, F1, rf, r1⟩ => by
    cases rf with
    | nx S1 => exact ⟨ι1, h1, _, R1, S1, r1⟩
    | rt rv => exact r1 ι1 H1 (.rt _) R1 (Fr.refl _ _) (.rt rv)
    | bk S1 => exact r1 ι1 H1 (.bk _) R1 (Fr.refl _ _) (.bk S1)
    | ct S1 => exact r1 ι1 H1 (.ct _) R1 (Fr.refl _ _) (.ct S1)⟩
theorem psi_pass : PSI X W (.Pass pos) NextS := PS.weak ps_pass fun D σ H ⟨ι, h, env, R, S, r⟩ => r ι H (.nx σ) R (Fr.refl _ _) (.nx S)
theorem psi_break : PSI X W (.Break pos) BrkS := PS.weak ps_break fun D σ H ⟨ι, h, env, R, S, r⟩ => r ι H (.bk σ) R (Fr.refl _ _) (.bk S)
theorem psi_continue : PSI X W (.Continue pos) CntS := PS.weak ps_continue fun D σ H ⟨ι, h, env, R, S, r⟩ => r ι H (.ct σ) R (Fr.refl _ _) (.ct S)
theorem psi_ret (he : PEI X W e m) : PSI X W (.Return (some e) pos) (RetS m) := PS.weak (ps_ret he) fun D σ H ⟨ι, h, env, R, S, r⟩ =>
  ⟨ι, h, env, R, S, (run_bind (rel1 := RV) r).mono fun v H1 ⟨ι1, h1, x, R1, F1, rv, r1⟩ => r1 ι1 H1 (.rt v) R1 (Fr.refl _ _) (.rt rv)⟩
theorem psi_retN : PSI X W (.Return none pos) RetN := PS.weak ps_retN fun D σ H ⟨ι, h, env, R, S, r⟩ => r ι H (.rt .non) R (Fr.refl _ _) (.rt .non)
theorem psi_expr (he : PEI X W e m) (hs : swapsWith e none pos.line X.env = pure false := by rfl) : PSI X W (.Expr e pos) (DropS m) := PS.weak (ps_expr he hs) fun D σ H ⟨ι, h, env, R, S, r⟩ =>
  ⟨ι, h, env, R, S, (run_bind (rel1 := RV) r).mono fun v H1 ⟨ι1, h1, x, R1, F1, rv, r1⟩ => r1 ι1 H1 (.nx σ) R1 (Fr.refl _ _) (.nx (S.mono R F1))⟩
theorem psi_if {a b : List Stmt} {ma mb : Env → M Fl} (hc : PTI X W c t) (ha : PSsI X W a ma) (hb : PSsI X W b mb) : PSI X W (.If c a b pos) (IfS t ma mb) := PS.weak (ps_if hc ha hb) fun D σ H ⟨ι, h, env, R, S, r⟩ =>
  ⟨ι, h, env, R, S, (run_bind (rel1 := RB) r).mono fun b H1 ⟨ι1, h1, k, R1, F1, rb, r1⟩ => by
    cases (show b = k from rb)
    cases b with
    | true => exact iteT ⟨ι1, h1, env, R1, S.mono R F1, r1⟩
    | false => exact iteF ⟨ι1, h1, env, R1, S.mono R F1, r1⟩⟩

/-! targets -/
def RE (ι : List Addr) (H : Hp) (σ : L2.St) (env : Env) : Prop := RSt ι H σ env
abbrev MTg := IV → Env → M Env
def tIG (W : ExW) (t : MTg) : TG := fun v σ H Q => ∃ ι h env x, Rel ι h H ∧ RSt ι H σ env ∧ RV ι H v x ∧ Run W RE (t x env h) ι H Q
def tIGs (W : ExW) (t : List IV → Env → M Env) : TGs := fun v σ H Q => ∃ ι h env x, Rel ι h H ∧ RSt ι H σ env ∧ RVs ι H v x ∧ Run W RE (t x env h) ι H Q
def PGI (X : Cx) (W : ExW) (e : Expr) (t : MTg) : Prop := PG X e (tIG W t)
def PGsI (X : Cx) (W : ExW) (e : List Expr) (t : List IV → Env → M Env) : Prop := PGs X e (tIGs W t)
theorem PG.weak {e : Expr} {t t' : TG} (h : PG X e t) (k : ∀ v σ H Q, t' v σ H Q → t v σ H Q) : PG X e t' := ⟨fun pins s σ H v u Q I r q => h.run pins s σ H v u Q I r (k v σ H Q q)⟩
theorem PGs.weak {e : List Expr} {t t' : TGs} (h : PGs X e t) (k : ∀ v σ H Q, t' v σ H Q → t v σ H Q) : PGs X e t' := ⟨fun pins s σ H v u Q I r q => h.run pins s σ H v u Q I r (k v σ H Q q)⟩
def TgN (i : Nat) : MTg := fun x env => M.pure (env.set i (some x))
theorem pgi_name (i : Nat) {x : Str} (hN : X.N.Nodup) (hi : X.N[i]? = some x := by rfl) (hx : Loc X.env.scope x := by first | exact Or.inl rfl | exact Or.inr rfl) (hf : X.fn x = true ∨ X.env.scope.names.lookup x = some .local := by first | exact .inl rfl | exact .inr rfl) : PGI X W (.Name x pos) (TgN i) :=
  PG.weak (pg_name hN hi hx hf) fun v σ H Q ⟨ι, h, env, x, R, S, rv, r⟩ => r ι H _ R (Fr.refl _ _) (S.set rv)
def TgNil : List IV → Env → M Env
  | [], env => M.pure env
  | _, _ => stuck
def TgCons (t : MTg) (u : List IV → Env → M Env) : List IV → Env → M Env
  | x :: xs, env => M.bind (t x env) fun env' => u xs env'
  | [], _ => stuck
theorem pgsi_nil : PGsI X W [] TgNil := PGs.weak pgs_nil fun v σ H Q ⟨ι, h, env, x, R, S, rv, r⟩ => by
  cases rv with
  | nil => exact ⟨rfl, r ι H _ R (Fr.refl _ _) S⟩
  | cons _ _ => exact r.elim
theorem pgsi_cons {es : List Expr} {tm : MTg} {um : List IV → Env → M Env} (h1 : PGI X W e tm) (h2 : PGsI X W es um) (hs : (assignEach (e :: es) X.env).map (·.2) = assign e X.env :: (assignEach es X.env).map (·.2) := by rfl) : PGsI X W (e :: es) (TgCons tm um) :=
  PGs.weak (pgs_cons h1 h2 hs) fun v σ H Q ⟨ι, h, env, x, R, S, rv, r⟩ => by
    cases rv with
    | nil => exact r.elim
    | @cons v0 x0 vs xs a rs =>
      refine ⟨v0, vs, rfl, ι, h, env, x0, R, S, a, (run_bind (rel1 := RE) r).mono fun σ1 H1 ⟨ι1, h1, env1, R1, F1, S1, r1⟩ => ?_⟩
      exact ⟨ι1, h1, env1, xs, R1, S1, R.monos F1 rs, r1⟩
def TgTup (n : Nat) (u : List IV → Env → M Env) : MTg := fun x env => match x with
  | .tup xs => if xs.length = n then u xs env else stuck
  | _ => stuck
theorem pgi_tup (n : Nat) {es : List Expr} {k : Nat} {um : List IV → Env → M Env} (hc : X.calm = true) (h : PGsI X W es um) (hn : (assignEach es X.env).length = n := by rfl) (hst : (assignEach es X.env).findIdx? (·.1) = none := by rfl) : PGI X W (.Tuple es k pos) (TgTup n um) :=
  PG.weak (pg_tup hc h hn hst) fun v σ H Q ⟨ι, h, env, x, R, S, rv, r⟩ => by
    cases rv with
    | @tup a vs xs e1 rs =>
      obtain ⟨hl, r⟩ := run_if (m := um xs env) r
      exact ⟨a, vs, rfl, st_of e1, by rw [rs.length]; exact hl, ι, h, env, xs, R, S, rs, r⟩
    | _ => exact r.elim
/-- o[i] = v -/
def setM (o i v : IV) : M Unit := fun h => match o with
  | .ref n => match h[n]? with
    | some (.lst xs) => match i with
      | .int k => match ixN xs.length k with
        | some j => some (.ok (), h.set n (.lst (xs.set j v)))
        | none => none
      | _ => none
    | some (.dic kvs) => match keyI i with
      | some k => if kvs.length < lim then some (.ok (), h.set n (.dic (putI kvs k v))) else none
      | none => none
    | some (.fdc _) => none
    | none => none
  | _ => none
def TgSub (o i : Env → M IV) : MTg := fun v env => M.bind (o env) fun a => M.bind (i env) fun b => M.bind (setM a b v) fun _ => M.pure env
theorem pgi_sub {o i : Expr} {mo mi : Env → M IV} (hu : X.A.units + 65 < cLine) (ho : PEI X W o mo) (hi : PEI X W i mi)
    (ha : ∀ v, assign (.Subscript o i pos) X.env v = (do let ov ← holding [v] (eval o X.env); let iv ← holding [v, ov] (eval i X.env); standAt pos; holding [v, ov, iv] (setItem ov iv v); release [v, ov, iv] []) := by intro _; rfl) : PGI X W (.Subscript o i pos) (TgSub mo mi) := by
  refine PG.weak (pg_sub (t := fun o i v H Q => rSetL o i v H Q ∨ rSetD o i v H Q) ho hi (fun pins s σ H o i v ov iv u Q I r1 r2 r3 q => q.elim (set_list pins s σ H o i v ov iv u Q I r1 r2 r3) (set_dict (by omega) pins s σ H o i v ov iv u Q I r1 r2 r3)) ha) fun v σ H Q ⟨ι, h, env, x, R, S, rv, r⟩ => ?_
  refine ⟨ι, h, env, R, S, (run_bind (rel1 := RV) r).mono fun a H1 ⟨ι1, h1, xa, R1, F1, ra, r1⟩ => ?_⟩
  refine ⟨ι1, h1, env, R1, S.mono R F1, (run_bind (rel1 := RV) r1).mono fun b H2 ⟨ι2, h2, xb, R2, F2, rb, r2⟩ => ?_⟩
  have rv2 := R1.mono F2 (R.mono F1 rv)
  have S2 := (S.mono R F1).mono R1 F2
  have ra2 := R1.mono F2 ra
  have fin : ∀ {n : Nat} {al : Addr} {o : HO} {u : IO}, ι2[n]? = some al → NF H2 al → RO ι2 (upd H2 al o) al u → Run W RE (M.pure env (h2.set n u)) ι2 H2 Q → Q σ (upd H2 al o) := fun {n al o u} ea nf new r3 =>
    r3 ι2 _ σ (R2.set ea new) (fr_set (List.mem_of_getElem? ea) nf) (S2.monok R2 (fk_set (List.mem_of_getElem? ea)))
  cases ra2 with
  | @ref n al ea =>
    have r3 : Run W RE (M.bind (setM (.ref n) xb x) (fun _ => M.pure env) h2) ι2 H2 Q := r2
    unfold M.bind setM at r3
    cases q : h2[n]? with
    | none => simp only [q] at r3; exact r3.elim
    | some ob =>
      cases ob with
      | lst xs =>
        simp only [q] at r3
        obtain ⟨a', vs, q1, q0, q2, rs⟩ := R2.lst (.ref ea) q
        cases q1
        cases rb with
        | int k =>
          cases q3 : ixN xs.length k with
          | none => simp only [q3] at r3; exact r3.elim
          | some j =>
            simp only [q3] at r3
            exact .inl ⟨_, vs, k, j, rfl, rfl, q2, by rw [rs.length]; exact q3, fin (u := .lst (xs.set j x)) ea (nf_lst q2) ⟨_, upd_same, R2.monosk (fk_set (List.mem_of_getElem? ea)) (rs.set j rv2)⟩ r3⟩
        | _ => exact r3.elim
      | dic kvs =>
        simp only [q] at r3
        obtain ⟨a', ks, q1, q0, q2, rk⟩ := R2.dic (.ref ea) q
        cases q1
        cases q3 : keyI xb with
        | none => simp only [q3] at r3; exact r3.elim
        | some k =>
          simp only [q3] at r3
          by_cases hl : kvs.length < lim
          · rw [if_pos hl] at r3
            refine .inr ⟨_, _, rfl, ?_, fin (o := .dK (putK ks k v)) (u := .dic (putI kvs k x)) ea (nf_dk q2) ⟨putK ks k v, upd_same, RKs.monok R2 (fk_set (List.mem_of_getElem? ea)) (rk.put rv2)⟩ r3⟩
            rw [key_ok rb q3]
            exact DPut.k q2 (by rw [rk.length]; exact sz_lt hl)
          · rw [if_neg hl] at r3; exact r3.elim
      | fdc _ => simp only [q] at r3; exact r3.elim
  | _ => exact r2.elim
def AsgS (m : Env → M IV) (t : MTg) : Env → M Fl := fun env => M.bind (m env) fun x => M.bind (t x env) fun env' => M.pure (.nx env')
theorem tIS_asg {tm : MTg} {D : Ends} {σ : L2.St} {H : Hp} (s : tIS W (AsgS m tm) D σ H) : tAsg (tI W m) (tIG W tm) D σ H := by
  obtain ⟨ι, h, env, R, S, r⟩ := s
  exact ⟨ι, h, env, R, S, (run_bind (rel1 := RV) r).mono fun v H1 ⟨ι1, h1, x, R1, F1, rv, r1⟩ =>
    ⟨ι1, h1, env, x, R1, S.mono R F1, rv, (run_bind (rel1 := RE) r1).mono fun σ2 H2 ⟨ι2, h2, env2, R2, F2, S2, r2⟩ => r2 ι2 H2 (.nx σ2) R2 (Fr.refl _ _) (.nx S2)⟩⟩
theorem psi_asg {tg : Expr} {tm : MTg} (he : PEI X W e m) (hg : PGI X W tg tm) (hs : swapsWithSole [tg] e pos.line X.env = pure false := by rfl) (h1 : (assignEach [tg] X.env).map (·.2) = [assign tg X.env] := by rfl) (h2 : swappedStores [tg] e X.env = pure none := by rfl) : PSI X W (.Assign [tg] e pos) (AsgS m tm) :=
  PS.weak (ps_asg he hg hs h2 h1) fun D σ H s => tIS_asg s
theorem psi_set (i : Nat) {x : Str} {pos' : Pos} (hN : X.N.Nodup) (he : PEI X W e m) (hi : X.N[i]? = some x := by rfl) (hx : Loc X.env.scope x := by first | exact Or.inl rfl | exact Or.inr rfl) (hs : swapsWith e (some (.Name x pos')) pos.line X.env = pure false := by rfl)
    (hf : X.fn x = true ∨ X.env.scope.names.lookup x = some .local := by first | exact .inl rfl | exact .inr rfl) : PSI X W (.Assign [.Name x pos'] e pos) (AsgS m (TgN i)) :=
  PS.weak (ps_set hN hi hx he hs hf) fun D σ H s => by
    have q := tIS_asg s
    obtain ⟨ι, h, env, R, S, r⟩ := q
    exact ⟨ι, h, env, R, S, r.mono fun v H1 ⟨ι1, h1, env1, x, R1, S1, rv, r1⟩ => r1 ι1 H1 _ R1 (Fr.refl _ _) (S1.set rv)⟩
def ParS (i j : Nat) (a : Env → M (List IV)) : Env → M Fl := fun env => M.bind (a env) fun xs => match xs with
  | [x, y] => M.pure (.nx ((env.set i (some x)).set j (some y)))
  | _ => stuck
theorem psi_par (i j : Nat) {x y : Str} {a b : Expr} {ma : Env → M (List IV)} {px py pt : Pos} {kt k2 pt2} (hc : X.calm = true) (hN : X.N.Nodup) (ha : PAI X W [a, b] ma) (hi : X.N[i]? = some x := by rfl) (hj : X.N[j]? = some y := by rfl) (hij : i ≠ j := by decide)
    (hx : X.env.scope.names.lookup x = some .local := by rfl) (hy : X.env.scope.names.lookup y = some .local := by rfl) (hw : swappedStores [.Tuple [.Name x px, .Name y py] kt pt] (.Tuple [a, b] k2 pt2) X.env = pure (some [x, y]) := by rfl)
    (hs : swapsWithSole [.Tuple [.Name x px, .Name y py] kt pt] (.Tuple [a, b] k2 pt2) pos.line X.env = pure false := by rfl) : PSI X W (.Assign [.Tuple [.Name x px, .Name y py] kt pt] (.Tuple [a, b] k2 pt2) pos) (ParS i j ma) :=
  PS.weak (ps_par hc hN hi hj hij hx hy ha hw hs) fun D σ H ⟨ι, h, env, R, S, r⟩ =>
    ⟨ι, h, env, R, S, (run_bind (rel1 := RVs) r).mono fun vs H1 ⟨ι1, h1, xs, R1, F1, rs, r1⟩ => by
      cases rs with
      | nil => exact r1.elim
      | cons a1 rs => cases rs with
        | nil => exact r1.elim
        | cons a2 rs => cases rs with
          | nil => exact ⟨_, _, rfl, r1 ι1 H1 (.nx _) R1 (Fr.refl _ _) (.nx (((S.mono R F1).set a1).set a2))⟩
          | cons _ _ => exact r1.elim⟩

/-! loops -/
def WhileS (c : Env → M Bool) (b : Env → M Fl) : Nat → Env → M Fl
  | 0, _ => stuck
  | n + 1, env => M.bind (c env) fun k => if k = true then M.bind (b env) fun f => (match f with
      | .nx e => WhileS c b n e
      | .ct e => WhileS c b n e
      | .bk e => M.pure (.nx e)
      | .rt x => M.pure (.rt x)) else M.pure (.nx env)
theorem psi_while (n : Nat) {body : List Stmt} {mb : Env → M Fl} (hp : PassesOwn (model X.prog X.w) X.A X.env X.xe) (hc : PTI X W c t) (hb : PSsI X W body mb) : PSI X W (.While c body [] pos) (WhileS t mb n) := PS.weak (ps_while hp hc hb) fun D σ H s => by
  refine ⟨fun k σ H => tIS W (WhileS t mb k) D σ H, ⟨n, s⟩, fun k σ H s => ?_⟩
  obtain ⟨ι, h, env, R, S, r⟩ := s
  cases k with
  | zero => exact r.elim
  | succ k =>
    refine ⟨ι, h, env, R, S, (run_bind (rel1 := RB) r).mono fun b H1 ⟨ι1, h1, kb, R1, F1, rb, r1⟩ => ?_⟩
    cases (show b = kb from rb)
    cases b with
    | false => exact iteF (r1 ι1 H1 (.nx σ) R1 (Fr.refl _ _) (.nx (S.mono R F1)))
    | true =>
      refine iteT ⟨fun σ H => tIS W (WhileS t mb k) D σ H, fun σ' H' q => ⟨k, Nat.lt_succ_self _, q⟩, ι1, h1, env, R1, S.mono R F1, (run_bind (rel1 := RFl) (m := mb env) r1).mono fun f H2 ⟨ι2, h2, fm, R2, F2, rf, r2⟩ => ?_⟩
      cases rf with
      | nx S2 => exact ⟨ι2, h2, _, R2, S2, r2⟩
      | ct S2 => exact ⟨ι2, h2, _, R2, S2, r2⟩
      | bk S2 => exact r2 ι2 H2 (.nx _) R2 (Fr.refl _ _) (.nx S2)
      | rt rv => exact r2 ι2 H2 (.rt _) R2 (Fr.refl _ _) (.rt rv)
end

/-! ### what is walked -/
abbrev Src := IH → Nat → Option (Option IV)
/-- what the i-th turn takes: none: no word; some none: the end -/
def SItems (xs : List IV) : Src := fun _ i => some xs[i]?
def SLive (n : Nat) : Src := fun h i => match h[n]? with
  | some (.lst xs) => some xs[i]?
  | _ => none
def SEnum (s : Src) : Src := fun h i => (s h i).map fun o => o.map fun x => .tup [.int i, x]
def SZip (s t : Src) : Src := fun h i => match s h i, t h i with
  | some (some x), some (some y) => some (some (.tup [x, y]))
  | some none, some _ => some none
  | some _, some none => some none
  | _, _ => none
def keysI (kvs : List (Key × IV)) : List IV := kvs.map fun kv => match kv.1 with | .inl i => .int i | .inr s => .str s
/-- the keys of a locked dict -/
def SKeys (n : Nat) : Src := fun h i => match h[n]? with
  | some (.fdc kvs) => some (keysI kvs)[i]?
  | _ => none
def SRev (n k : Nat) : Src := fun h i => if i < k then (match h[n]? with
  | some (.lst xs) => (xs[k - 1 - i]?).map some
  | _ => none) else some none
def RJ (ι : List Addr) (H : Hp) (J : It) (s : Src) : Prop := ∀ ι2 h2 H2, Rel ι2 h2 H2 → Fr ι H ι2 H2 → ∀ i, match s h2 i with
  | none => True
  | some none => J.stop i H2
  | some (some x) => J.go i H2 ∧ ∀ v H3, J.yld i H2 v H3 → ∃ ι3, Rel ι3 h2 H3 ∧ Fr ι2 H2 ι3 H3 ∧ RV ι3 H3 v x
def tII (W : ExW) (m : Env → M Src) : TI := fun σ H Rr => ∃ ι h env, Rel ι h H ∧ RSt ι H σ env ∧ Run W RJ (m env h) ι H Rr
def PII (X : Cx) (W : ExW) (tg e : Expr) (m : Env → M Src) : Prop := PI X tg e (tII W m)
def ForL (s : Src) (t : MTg) (b : Env → M Fl) : Nat → Nat → Env → M Fl
  | 0, _, _ => stuck
  | n + 1, i, env => fun h => match s h i with
    | none => none
    | some none => some (.ok (.nx env), h)
    | some (some x) => M.bind (t x env) (fun env' => M.bind (b env') fun f => (match f with
      | .nx e => ForL s t b n (i + 1) e
      | .ct e => ForL s t b n (i + 1) e
      | .bk e => M.pure (.nx e)
      | .rt x => M.pure (.rt x))) h
def ForS (n : Nat) (src : Env → M Src) (t : MTg) (b : Env → M Fl) : Env → M Fl := fun env => M.bind (src env) fun s => ForL s t b n 0 env
section
variable {X : Cx} {W : ExW} {e e2 c tg : Expr} {m : Env → M IV} {ma : Env → M (List IV)} {pos p : Pos} {ι : List Addr} {h : IH} {H : Hp}
theorem psi_for (n : Nat) {iter : Expr} {body : List Stmt} {src : Env → M Src} {tm : MTg} {mb : Env → M Fl} (hp : PassesOwn (model X.prog X.w) X.A X.env X.xe) (hc : X.calm = true) (hi : PII X W tg iter src) (hg : PGI X W tg tm) (hb : PSsI X W body mb)
    (hs : ∀ x, foldedSetIterable iter X.env x = pure x := by intro _; rfl) : PSI X W (.For tg iter body [] pos) (ForS n src tm mb) := PS.weak (ps_for hp hc hi hg hb hs) fun D σ H ⟨ι, h, env, R, S, r⟩ => by
  refine ⟨ι, h, env, R, S, (run_bind (rel1 := RJ) r).mono fun J H1 ⟨ι1, h1, s, R1, F1, rj, r1⟩ => ?_⟩
  refine ⟨fun i k σ2 H2 => ∃ ι2 h2 env2, Rel ι2 h2 H2 ∧ Fr ι1 H1 ι2 H2 ∧ RSt ι2 H2 σ2 env2 ∧ Run W RFl (ForL s tm mb k i env2 h2) ι2 H2 (D2Q D), ⟨n, ι1, h1, env, R1, Fr.refl _ _, S.mono R F1, r1⟩, ?_⟩
  rintro i k σ2 H2 ⟨ι2, h2, env2, R2, F2, S2, r2⟩
  cases k with
  | zero => exact r2.elim
  | succ k =>
    have q := rj ι2 h2 H2 R2 F2 i
    unfold ForL at r2
    cases e0 : s h2 i with
    | none => simp only [e0] at r2; exact r2.elim
    | some o =>
      cases o with
      | none =>
        simp only [e0] at r2 q
        exact .inl ⟨q, r2 ι2 H2 (.nx σ2) R2 (Fr.refl _ _) (.nx S2)⟩
      | some x =>
        simp only [e0] at r2 q
        refine .inr ⟨q.1, fun σ3 H3 => ∃ ι3 h3 env3, Rel ι3 h3 H3 ∧ Fr ι1 H1 ι3 H3 ∧ RSt ι3 H3 σ3 env3 ∧ Run W RFl (ForL s tm mb k (i + 1) env3 h3) ι3 H3 (D2Q D), fun σ' H' w => ⟨k, Nat.lt_succ_self _, w⟩, fun v H3 y => ?_⟩
        obtain ⟨ι3, R3, F3, rv⟩ := q.2 v H3 y
        have r2' : Run W RFl (M.bind (tm x env2) (fun env' => M.bind (mb env') fun f => (match f with
          | .nx e => ForL s tm mb k (i + 1) e
          | .ct e => ForL s tm mb k (i + 1) e
          | .bk e => M.pure (.nx e)
          | .rt x => M.pure (.rt x))) h2) ι3 H3 (D2Q D) := by
          unfold Run at r2 ⊢
          split <;> rename_i e9 <;> simp only [e9] at r2
          · exact fun ι' H' v R F z => r2 ι' H' v R (F3.trans F) z
          · exact fun ι' H' R F => r2 ι' H' R (F3.trans F)
        refine ⟨ι3, h2, env2, x, R3, S2.mono R2 F3, rv, (run_bind (rel1 := RE) r2').mono fun σ4 H4 ⟨ι4, h4, env4, R4, F4, S4, r4⟩ => ?_⟩
        refine ⟨ι4, h4, env4, R4, S4, (run_bind (rel1 := RFl) r4).mono fun f H5 ⟨ι5, h5, fm, R5, F5, rf, r5⟩ => ?_⟩
        have F15 := ((F2.trans F3).trans F4).trans F5
        cases rf with
        | nx S5 => exact ⟨ι5, h5, _, R5, F15, S5, r5⟩
        | ct S5 => exact ⟨ι5, h5, _, R5, F15, S5, r5⟩
        | bk S5 => exact r5 ι5 H5 (.nx _) R5 (Fr.refl _ _) (.nx S5)
        | rt rv => exact r5 ι5 H5 (.rt _) R5 (Fr.refl _ _) (.rt rv)

/-! sources -/
theorem rj_tup {K : PySem.W.Frag} (R : Rel ι h H) {a : Addr} {vs : List V} {xs : List IV} (e : H a = some (.tup vs)) (rs : RVs ι H vs xs) : RJ ι H (Itt K a) (SItems xs) := by
  intro ι2 h2 H2 R2 F2 i
  have e2 := (F2.keep _ _ e (R.tup_out e)).1
  have rs2 := R.monos F2 rs
  show match some xs[i]? with
    | none => True
    | some none => (Itt K a).stop i H2
    | some (some x) => (Itt K a).go i H2 ∧ _
  cases q : xs[i]? with
  | none =>
    refine ⟨vs, st_of e2, ?_⟩
    rw [rs2.length]; exact List.getElem?_eq_none_iff.mp q
  | some x =>
    obtain ⟨v, q1, rv⟩ := rs2.get q
    refine ⟨⟨vs, v, st_of e2, q1⟩, fun w H3 y => ?_⟩
    obtain ⟨y1, y2⟩ := y
    subst y1
    have := y2 vs (st_of e2)
    rw [q1] at this
    cases this
    exact ⟨ι2, R2, Fr.refl _ _, rv⟩
theorem rj_fl {K : PySem.W.Frag} (R : Rel ι h H) {a : Addr} {o : Obj} {vs : List V} {xs : List IV} (e : H a = some (.frz o (.lst vs))) (hn : a ∉ ι) (rs : RVs ι H vs xs) : RJ ι H (Itl K a) (SItems xs) := by
  intro ι2 h2 H2 R2 F2 i
  have e2 := (F2.keep _ _ e hn).1
  have rs2 := R.monos F2 rs
  show match some xs[i]? with
    | none => True
    | some none => (Itl K a).stop i H2
    | some (some x) => (Itl K a).go i H2 ∧ _
  cases q : xs[i]? with
  | none =>
    refine ⟨vs, sf_of e2, ?_⟩
    rw [rs2.length]; exact List.getElem?_eq_none_iff.mp q
  | some x =>
    obtain ⟨v, q1, rv⟩ := rs2.get q
    refine ⟨⟨vs, v, sf_of e2, q1⟩, fun w H3 y => ?_⟩
    obtain ⟨y1, y2⟩ := y
    subst y1
    have := y2 vs (sf_of e2)
    rw [q1] at this
    cases this
    exact ⟨ι2, R2, Fr.refl _ _, rv⟩
theorem rj_live {K : PySem.W.Frag} {n : Nat} {a : Addr} (ea : ι[n]? = some a) : RJ ι H (Itl K a) (SLive n) := by
  intro ι2 h2 H2 R2 F2 i
  have ea2 := pre_get F2.pre ea
  unfold SLive
  cases q0 : h2[n]? with
  | none => trivial
  | some o =>
    cases o with
    | dic _ => trivial
    | fdc _ => trivial
    | lst xs =>
      obtain ⟨a', vs, z1, _, e2, rs2⟩ := R2.lst (.ref ea2) q0
      cases z1
      show match some xs[i]? with
        | none => True
        | some none => (Itl K _).stop i H2
        | some (some x) => (Itl K _).go i H2 ∧ _
      cases q : xs[i]? with
      | none =>
        refine ⟨vs, sq_of e2, ?_⟩
        rw [rs2.length]; exact List.getElem?_eq_none_iff.mp q
      | some x =>
        obtain ⟨v, q1, rv⟩ := rs2.get q
        refine ⟨⟨vs, v, sq_of e2, q1⟩, fun w H3 y => ?_⟩
        obtain ⟨y1, y2⟩ := y
        subst y1
        have := y2 vs (sq_of e2)
        rw [q1] at this
        cases this
        exact ⟨ι2, R2, Fr.refl _ _, rv⟩
def srcI : IV → M Src
  | .tup xs => M.pure (SItems xs)
  | .fl xs => M.pure (SItems xs)
  | .ref n => fun h => match h[n]? with
    | some (.lst _) => some (.ok (SLive n), h)
    | some (.fdc _) => some (.ok (SKeys n), h)
    | _ => none
  | .str s => M.pure (SItems (s.cps.toList.map fun c => .str ⟨#[c]⟩))
  | _ => stuck
def Iter (m : Env → M IV) : Env → M Src := fun env => M.bind (m env) srcI
theorem rj_str {s : Str} : RJ ι H (Its s) (SItems (s.cps.toList.map fun c => .str ⟨#[c]⟩)) := by
  intro ι2 h2 H2 R2 F2 i
  show match some (s.cps.toList.map fun c => IV.str ⟨#[c]⟩)[i]? with
    | none => True
    | some none => (Its s).stop i H2
    | some (some x) => (Its s).go i H2 ∧ _
  rw [List.getElem?_map]
  cases q : s.cps.toList[i]? with
  | none =>
    have := List.getElem?_eq_none_iff.mp q
    show s.cps.size ≤ i
    simpa using this
  | some c =>
    have hl := (List.getElem?_eq_some_iff.mp q).1
    refine ⟨by show i < s.cps.size; simpa using hl, fun v H3 y => ?_⟩
    obtain ⟨y1, c', y2, y3⟩ := y
    subst y1 y3
    have e : c' = c := by
      rw [Array.getElem?_toList] at q
      rw [q] at y2; cases y2; rfl
    subst e
    exact ⟨ι2, R2, Fr.refl _ _, .str _⟩
theorem rj_keys {n : Nat} {a : Addr} {ob : Obj} {ks : List (Key × V)} (ea : ι[n]? = some a) (e : H a = some (.frz ob (.dK ks))) : RJ ι H (Itk a ob ks) (SKeys n) := by
  intro ι2 h2 H2 R2 F2 i
  have ea2 := pre_get F2.pre ea
  have eH := F2.frz _ _ _ e
  unfold SKeys
  cases q0 : h2[n]? with
  | none => trivial
  | some o =>
    cases o with
    | lst _ => trivial
    | dic _ => trivial
    | fdc kvs =>
      obtain ⟨a', ob', ks', z1, _, e2, rk⟩ := R2.fdc (.ref ea2) q0
      cases z1
      rw [eH] at e2
      cases e2
      have rs : RVs ι2 H2 (ks.map fun kv => kV kv.1) (keysI kvs) := rk.keys
      have lk : (keysI kvs).length = kvs.length := by unfold keysI; rw [List.length_map]
      have ln := rk.length
      show match some (keysI kvs)[i]? with
        | none => True
        | some none => (Itk _ _ _).stop i H2
        | some (some x) => (Itk _ _ _).go i H2 ∧ _
      cases q : (keysI kvs)[i]? with
      | none =>
        have := List.getElem?_eq_none_iff.mp q
        exact ⟨eH, by omega⟩
      | some x =>
        have lt := (List.getElem?_eq_some_iff.mp q).1
        obtain ⟨v, q1, rv⟩ := rs.get q
        refine ⟨⟨eH, by omega⟩, fun w H3 y => ?_⟩
        obtain ⟨y1, k, u, y2, y3⟩ := y
        subst y1
        rw [List.getElem?_map, y2] at q1
        cases q1
        subst y3
        exact ⟨ι2, R2, Fr.refl _ _, rv⟩
theorem pii_seq (he : PEI X W e m) : PII X W tg e (Iter m) := by
  refine PI.weak (PI.or (pi_list he) (PI.or (pi_tup he) (PI.or (pi_str he) (pi_keys he)))) fun σ H Rr ⟨ι, h, env, R, S, r⟩ => ?_
  -- which of the three: by the value that comes
  have run := run_bind (rel1 := RV) r
  have key : ∀ (P : V → Hp → Prop), (∀ v H1, (∃ ι1 h1 x, Rel ι1 h1 H1 ∧ Fr ι H ι1 H1 ∧ RV ι1 H1 v x ∧ Run W RJ (srcI x h1) ι1 H1 Rr) → P v H1) → tI W m σ H P := fun P k => ⟨ι, h, env, R, S, run.mono k⟩
  cases q : m env h with
  | none => unfold Iter M.bind at r; rw [q] at r; exact r.elim
  | some oh =>
    obtain ⟨o, h1⟩ := oh
    cases o with
    | ex ee =>
      refine .inl ⟨ι, h, env, R, S, ?_⟩
      rw [q]
      have r' : Run W RJ (some (Out.ex ee, h1)) ι H Rr := by unfold Iter M.bind at r; rw [q] at r; exact r
      exact r'
    | ok x =>
      have r' : Run W RJ (srcI x h1) ι H Rr := by unfold Iter M.bind at r; rw [q] at r; exact r
      have mk : ∀ (P : V → Hp → Prop), (∀ ι' H' v, Rel ι' h1 H' → Fr ι H ι' H' → RV ι' H' v x → P v H') → tI W m σ H P := fun P k => ⟨ι, h, env, R, S, by rw [q]; exact k⟩
      cases x with
      | non => exact r'.elim
      | bl _ => exact r'.elim
      | int _ => exact r'.elim
      | kl _ => exact r'.elim
      | exo => exact r'.elim
      | str s => exact .inr (.inr (.inl (mk _ fun ι' H' v R' F' rv => by cases rv; exact ⟨s, rfl, r' ι' H' _ R' F' rj_str⟩)))
      | tup xs => exact .inr (.inl (mk _ fun ι' H' v R' F' rv => by
          cases rv with
          | tup e1 rs => exact ⟨_, rfl, ⟨_, st_of e1⟩, r' ι' H' _ R' F' (rj_tup R' e1 rs)⟩))
      | fl xs => exact .inl (mk _ fun ι' H' v R' F' rv => by
          cases rv with
          | fl e1 hn rs => exact ⟨_, rfl, ⟨_, sf_of e1⟩, r' ι' H' _ R' F' (rj_fl R' e1 hn rs)⟩)
      | ref n =>
        have r'' : Run W RJ (match h1[n]? with
          | some (.lst _) => some (.ok (SLive n), h1)
          | some (.fdc _) => some (.ok (SKeys n), h1)
          | _ => none) ι H Rr := r'
        split at r''
        · rename_i xs e1
          exact .inl (mk _ fun ι' H' v R' F' rv => by
            obtain ⟨a, vs, z1, ea, e2, rs⟩ := R'.lst rv e1
            subst z1
            exact ⟨a, rfl, ⟨vs, sq_of e2⟩, r'' ι' H' _ R' F' (rj_live ea)⟩)
        · rename_i kvs e1
          exact .inr (.inr (.inr (mk _ fun ι' H' v R' F' rv => by
            obtain ⟨a, ob, ks, z1, ea, e2, rk⟩ := R'.fdc rv e1
            subst z1
            exact ⟨a, ob, rfl, .inl ⟨ks, e2, r'' ι' H' _ R' F' (rj_keys ea e2)⟩⟩)))
        · exact r''.elim
@[irreducible] def rngLim : Int := 1000000000
def SRange (lo : Int) (n : Nat) : Src := fun _ i => some (if i < n then some (.int (lo + i)) else none)
def rng1 : List IV → M Src
  | [.int j] => if -rngLim ≤ j ∧ j < rngLim then M.pure (SRange 0 j.toNat) else stuck
  | _ => stuck
def rng2 : List IV → M Src
  | [.int i, .int j] => if (-rngLim ≤ i ∧ i < rngLim) ∧ -rngLim ≤ j ∧ j < rngLim then M.pure (SRange i (j - i).toNat) else stuck
  | _ => stuck
def IterA (g : List IV → M Src) (ma : Env → M (List IV)) : Env → M Src := fun env => M.bind (ma env) g
theorem rj_range {lo : Int} {n : Nat} : RJ ι H (Itr lo n) (SRange lo n) := by
  intro ι2 h2 H2 R2 F2 i
  show match some (if i < n then some (IV.int (lo + i)) else none) with
    | none => True
    | some none => (Itr lo n).stop i H2
    | some (some x) => (Itr lo n).go i H2 ∧ _
  by_cases hi : i < n
  · rw [if_pos hi]
    refine ⟨hi, fun v H3 y => ?_⟩
    obtain ⟨y1, y2⟩ := y
    subst y1 y2
    exact ⟨ι2, R2, Fr.refl _ _, .int _⟩
  · rw [if_neg hi]
    exact Nat.le_of_not_lt hi
theorem pii_range1 (hm : X.mg "range" = none) (ha : PAI X W [e] ma) (hg : Gl X "range" := by rfl) (hs : starEach [e] X.env = [(false, eval e X.env)] := by rfl) : PII X W tg (.Call (.Name "range" p) [e] [] pos) (IterA rng1 ma) :=
  PI.weak (pi_range1 hg hm ha hs) fun σ H Rr ⟨ι, h, env, R, S, r⟩ => ⟨ι, h, env, R, S, (run_bind (rel1 := RVs) r).mono fun vs H1 ⟨ι1, h1, xs, R1, F1, rs, r1⟩ => by
    cases rs with
    | nil => exact r1.elim
    | cons a rs =>
      cases a with
      | int j => cases rs with
        | nil =>
          obtain ⟨hl, r1⟩ := run_if (m := M.pure (SRange 0 j.toNat)) r1
          unfold rngLim at hl
          exact ⟨j, rfl, by omega, by omega, r1 ι1 H1 _ R1 (Fr.refl _ _) rj_range⟩
        | cons _ _ => exact r1.elim
      | _ => exact r1.elim⟩
theorem pii_range2 (hm : X.mg "range" = none) (ha : PAI X W [e, e2] ma) (hg : Gl X "range" := by rfl) (hs : starEach [e, e2] X.env = [(false, eval e X.env), (false, eval e2 X.env)] := by rfl) (hs2 : starEach [e2] X.env = [(false, eval e2 X.env)] := by rfl) : PII X W tg (.Call (.Name "range" p) [e, e2] [] pos) (IterA rng2 ma) :=
  PI.weak (pi_range2 hg hm ha hs hs2) fun σ H Rr ⟨ι, h, env, R, S, r⟩ => ⟨ι, h, env, R, S, (run_bind (rel1 := RVs) r).mono fun vs H1 ⟨ι1, h1, xs, R1, F1, rs, r1⟩ => by
    cases rs with
    | nil => exact r1.elim
    | cons a rs =>
      cases a with
      | int i => cases rs with
        | nil => exact r1.elim
        | cons b rs => cases b with
          | int j => cases rs with
            | nil =>
              obtain ⟨hl, r1⟩ := run_if (m := M.pure (SRange i (j - i).toNat)) r1
              unfold rngLim at hl
              exact ⟨i, j, rfl, by omega, r1 ι1 H1 _ R1 (Fr.refl _ _) rj_range⟩
            | cons _ _ => exact r1.elim
          | _ => exact r1.elim
      | _ => exact r1.elim⟩
end
end Iv
set_option Elab.async false
set_option linter.all false
set_option maxRecDepth 100000
set_option maxHeartbeats 2000000
set_option autoImplicit false
namespace Iv
open PySem L2
variable [KL]

abbrev W0 : ExW := fun _ _ _ _ => False
/-! ### a def -/
def Fn (n : Nat) (m : Env → M Fl) : List IV → M IV := fun xs => M.bind (m (xs.map some ++ List.replicate (n - xs.length) none)) fun f => match f with
  | .rt x => M.pure x
  | .nx _ => M.pure .non
  | _ => stuck
def spI (WW : XK → ExW) (n : Nat) (F : List IV → M IV) : Sp := fun vs H Q E => vs.length = n ∧ ∃ ι h xs, Rel ι h H ∧ RVs ι H vs xs ∧ Run (WW E) RV (F xs h) ι H Q
abbrev sp0 (n : Nat) (F : List IV → M IV) : Sp := spI (fun _ => W0) n F
theorem rst_start {ι : List Addr} {H : Hp} {vs : List V} {xs : List IV} (r : RVs ι H vs xs) (N : List Str) : RSt ι H (L2.start N vs) (xs.map some ++ List.replicate (N.length - xs.length) none) := by
  refine ⟨by simp [L2.start, r.length], fun i x e => ?_⟩
  by_cases hi : i < xs.length
  · rw [List.getElem?_append_left (by simpa using hi), List.getElem?_map] at e
    cases q : xs[i]? with
    | none => rw [q] at e; cases e
    | some y =>
      rw [q] at e; cases e
      obtain ⟨v, q1, rv⟩ := r.get q
      refine ⟨v, ?_, rv⟩
      unfold L2.start
      rw [List.getElem?_append_left (by rw [List.length_map, r.length]; exact hi), List.getElem?_map, q1]
      rfl
  · rw [List.getElem?_append_right (by simpa using Nat.le_of_not_lt hi), List.getElem?_replicate] at e
    split at e <;> cases e
section
variable {P : Program} {w : World} {K : PySem.W.Frag} {mg : Str → Option Value} {base : Heap} {W : ExW}
theorem fn_start {ι : List Addr} {h : IH} {H : Hp} {vs : List V} {xs : List IV} {N : List Str} {m : Env → M Fl} {Q : VK} (R : Rel ι h H) (rs : RVs ι H vs xs) (r : Run W RV (Fn N.length m xs h) ι H Q) : tIS W m { nx := fun _ H' => Q .non H', rt := Q } (L2.start N vs) H := by
  refine ⟨ι, h, _, R, rst_start rs N, (run_bind (rel1 := RFl) r).mono fun f H1 ⟨ι1, h1, fm, R1, F1, rf, r1⟩ => ?_⟩
  cases rf with
  | nx _ => exact run_pure (x := IV.non) r1 R1 .non
  | rt rv => exact run_pure r1 R1 rv
  | bk _ => exact r1.elim
  | ct _ => exact r1.elim
/-- a def that raises nothing -/
theorem def_ok {x qual : Str} {st : Stmt} {f : Addr} {fd : FuncData} {N ps : List Str} {k : Nat} {m : Env → M Fl} (F : Fun K x qual st f fd) (S : FnScope N ps (defScope st))
    (hb : ∀ (cdv : Value) (A : Around) (outer : List PySem.Env) (s : Shared) (H : Hp) (E : XK), Room k (A.deeper (PyProof.Rows.envOfC qual (defScope st) s.heap.objs.size f cdv)) → PSsI (cxOf CX0 P w K mg base N qual (defScope st) f cdv A outer s H E).nox W0 (defBody st) m) :
    FnOk P w K mg base CX0 (k + 1) f fd ps (sp0 ps.length (Fn N.length m)) := by
  refine F.ok S (fun vs H Q E q => q.1) fun cdv A outer s H vs Q E hr ⟨_, ι, h, xs, R, rs, r⟩ => ⟨_, hb cdv A outer s H E hr, fn_start R rs r⟩
theorem fn_eq {k : Nat} {f : Addr} {fd : FuncData} {ps : List Str} {n : Nat} {F G : List IV → M IV} {CX : CXT} {WW : XK → ExW} (h : FnOk P w K mg base CX k f fd ps (spI WW n F)) (e : F = G) : FnOk P w K mg base CX k f fd ps (spI WW n G) := e ▸ h
theorem Room.hu {k : Nat} {A : Around} (hr : Room k A) : A.units + 65 < cLine := by have := hr.un; omega
end
def noex {α : Type} (m : M α) : M α := fun h => match m h with
  | some (.ok x, h') => some (.ok x, h')
  | _ => none
theorem run_noex {α β : Type} {W : ExW} {rel : List Addr → Hp → β → α → Prop} {m : M α} {h : IH} {ι : List Addr} {H : Hp} {Q : β → Hp → Prop} (r : Run W rel (noex m h) ι H Q) : Run W0 rel (m h) ι H Q := by
  unfold noex at r
  generalize m h = o at r
  match o, r with
  | none, r => exact r
  | some (.ok x, h'), r => exact r
  | some (.ex e, h'), r => exact r.elim
/-- a call of a def of n parameters -/
def CallF (n : Nat) (F : List IV → M IV) (a : Env → M (List IV)) : Env → M IV := fun env => M.bind (a env) fun xs => if xs.length = n then noex (F xs) else stuck
section
variable {X : Cx} {W : ExW} {e e2 o : Expr} {es : List Expr} {ma : Env → M (List IV)} {m mo : Env → M IV} {pos p apos : Pos} {x : Str}
/-- a call of a def of the text that raises nothing -/
theorem pei_call0 {F : List IV → M IV} {k n : Nat} {f : Addr} {fd : FuncData} {ps : List Str} (FO : FnOk X.prog X.w X.K X.mg X.base CX0 k f fd ps (sp0 n F)) (hr : Room k X.A) (hm : X.mg x = some (.ref f)) (hk : PySem.W.keepIn X.K (.ref f) = true) (hb : Binds X.K fd ps [])
    (ha : PAI X W (e :: es) ma) (hg : Gl X x := by rfl) (hdb : (x == ("__debug__" : Str)) = false := by decide) (he : starEach (e :: es) X.env = (false, eval e X.env) :: starEach es X.env := by rfl)
    (hpl : (backTo pos (starEach es X.env)).any (·.1) = false := by rfl) : PEI X W (.Call (.Name x p) (e :: es) [] pos) (CallF n F ma) :=
  PE.weak (pe_call FO hr hg hm hk hb .nil pass0 ha hdb he hpl) fun σ H Q ⟨ι, h, env, R, S, r⟩ =>
    ⟨ι, h, env, R, S, (run_bind (rel1 := RVs) r).mono fun vs H1 ⟨ι1, h1, xs, R1, F1, rs, r1⟩ => by
      obtain ⟨hl, r1⟩ := run_if r1
      rw [List.append_nil]
      exact ⟨by rw [rs.length]; exact hl, ι1, h1, xs, R1, rs, run_noex r1⟩⟩
theorem pei_call00 {F : List IV → M IV} {k n : Nat} {f : Addr} {fd : FuncData} {ps : List Str} (FO : FnOk X.prog X.w X.K X.mg X.base CX0 k f fd ps (sp0 n F)) (hr : Room k X.A) (hm : X.mg x = some (.ref f)) (hk : PySem.W.keepIn X.K (.ref f) = true) (hb : Binds X.K fd ps [])
    (hg : Gl X x := by rfl) (hdb : (x == ("__debug__" : Str)) = false := by decide) : PEI X W (.Call (.Name x p) [] [] pos) (CallF n F Nil) :=
  PE.weak (pe_call0 FO hr hg hm hk hb .nil pass0 hdb) fun σ H Q ⟨ι, h, env, R, S, r⟩ => by
    obtain ⟨hl, r1⟩ := run_if (m := noex (F [])) r
    exact ⟨hl, ι, h, [], R, .nil, run_noex r1⟩

/-- all that a caller wants of a callee -/
def CallOk (P : Program) (w : World) (K : PySem.W.Frag) (mg : Str → Option Value) (base : Heap) (x : Str) (k n : Nat) (F : List IV → M IV) : Prop :=
  ∃ f fd ps, FnOk P w K mg base CX0 k f fd ps (sp0 n F) ∧ mg x = some (.ref f) ∧ PySem.W.keepIn K (.ref f) = true ∧ Binds K fd ps []
theorem CallOk.mono {P : Program} {w : World} {K : PySem.W.Frag} {mg : Str → Option Value} {base : Heap} {j k n : Nat} {F : List IV → M IV} (C : CallOk P w K mg base x j n F) (h : j ≤ k) : CallOk P w K mg base x k n F :=
  let ⟨f, fd, ps, a, b, c, d⟩ := C; ⟨f, fd, ps, a.mono h, b, c, d⟩
theorem pei_callC {F : List IV → M IV} {k n : Nat} (C : CallOk X.prog X.w X.K X.mg X.base x k n F) (hr : Room k X.A) (ha : PAI X W (e :: es) ma) (hg : Gl X x := by rfl) (hdb : (x == ("__debug__" : Str)) = false := by decide) (he : starEach (e :: es) X.env = (false, eval e X.env) :: starEach es X.env := by rfl)
    (hpl : (backTo pos (starEach es X.env)).any (·.1) = false := by rfl) : PEI X W (.Call (.Name x p) (e :: es) [] pos) (CallF n F ma) :=
  let ⟨_, _, _, a, b, c, d⟩ := C; pei_call0 a hr b c d ha hg hdb he hpl
theorem pei_callC0 {F : List IV → M IV} {k n : Nat} (C : CallOk X.prog X.w X.K X.mg X.base x k n F) (hr : Room k X.A) (hg : Gl X x := by rfl) (hdb : (x == ("__debug__" : Str)) = false := by decide) : PEI X W (.Call (.Name x p) [] [] pos) (CallF n F Nil) :=
  let ⟨_, _, _, a, b, c, d⟩ := C; pei_call00 a hr b c d hg hdb
/-- a def of the text, as it stands behind the top -/
def TopFn (K : PySem.W.Frag) (mg : Str → Option Value) (x : Str) (st : Stmt) (ps : List Str) : Prop := ∃ f fd, Fun K x x st f fd ∧ mg x = some (.ref f) ∧ Binds K fd ps []
theorem top_ok {P : Program} {w : World} {K : PySem.W.Frag} {mg : Str → Option Value} {base : Heap} {st : Stmt} {N ps : List Str} {k : Nat} {mb : Env → M Fl} (T : TopFn K mg x st ps) (S : FnScope N ps (defScope st))
    (hb : ∀ (f : Addr) (cdv : Value) (A : Around) (outer : List PySem.Env) (s : Shared) (H : Hp) (E : XK), Room k (A.deeper (PyProof.Rows.envOfC x (defScope st) s.heap.objs.size f cdv)) → PSsI (cxOf CX0 P w K mg base N x (defScope st) f cdv A outer s H E).nox W0 (defBody st) mb) :
    CallOk P w K mg base x (k + 1) ps.length (Fn N.length mb) :=
  let ⟨f, fd, F, m, b⟩ := T; ⟨f, fd, ps, def_ok F S (hb f), m, F.kp, b⟩
/-- the bottom of a recursion -/
theorem top_stuck {P : Program} {w : World} {K : PySem.W.Frag} {mg : Str → Option Value} {base : Heap} {st : Stmt} {ps : List Str} (k : Nat) (T : TopFn K mg x st ps) : CallOk P w K mg base x k ps.length (fun _ => stuck) :=
  let ⟨f, fd, F, m, b⟩ := T; ⟨f, fd, ps, ⟨fun _ _ _ _ q => q.1, fun _ _ _ _ _ _ _ _ _ _ _ _ _ ⟨_, _, _, _, _, _, r⟩ => r.elim⟩, m, F.kp, b⟩

/-! ### methods of built-in types -/
def Mth (chk : IV → M Unit) (g : IV → List IV → M IV) (o : Env → M IV) (a : Env → M (List IV)) : Env → M IV := fun env => M.bind (o env) fun x => M.bind (chk x) fun _ => M.bind (a env) fun xs => g x xs
def RMt (W : ExW) (r : V → List V → Hp → VK → Prop) (g : IV → List IV → M IV) : Prop := ∀ ι h H v x vs xs Q, Rel ι h H → RV ι H v x → RVs ι H vs xs → Run W RV (g x xs h) ι H Q → r v vs H Q
def chkL : IV → M Unit := fun x h => match x with
  | .ref n => match h[n]? with
    | some (.lst _) => some (.ok (), h)
    | _ => none
  | _ => none
def chkS : IV → M Unit := fun x h => match x with
  | .str _ => some (.ok (), h)
  | _ => none
theorem chkL_ok {ι : List Addr} {h : IH} {H : Hp} {v : V} {y : IV} {α β : Type} {rel : List Addr → Hp → β → α → Prop} {k : Unit → M α} {Q : β → Hp → Prop} (R : Rel ι h H) (rv : RV ι H v y) (r : Run W rel (M.bind (chkL y) k h) ι H Q) : tyV X.K "list" v H ∧ Run W rel (k () h) ι H Q := by
  cases rv with
  | @ref n a ea =>
    unfold M.bind chkL at r
    cases q : h[n]? with
    | none => simp only [q] at r; exact r.elim
    | some o =>
      cases o with
      | lst xs =>
        simp only [q] at r
        obtain ⟨a', vs, q1, _, q2, rs⟩ := R.lst (.ref ea) q
        cases q1
        exact ⟨.inl ⟨rfl, vs, sq_of q2⟩, r⟩
      | dic _ => simp only [q] at r; exact r.elim
      | fdc _ => simp only [q] at r; exact r.elim
  | _ => exact r.elim
theorem chkS_ok {ι : List Addr} {h : IH} {H : Hp} {v : V} {y : IV} {α β : Type} {rel : List Addr → Hp → β → α → Prop} {k : Unit → M α} {Q : β → Hp → Prop} (rv : RV ι H v y) (r : Run W rel (M.bind (chkS y) k h) ι H Q) : tyV X.K "str" v H ∧ Run W rel (k () h) ι H Q := by
  cases rv with
  | str s => exact ⟨rfl, r⟩
  | _ => exact r.elim
section
variable {T id : String} {name : Str} {r : V → List V → Hp → VK → Prop} {g : IV → List IV → M IV} {chk : IV → M Unit}
theorem pei_mth (hck : ∀ {ι : List Addr} {h : IH} {H : Hp} {v : V} {y : IV} {k : Unit → M IV} {Q : VK}, Rel ι h H → RV ι H v y → Run W RV (M.bind (chk y) k h) ι H Q → tyV X.K T v H ∧ Run W RV (k () h) ι H Q) (hr : RMt W r g) (pa : PlainAttrs T) (slot : Slot T name id) (hty : typeOf (.builtin id) = pure (.type "method_descriptor")) (hm : MtR X id r)
    (ho : PEI X W o mo) (ha : PAI X W (e :: es) ma) (hbase : attributeBase o name X.env (eval o X.env) = eval o X.env := by rfl)
    (hfew : ((backTo pos (starEach (e :: es) X.env)).all (fun x => !x.1) && (backToKw pos (keywordEach [] X.env)).all (fun x => x.1.isSome) && decide ((e :: es).length + ([] : List Keyword).length + (if ([] : List Keyword).isEmpty then 0 else 1) < 30)) = true := by rfl)
    (hline : (apos.endLine == pos.line) = true := by rfl) (hs : starEach (e :: es) X.env = (false, eval e X.env) :: starEach es X.env := by rfl) (hplain : (backTo pos (starEach es X.env)).any (·.1) = false := by rfl) :
    PEI X W (.Call (.Attribute o name apos) (e :: es) [] pos) (Mth chk g mo ma) := PE.weak (pe_bm pa slot hty hm ho ha hbase hfew hline hs hplain) fun σ H Q ⟨ι, h, env, R, S, r⟩ =>
  ⟨ι, h, env, R, S, (run_bind (rel1 := RV) r).mono fun v H1 ⟨ι1, h1, y, R1, F1, rv, r1⟩ => by
    obtain ⟨ty, r2⟩ := hck R1 rv r1
    refine ⟨ty, ι1, h1, env, R1, S.mono R F1, (run_bind (rel1 := RVs) r2).mono fun vs H2 ⟨ι2, h2, ys, R2, F2, rs, r3⟩ => ?_⟩
    exact hr ι2 h2 H2 v y vs ys Q R2 (R1.mono F2 rv) rs r3⟩
theorem pei_mth0 (hck : ∀ {ι : List Addr} {h : IH} {H : Hp} {v : V} {y : IV} {k : Unit → M IV} {Q : VK}, Rel ι h H → RV ι H v y → Run W RV (M.bind (chk y) k h) ι H Q → tyV X.K T v H ∧ Run W RV (k () h) ι H Q) (hr : RMt W r g) (pa : PlainAttrs T) (slot : Slot T name id) (hty : typeOf (.builtin id) = pure (.type "method_descriptor")) (hm : MtR X id r)
    (ho : PEI X W o mo) (hbase : attributeBase o name X.env (eval o X.env) = eval o X.env := by rfl) (hline : (apos.endLine == pos.line) = true := by rfl) :
    PEI X W (.Call (.Attribute o name apos) [] [] pos) (Mth chk g mo Nil) := PE.weak (pe_bm0 pa slot hty hm ho hbase hline) fun σ H Q ⟨ι, h, env, R, S, r⟩ =>
  ⟨ι, h, env, R, S, (run_bind (rel1 := RV) r).mono fun v H1 ⟨ι1, h1, y, R1, F1, rv, r1⟩ => by
    obtain ⟨ty, r2⟩ := hck R1 rv r1
    exact ⟨ty, hr ι1 h1 H1 v y [] [] Q R1 rv .nil r2⟩⟩
end
def appM : IV → List IV → M IV := fun x ys h => match x, ys with
  | .ref n, [y] => match h[n]? with
    | some (.lst xs) => if xs.length < lim then some (.ok .non, h.set n (.lst (xs ++ [y]))) else none
    | _ => none
  | _, _ => none
def extM : IV → List IV → M IV := fun x ys h => match x, ys with
  | .ref n, [.ref m] => match h[n]?, h[m]? with
    | some (.lst xs), some (.lst zs) => if xs.length + zs.length ≤ lim then some (.ok .non, h.set n (.lst (xs ++ zs))) else none
    | _, _ => none
  | _, _ => none
def popM : IV → List IV → M IV := fun x ys h => match x, ys with
  | .ref n, [] => match h[n]? with
    | some (.lst xs) => match xs[xs.length - 1]? with
      | some y => some (.ok y, h.set n (.lst xs.dropLast))
      | none => none
    | _ => none
  | _, _ => none
def popAtM : IV → List IV → M IV := fun x ys h => match x, ys with
  | .ref n, [.int i] => match h[n]? with
    | some (.lst xs) => if -rngLim ≤ i ∧ i < rngLim then (match seqIndex? i xs.length with
      | some k => match xs[k]? with
        | some y => some (.ok y, h.set n (.lst (xs.eraseIdx k)))
        | none => none
      | none => none) else none
    | _ => none
  | _, _ => none
def joinM : IV → List IV → M IV := fun x ys h => match x, ys with
  | .str a, [y] => match (seqI h y).bind strs? with
    | some zs => if (zs.map (·.length)).sum + zs.length * a.length ≤ lim then some (.ok (.str (Txt.join a zs)), h) else none
    | none => none
  | _, _ => none
def splitM : IV → List IV → M IV := fun x ys h => match x, ys with
  | .str a, [.str b] => if (b.length == 0) = false ∧ a.length + 2 ≤ lim then mkL ((Txt.split a b).map IV.str) h else none
  | _, _ => none
theorem run_set {ι : List Addr} {h : IH} {H : Hp} {n : Nat} {a : Addr} {o : HO} {u : IO} {y : IV} {v : V} {Q : VK} (R : Rel ι h H) (ea : ι[n]? = some a) (nf : NF H a) (new : RO ι (upd H a o) a u) (rv : RV ι H v y) (r : Run W RV (some (.ok y, h.set n u)) ι H Q) : Q v (upd H a o) :=
  r ι _ v (R.set ea new) (fr_set (List.mem_of_getElem? ea) nf) (R.monok (fk_set (List.mem_of_getElem? ea)) rv)
theorem rm_app : RMt W rAppend appM := by
  intro ι h H v x vs xs Q R rv rs r
  cases rv with
  | @ref n a ea =>
    cases rs with
    | nil => exact r.elim
    | @cons w y _ _ rw rs =>
      cases rs with
      | cons _ _ => exact r.elim
      | nil =>
        have r' : Run W RV (match h[n]? with
          | some (.lst xs) => if xs.length < lim then some (.ok .non, h.set n (.lst (xs ++ [y]))) else none
          | _ => none) ι H Q := r
        split at r'
        · rename_i zs e1
          split at r'
          · rename_i hl
            obtain ⟨a', ws, q1, q0, q2, r1⟩ := R.lst (.ref ea) e1
            cases q1
            exact ⟨_, ws, w, rfl, rfl, q2, by rw [r1.length]; exact sz_lt hl, run_set (u := .lst (zs ++ [y])) R ea (nf_lst q2) ⟨_, upd_same, (R.monosk (fk_set (List.mem_of_getElem? ea)) r1).append (.cons (R.monok (fk_set (List.mem_of_getElem? ea)) rw) .nil)⟩ .non r'⟩
          · exact r'.elim
        · exact r'.elim
  | _ => exact r.elim
theorem rm_pop : RMt W rPop popM := by
  intro ι h H v x vs xs Q R rv rs r
  cases rv with
  | @ref n a ea =>
    cases rs with
    | cons _ _ => exact r.elim
    | nil =>
      have r' : Run W RV (match h[n]? with
        | some (.lst xs) => match xs[xs.length - 1]? with
          | some y => some (.ok y, h.set n (.lst xs.dropLast))
          | none => none
        | _ => none) ι H Q := r
      split at r'
      · rename_i zs e1
        split at r'
        · rename_i y e2
          obtain ⟨a', ws, q1, q0, q2, r1⟩ := R.lst (.ref ea) e1
          cases q1
          obtain ⟨u, q3, ru⟩ := r1.get e2
          exact ⟨_, ws, u, rfl, rfl, q2, by rw [r1.length]; exact q3, run_set (u := .lst zs.dropLast) R ea (nf_lst q2) ⟨_, upd_same, (R.monosk (fk_set (List.mem_of_getElem? ea)) r1).dropLast⟩ ru r'⟩
        · exact r'.elim
      · exact r'.elim
  | _ => exact r.elim
theorem rm_popAt : RMt W rPopAt popAtM := by
  intro ι h H v x vs xs Q R rv rs r
  cases rv with
  | @ref n a ea =>
    cases rs with
    | nil => exact r.elim
    | @cons w y _ _ rw rs =>
      cases rs with
      | cons _ _ => cases rw <;> exact r.elim
      | nil =>
        cases rw with
        | int i =>
          have r' : Run W RV (match h[n]? with
            | some (.lst xs) => if -rngLim ≤ i ∧ i < rngLim then (match seqIndex? i xs.length with
              | some k => match xs[k]? with
                | some y => some (.ok y, h.set n (.lst (xs.eraseIdx k)))
                | none => none
              | none => none) else none
            | _ => none) ι H Q := r
          split at r'
          · rename_i zs e1
            split at r'
            · rename_i hb
              unfold rngLim at hb
              split at r'
              · rename_i k e2
                split at r'
                · rename_i y e3
                  obtain ⟨a', ws, q1, q0, q2, r1⟩ := R.lst (.ref ea) e1
                  cases q1
                  obtain ⟨u, q3, ru⟩ := r1.get e3
                  exact ⟨_, ws, i, k, u, rfl, rfl, q2, by omega, by omega, by rw [r1.length]; exact e2, q3, run_set (u := .lst (zs.eraseIdx k)) R ea (nf_lst q2) ⟨_, upd_same, (R.monosk (fk_set (List.mem_of_getElem? ea)) r1).eraseIdx k⟩ ru r'⟩
                · exact r'.elim
              · exact r'.elim
            · exact r'.elim
          · exact r'.elim
        | _ => exact r.elim
  | _ => exact r.elim
theorem rm_ext : RMt W rExtend extM := by
  intro ι h H v x vs xs Q R rv rs r
  cases rv with
  | @ref n a ea =>
    cases rs with
    | nil => exact r.elim
    | @cons w y _ _ rw rs =>
      cases rs with
      | cons _ _ => cases rw <;> exact r.elim
      | nil =>
        cases rw with
        | @ref k b eb =>
          have r' : Run W RV (match h[n]?, h[k]? with
            | some (.lst xs), some (.lst zs) => if xs.length + zs.length ≤ lim then some (.ok .non, h.set n (.lst (xs ++ zs))) else none
            | _, _ => none) ι H Q := r
          split at r'
          · rename_i zs us e1 e2
            split at r'
            · rename_i hl
              obtain ⟨a', ws, q1, q0, q2, r1⟩ := R.lst (.ref ea) e1
              cases q1
              obtain ⟨b', ts, q3, _, q4, r2⟩ := R.lst (.ref eb) e2
              cases q3
              exact ⟨_, _, ws, ts, rfl, rfl, q2, q4, by rw [r1.length, r2.length]; exact sz_of hl, run_set (u := .lst (zs ++ us)) R ea (nf_lst q2) ⟨_, upd_same, (R.monosk (fk_set (List.mem_of_getElem? ea)) r1).append (R.monosk (fk_set (List.mem_of_getElem? ea)) r2)⟩ .non r'⟩
            · exact r'.elim
          · exact r'.elim
        | _ => exact r.elim
  | _ => exact r.elim
def rJoin (K : PySem.W.Frag) : V → List V → Hp → VK → Prop := fun x xs H Q => ∃ a p, ∃ ys : List Str, x = .str a ∧ xs = [.ref p] ∧ (SqL K H p (ys.map V.str) ∨ SqT K H p (ys.map V.str)) ∧ (ys.map (·.length)).sum + ys.length * a.length ≤ 16777216 ∧ Q (.str (Txt.join a ys)) H
theorem rm_join : RMt W (rJoin X.K) joinM := by
  intro ι h H v x vs xs Q R rv rs r
  cases rv with
  | str a =>
    cases rs with
    | nil => exact r.elim
    | @cons w y _ _ rw rs =>
      cases rs with
      | cons _ _ => exact r.elim
      | nil =>
        have r' : Run W RV (match (seqI h y).bind strs? with
          | some zs => if (zs.map (·.length)).sum + zs.length * a.length ≤ lim then some (.ok (.str (Txt.join a zs)), h) else none
          | none => none) ι H Q := r
        cases q : seqI h y with
        | none => rw [q] at r'; exact r'.elim
        | some ys =>
          cases q2 : strs? ys with
          | none => rw [q] at r'; simp only [Option.bind_some, q2] at r'; exact r'.elim
          | some zs =>
            rw [q] at r'; simp only [Option.bind_some, q2] at r'
            split at r'
            · rename_i hl
              obtain ⟨p, ws, e1, rs, e2⟩ := seq_ok (K := X.K) R rw q
              subst e1
              rw [strs?_eq q2] at rs
              have e3 := rs.strs
              subst e3
              exact ⟨a, p, zs, rfl, rfl, e2, by have h9 := sz_of hl; rw [sizeLine_eq] at h9; exact h9, run_pure (x := IV.str _) r' R (.str _)⟩
            · exact r'.elim
  | _ => exact r.elim
def rSplit : V → List V → Hp → VK → Prop := fun x xs H Q => ∃ a b, x = .str a ∧ xs = [.str b] ∧ (b.length == 0) = false ∧ a.length + 2 ≤ sizeLine ∧ rNewStrs (Txt.split a b) H Q
theorem rm_split : RMt W rSplit splitM := by
  intro ι h H v x vs xs Q R rv rs r
  cases rv with
  | str a =>
    cases rs with
    | nil => exact r.elim
    | @cons w y _ _ rw rs =>
      cases rs with
      | cons _ _ => cases rw <;> exact r.elim
      | nil =>
        cases rw with
        | str b =>
          have r' : Run W RV (if (b.length == 0) = false ∧ a.length + 2 ≤ lim then mkL ((Txt.split a b).map IV.str) h else none) ι H Q := r
          split at r'
          · rename_i hl
            exact ⟨a, b, rfl, rfl, hl.1, sz_of hl.2, (new_lst R (RVs.of_strs _) r').2⟩
          · exact r'.elim
        | _ => exact r.elim
  | _ => exact r.elim
theorem pei_append (ho : PEI X W o mo) (ha : PAI X W [e] ma) (hbase : attributeBase o "append" X.env (eval o X.env) = eval o X.env := by rfl) (hline : (apos.endLine == pos.line) = true := by rfl) (hs : starEach [e] X.env = (false, eval e X.env) :: starEach [] X.env := by rfl) 
    (hfew : ((backTo pos (starEach [e] X.env)).all (fun x => !x.1) && (backToKw pos (keywordEach [] X.env)).all (fun x => x.1.isSome) && decide ([e].length + ([] : List Keyword).length + (if ([] : List Keyword).isEmpty then 0 else 1) < 30)) = true := by rfl) : PEI X W (.Call (.Attribute o "append" apos) [e] [] pos) (Mth chkL appM mo ma) :=
  pei_mth (fun R rv r => chkL_ok R rv r) rm_app PySem.F.plainAttrs_list PySem.F.slot_list_append PySem.F.type_list_append mt_append ho ha hbase hfew hline hs
theorem pei_extend (ho : PEI X W o mo) (ha : PAI X W [e] ma) (hbase : attributeBase o "extend" X.env (eval o X.env) = eval o X.env := by rfl) (hline : (apos.endLine == pos.line) = true := by rfl) (hs : starEach [e] X.env = (false, eval e X.env) :: starEach [] X.env := by rfl) 
    (hfew : ((backTo pos (starEach [e] X.env)).all (fun x => !x.1) && (backToKw pos (keywordEach [] X.env)).all (fun x => x.1.isSome) && decide ([e].length + ([] : List Keyword).length + (if ([] : List Keyword).isEmpty then 0 else 1) < 30)) = true := by rfl) : PEI X W (.Call (.Attribute o "extend" apos) [e] [] pos) (Mth chkL extM mo ma) :=
  pei_mth (fun R rv r => chkL_ok R rv r) rm_ext PySem.F.plainAttrs_list PySem.F.slot_list_extend PySem.F.type_list_extend mt_extend ho ha hbase hfew hline hs
theorem pei_popAt (ho : PEI X W o mo) (ha : PAI X W [e] ma) (hbase : attributeBase o "pop" X.env (eval o X.env) = eval o X.env := by rfl) (hline : (apos.endLine == pos.line) = true := by rfl) (hs : starEach [e] X.env = (false, eval e X.env) :: starEach [] X.env := by rfl) 
    (hfew : ((backTo pos (starEach [e] X.env)).all (fun x => !x.1) && (backToKw pos (keywordEach [] X.env)).all (fun x => x.1.isSome) && decide ([e].length + ([] : List Keyword).length + (if ([] : List Keyword).isEmpty then 0 else 1) < 30)) = true := by rfl) : PEI X W (.Call (.Attribute o "pop" apos) [e] [] pos) (Mth chkL popAtM mo ma) :=
  pei_mth (fun R rv r => chkL_ok R rv r) rm_popAt PySem.F.plainAttrs_list PySem.F.slot_list_pop PySem.F.type_list_pop mt_popAt ho ha hbase hfew hline hs
theorem pei_pop (ho : PEI X W o mo) (hbase : attributeBase o "pop" X.env (eval o X.env) = eval o X.env := by rfl) (hline : (apos.endLine == pos.line) = true := by rfl) : PEI X W (.Call (.Attribute o "pop" apos) [] [] pos) (Mth chkL popM mo Nil) :=
  pei_mth0 (fun R rv r => chkL_ok R rv r) rm_pop PySem.F.plainAttrs_list PySem.F.slot_list_pop PySem.F.type_list_pop mt_pop ho hbase hline
theorem pei_join (ho : PEI X W o mo) (ha : PAI X W [e] ma) (hbase : attributeBase o "join" X.env (eval o X.env) = eval o X.env := by rfl) (hline : (apos.endLine == pos.line) = true := by rfl) (hs : starEach [e] X.env = (false, eval e X.env) :: starEach [] X.env := by rfl) 
    (hfew : ((backTo pos (starEach [e] X.env)).all (fun x => !x.1) && (backToKw pos (keywordEach [] X.env)).all (fun x => x.1.isSome) && decide ([e].length + ([] : List Keyword).length + (if ([] : List Keyword).isEmpty then 0 else 1) < 30)) = true := by rfl) : PEI X W (.Call (.Attribute o "join" apos) [e] [] pos) (Mth chkS joinM mo ma) :=
  pei_mth (fun R rv r => chkS_ok rv r) rm_join PySem.F.plainAttrs_str PySem.F.slot_str_join PySem.F.type_str_join mt_join ho ha hbase hfew hline hs
theorem pei_split (ho : PEI X W o mo) (ha : PAI X W [e] ma) (hbase : attributeBase o "split" X.env (eval o X.env) = eval o X.env := by rfl) (hline : (apos.endLine == pos.line) = true := by rfl) (hs : starEach [e] X.env = (false, eval e X.env) :: starEach [] X.env := by rfl) 
    (hfew : ((backTo pos (starEach [e] X.env)).all (fun x => !x.1) && (backToKw pos (keywordEach [] X.env)).all (fun x => x.1.isSome) && decide ([e].length + ([] : List Keyword).length + (if ([] : List Keyword).isEmpty then 0 else 1) < 30)) = true := by rfl) : PEI X W (.Call (.Attribute o "split" apos) [e] [] pos) (Mth chkS splitM mo ma) :=
  pei_mth (fun R rv r => chkS_ok rv r) rm_split PySem.F.plainAttrs_str PySem.F.slot_str_split PySem.F.type_str_split mt_split ho ha hbase hfew hline hs
end

/-! ### isinstance -/
inductive Ty where
  | non | bl | int | str | lst | tup | dic
  deriving DecidableEq
def Ty.name : Ty → String
  | .non => "NoneType" | .bl => "bool" | .int => "int" | .str => "str" | .lst => "list" | .tup => "tuple" | .dic => "dict"
def Ty.isA : Ty → Ty → Bool
  | .bl, .int => true
  | a, b => decide (a = b)
def tyI (h : IH) : IV → Option Ty
  | .non => some .non
  | .bl _ => some .bl
  | .int _ => some .int
  | .str _ => some .str
  | .tup _ => some .tup
  | .fl _ => some .lst
  | .kl _ => none
  | .exo => none
  | .ref n => match h[n]? with
    | some (.lst _) => some .lst
    | some (.dic _) => some .dic
    | some (.fdc _) => none
    | none => none
def Isi (ts : List Ty) (m : Env → M IV) : Env → M IV := fun env => M.bind (m env) fun x => fun h => match tyI h x with
  | some t => some (.ok (.bl (ts.any fun u => t.isA u)), h)
  | none => none
theorem kit_isA (a b : Ty) : kitB a.name b.name = some (a.isA b) := by cases a <;> cases b <;> decide +kernel
theorem ty_ok {K : PySem.W.Frag} {ι : List Addr} {h : IH} {H : Hp} (R : Rel ι h H) {v : V} {x : IV} {t : Ty} (rv : RV ι H v x) (e : tyI h x = some t) : TyX K H v (.type t.name) := by
  cases rv with
  | non => cases e; exact .base .non
  | bl b => cases e; exact .base (.bl b)
  | int i => cases e; exact .base (.int i)
  | str s => cases e; exact .base (.str s)
  | tup e1 _ => cases e; exact .base (.tup e1)
  | fl e1 _ _ => cases e; exact .base (.frz e1)
  | kl _ _ => cases e
  | exo _ _ _ => cases e
  | @ref n a ea =>
    have e' : (match h[n]? with
      | some (.lst _) => some Ty.lst
      | some (.dic _) => some Ty.dic
      | some (.fdc _) => none
      | none => none) = some t := e
    split at e'
    · rename_i xs e2; cases e'
      obtain ⟨a', vs, q1, _, q2, r⟩ := R.lst (.ref ea) e2
      cases q1
      exact .base (.lst q2)
    · rename_i xs e2; cases e'
      obtain ⟨a', vs, q1, _, q2, r⟩ := R.dic (.ref ea) e2
      cases q1
      exact .base (.dK q2)
    · cases e'
    · cases e'
section
variable {X : Cx} {W : ExW} {e c1 c2 : Expr} {m : Env → M IV} {pos p p1 p2 p3 : Pos}
theorem ty_lst (hm : X.mg "list" = none) (hg : Gl X "list" := by rfl) : PE X (.Name "list" p) (tC (V.ty Ty.lst.name)) := pe_bltn (u := .type "list") hg hm (by decide +kernel) rfl
theorem ty_tup (hm : X.mg "tuple" = none) (hg : Gl X "tuple" := by rfl) : PE X (.Name "tuple" p) (tC (V.ty Ty.tup.name)) := pe_bltn (u := .type "tuple") hg hm (by decide +kernel) rfl
theorem ty_str (hm : X.mg "str" = none) (hg : Gl X "str" := by rfl) : PE X (.Name "str" p) (tC (V.ty Ty.str.name)) := pe_bltn (u := .type "str") hg hm (by decide +kernel) rfl
theorem ty_int (hm : X.mg "int" = none) (hg : Gl X "int" := by rfl) : PE X (.Name "int" p) (tC (V.ty Ty.int.name)) := pe_bltn (u := .type "int") hg hm (by decide +kernel) rfl
theorem ty_bl (hm : X.mg "bool" = none) (hg : Gl X "bool" := by rfl) : PE X (.Name "bool" p) (tC (V.ty Ty.bl.name)) := pe_bltn (u := .type "bool") hg hm (by decide +kernel) rfl
theorem pei_isi1 (t : Ty) (hm : X.mg "isinstance" = none) (h1 : PE X c1 (tC (V.ty t.name))) (he : PEI X W e m) (hg : Gl X "isinstance" := by rfl)
    (hs : starEach [e, c1] X.env = (false, eval e X.env) :: starEach [c1] X.env := by rfl) (hs1 : starEach [c1] X.env = (false, eval c1 X.env) :: starEach [] X.env := by rfl) (hpl : (backTo pos (starEach [c1] X.env)).any (·.1) = false := by rfl) : PEI X W (.Call (.Name "isinstance" p) [e, c1] [] pos) (Isi [t] m) := by
  refine PE.weak (pe_callB call_isi hg hm (by decide +kernel) (pa_cons he (pa_cons h1 pa_nil hs1) hs) (by decide) (by decide) hs hpl) fun σ H Q ⟨ι, h, env, R, S, r⟩ => ?_
  refine ⟨ι, h, env, R, S, (run_bind (rel1 := RV) r).mono fun v H1 ⟨ι1, h1, y, R1, F1, rv, r1⟩ => ?_⟩
  cases q : tyI h1 y with
  | none => simp only [q] at r1; exact r1.elim
  | some u =>
    simp only [q] at r1
    refine ⟨v, _, _, _, u.isA t, rfl, .ty _, ty_ok R1 rv q, kit_ty (kit_isA u t), ?_⟩
    have := run_pure (x := IV.bl ([t].any fun z => u.isA z)) r1 R1 (.bl _)
    simpa using this
theorem pei_isi2 (t t2 : Ty) {k : Nat} (hm : X.mg "isinstance" = none) (h1 : PE X c1 (tC (V.ty t.name))) (h2 : PE X c2 (tC (V.ty t2.name))) (he : PEI X W e m) (hg : Gl X "isinstance" := by rfl)
    (hs : starEach [e, .Tuple [c1, c2] k p3] X.env = (false, eval e X.env) :: starEach [.Tuple [c1, c2] k p3] X.env := by rfl) (hs0 : starEach [.Tuple [c1, c2] k p3] X.env = (false, eval (.Tuple [c1, c2] k p3) X.env) :: starEach [] X.env := by rfl)
    (hs1 : starEach [c1, c2] X.env = (false, eval c1 X.env) :: starEach [c2] X.env := by rfl) (hs2 : starEach [c2] X.env = (false, eval c2 X.env) :: starEach [] X.env := by rfl)
    (hpl : (backTo pos (starEach [.Tuple [c1, c2] k p3] X.env)).any (·.1) = false := by rfl) : PEI X W (.Call (.Name "isinstance" p) [e, .Tuple [c1, c2] k p3] [] pos) (Isi [t, t2] m) := by
  refine PE.weak (pe_callB call_isiT hg hm (by decide +kernel) (pa_cons he (pa_cons (pe_tup (pa_cons h1 (pa_cons h2 pa_nil hs2) hs1)) pa_nil hs0) hs) (by decide) (by decide) hs hpl) fun σ H Q ⟨ι, h, env, R, S, r⟩ => ?_
  refine ⟨ι, h, env, R, S, (run_bind (rel1 := RV) r).mono fun v H1 ⟨ι1, h1, y, R1, F1, rv, r1⟩ => ?_⟩
  cases q : tyI h1 y with
  | none => simp only [q] at r1; exact r1.elim
  | some u =>
    simp only [q] at r1
    refine ⟨by show 2 ≤ sizeLine; decide, fun tp htp => ?_⟩
    have R2 := R1.new (o := .tup [V.ty t.name, V.ty t2.name]) htp
    refine ⟨v, tp, _, _, [.type t.name, .type t2.name], (u.isA t || u.isA t2), rfl, upd_same, .cons (.ty _) (.cons (.ty _) .nil), ty_ok R2 (R1.mono (fr_new htp) rv) q, ?_, ?_⟩
    · refine kitAny_cons (kit_ty (kit_isA u t)) (fun z => ?_) fun z => by rw [z]; rfl
      rw [z, Bool.false_or]
      exact kitAny_cons (r := u.isA t2) (kit_ty (kit_isA u t2)) (fun z2 => by rw [z2]; rfl) fun z2 => z2
    · have := r1 ι1 _ (.bl ([t, t2].any fun z => u.isA z)) R2 (fr_new htp) (.bl _)
      simpa using this
end
end Iv
set_option Elab.async false
set_option linter.all false
set_option maxRecDepth 100000
set_option maxHeartbeats 2000000
set_option autoImplicit false
namespace Iv
open PySem L2
variable [KL]

/-! ### comprehensions -/
/-- a comprehension's target: a name, a tuple of names -/
inductive Pat where
  | n (i : Nat) | t (is : List Nat)
def setAll : List Nat → List IV → Env → Option Env
  | [], [], env => some env
  | i :: is, x :: xs, env => setAll is xs (env.set i (some x))
  | _, _, _ => none
theorem setAll_len : ∀ {is : List Nat} {xs : List IV} {env env' : Env}, setAll is xs env = some env' → xs.length = is.length
  | [], [], _, _, _ => rfl
  | [], _ :: _, _, _, e => by cases e
  | _ :: _, [], _, _, e => by cases e
  | _ :: is, _ :: xs, env, env', e => by
    have q := setAll_len (is := is) (xs := xs) e
    simp [q]
def Pat.set : Pat → IV → Env → Option Env
  | .n i, x, env => some (env.set i (some x))
  | .t is, .tup xs, env => setAll is xs env
  | .t _, _, _ => none
def Pat.ix : Pat → List Nat
  | .n i => [i]
  | .t is => is
def gNs : List Nat → TGs
  | [] => gNil
  | i :: is => gCons (gName i) (gNs is)
def gPat (K : PySem.W.Frag) : Pat → TG
  | .n i => gName i
  | .t is => gTup K is.length (gNs is)
def wipeE (env : Env) : List Nat → Env
  | [] => env
  | v :: vs => (wipeE env vs).set v none
theorem rst_wipe {ι : List Addr} {H : Hp} {σ : L2.St} {env : Env} (S : RSt ι H σ env) : ∀ vs, RSt ι H (wipe σ vs) (wipeE env vs)
  | [] => S
  | v :: vs => by
    have q := rst_wipe S vs
    refine ⟨by show ((wipe σ vs).set v none).length = ((wipeE env vs).set v none).length; simp [q.1], fun i x e => ?_⟩
    have e : ((wipeE env vs).set v none)[i]? = some (some x) := e
    show ∃ w, ((wipe σ vs).set v none)[i]? = some (some w) ∧ _
    by_cases hi : v = i
    · subst hi
      have hl : v < (wipeE env vs).length := by have := (List.getElem?_eq_some_iff.mp e).1; rwa [List.length_set] at this
      rw [List.getElem?_set_self hl] at e; cases e
    · rw [List.getElem?_set_ne hi] at e ⊢
      exact q.2 i x e
theorem wipe_set {v : Option V} : ∀ {vs : List Nat} {σ : L2.St} {i : Nat}, i ∈ vs → wipe (σ.set i v) vs = wipe σ vs
  | [], _, _, h => by simp at h
  | w :: vs, σ, i, h => by
    show (wipe (σ.set i v) vs).set w none = (wipe σ vs).set w none
    by_cases hm : i ∈ vs
    · rw [wipe_set hm]
    · have e : i = w := by rcases List.mem_cons.mp h with h | h; exact h; exact absurd h hm
      subst e
      have : ∀ (us : List Nat) (τ : L2.St), i ∉ us → wipe (τ.set i v) us = (wipe τ us).set i v := by
        intro us
        induction us with
        | nil => intro τ _; rfl
        | cons u us ih =>
          intro τ hn
          rw [List.mem_cons, not_or] at hn
          show (wipe (τ.set i v) us).set u none = ((wipe τ us).set u none).set i v
          rw [ih τ hn.2, List.set_comm _ _ hn.1]
      rw [this vs σ hm, List.set_set]
theorem wipe_wipe : ∀ (vs : List Nat) (σ : L2.St), wipe (wipe σ vs) vs = wipe σ vs := by
  intro vs
  have gen : ∀ (us : List Nat) (σ : L2.St), (∀ u ∈ us, u ∈ vs) → wipe (wipe σ us) vs = wipe σ vs := by
    intro us
    induction us with
    | nil => intro σ _; rfl
    | cons u us ih =>
      intro σ h
      show wipe ((wipe σ us).set u none) vs = wipe σ vs
      rw [wipe_set (h u List.mem_cons_self), ih σ fun w hw => h w (List.mem_cons_of_mem _ hw)]
  intro σ
  exact gen vs σ fun u hu => hu
theorem gNs_run {ι : List Addr} {H : Hp} {vs : List Nat} : ∀ {is : List Nat} {ws : List V} {xs : List IV} {σ : L2.St} {env env' : Env} {Q : L2.St → Hp → Prop}, RVs ι H ws xs → RSt ι H σ env → setAll is xs env = some env' → (∀ i ∈ is, i ∈ vs) → (∀ σ', wipe σ' vs = wipe σ vs → RSt ι H σ' env' → Q σ' H) → gNs is ws σ H Q
  | [], _, [], _, _, _, _, .nil, S, e, _, k => by cases e; exact ⟨rfl, k _ rfl S⟩
  | [], _, _ :: _, _, _, _, _, _, _, e, _, _ => by cases e
  | _ :: _, _, [], _, _, _, _, _, _, e, _, _ => by cases e
  | i :: is, _, x :: xs, σ, env, env', Q, .cons a r, S, e, hv, k => by
    refine ⟨_, _, rfl, ?_⟩
    show gNs is _ (σ.set i (some _)) H Q
    refine gNs_run r (S.set a) e (fun j hj => hv j (List.mem_cons_of_mem _ hj)) fun σ' w S' => k σ' ?_ S'
    rw [w, wipe_set (hv i List.mem_cons_self)]
theorem gPat_run {K : PySem.W.Frag} {ι : List Addr} {H : Hp} {vs : List Nat} {p : Pat} {v : V} {x : IV} {σ : L2.St} {env env' : Env} {Q : L2.St → Hp → Prop} (rv : RV ι H v x) (S : RSt ι H σ env) (e : p.set x env = some env') (hv : ∀ i ∈ p.ix, i ∈ vs) (k : ∀ σ', wipe σ' vs = wipe σ vs → RSt ι H σ' env' → Q σ' H) : gPat K p v σ H Q := by
  cases p with
  | n i =>
    cases e
    exact k _ (wipe_set (hv i (List.mem_singleton.mpr rfl))) (S.set rv)
  | t is =>
    cases rv with
    | @tup a ws xs e1 r =>
      have e : setAll is xs env = some env' := e
      have hl := setAll_len e
      exact ⟨a, ws, rfl, st_of e1, by rw [r.length]; exact hl, gNs_run r S e hv k⟩
    | _ => cases e
theorem run_eq {α β γ : Type} {rel : List Addr → Hp → β → α → Prop} {m : M α} {k : α → M γ} {z : γ} {h h' : IH} {ι : List Addr} {H : Hp} (e : M.bind m k h = some (.ok z, h')) : Run W0 rel (m h) ι H fun v H1 => ∃ ι1 h1 x, Rel ι1 h1 H1 ∧ Fr ι H ι1 H1 ∧ rel ι1 H1 v x ∧ k x h1 = some (.ok z, h') := by
  unfold M.bind at e
  unfold Run
  generalize m h = o at e ⊢
  match o, e with
  | some (.ok x, h1), e => exact fun ι' H' v R F r => ⟨ι', h1, x, R, F, r, e⟩
/-- the loop of a list comprehension over the new list d -/
def LcL (s : Src) (p : Pat) (c : Env → M Bool) (el : Env → M IV) (d : Nat) (env : Env) : Nat → Nat → M Unit
  | 0, _ => stuck
  | n + 1, i => fun h => match s h i with
    | none => none
    | some none => some (.ok (), h)
    | some (some x) => match p.set x env with
      | none => none
      | some env2 => M.bind (c env2) (fun k => if k = true then M.bind (el env2) (fun y => fun h3 => match h3[d]? with
          | some (.lst acc) => if acc.length < lim then LcL s p c el d env n (i + 1) (h3.set d (.lst (acc ++ [y]))) else none
          | _ => none) else LcL s p c el d env n (i + 1)) h
def LcE (n : Nat) (src : Env → M Src) (p : Pat) (c : Env → M Bool) (el : Env → M IV) (vs : List Nat) : Env → M IV := fun env => M.bind (src env) fun s => fun h => match LcL s p c el h.length (wipeE env vs) n 0 (h ++ [.lst []]) with
  | some (.ok _, h') => some (.ok (.ref h.length), h')
  | _ => none
def YesT : Env → M Bool := fun _ => M.pure true
section
variable {X : Cx} {W : ExW}
def PTsI (X : Cx) (ifs : List Expr) (t : Env → M Bool) : Prop := PTs X ifs (tIT W0 t)
theorem ptsi_nil : PTsI X [] YesT := ⟨fun pins s σ H Q I ⟨ι, h, env, R, S, r⟩ => pts_nil.run pins s σ H Q I (r ι H true R (Fr.refl _ _) rfl)⟩
theorem ptsi_one {c : Expr} {t : Env → M Bool} (h : PTI X W0 c t) : PTsI X [c] t := pts_one h
theorem pgp_name {i : Nat} {x : Str} {pos : Pos} {K : PySem.W.Frag} (hN : X.N.Nodup) (hi : X.N[i]? = some x := by rfl) (hx : Loc X.env.scope x := by first | exact Or.inl rfl | exact Or.inr rfl) (hf : X.fn x = true ∨ X.env.scope.names.lookup x = some .local := by first | exact .inl rfl | exact .inr rfl) : PG X (.Name x pos) (gPat K (.n i)) := pg_name hN hi hx hf
theorem lc_weak {wi : TI} {tt : TT} {te : TE} {src : Env → M Src} {p : Pat} {c : Env → M Bool} {el : Env → M IV} {vs : List Nat} {n : Nat} {σ : L2.St} {H : Hp} {Q : VK} (hwi : ∀ σ H R, tII W src σ H R → wi σ H R) (htt : ∀ σ H Q, tIT W0 c σ H Q → tt σ H Q) (hte : ∀ σ H Q, tI W0 el σ H Q → te σ H Q) (hv : ∀ i ∈ p.ix, i ∈ vs)
    (t : tI W (LcE n src p c el vs) σ H Q) : tLc wi (gPat X.K p) tt te vs σ H Q := by
  obtain ⟨ι, h, env, R, S, r⟩ := t
  refine hwi _ _ _ ⟨ι, h, env, R, S, (run_bind (rel1 := RJ) r).mono fun J H1 ⟨ι1, h1, s, R1, F1, rj, r1⟩ => ?_⟩
  intro D hD
  have r1' : Run W RV (match LcL s p c el h1.length (wipeE env vs) n 0 (h1 ++ [.lst []]) with
    | some (.ok _, h') => some (.ok (.ref h1.length), h')
    | _ => none) ι1 H1 Q := r1
  generalize hL : LcL s p c el h1.length (wipeE env vs) n 0 (h1 ++ [.lst []]) = o at r1'
  match o, r1', hL with
  | none, r1', _ => exact r1'.elim
  | some (.ex _, _), r1', _ => exact r1'.elim
  | some (.ok u, hf), r1', hL =>
    have RD : Rel (ι1 ++ [D]) (h1 ++ [.lst []]) (upd H1 D (.lst [])) := R1.push hD ⟨[], upd_same, .nil⟩
    have FD : Fr ι1 H1 (ι1 ++ [D]) (upd H1 D (.lst [])) := fr_push hD
    have eD : (ι1 ++ [D])[h1.length]? = some D := by
      rw [← R1.len, List.getElem?_append_right (Nat.le_refl _), Nat.sub_self]; rfl
    have Sw := rst_wipe (S.mono R F1) vs
    refine ⟨fun i k H2 => ∃ ι2 h2, Rel ι2 h2 H2 ∧ Fr (ι1 ++ [D]) (upd H1 D (.lst [])) ι2 H2 ∧ LcL s p c el h1.length (wipeE env vs) k i h2 = some (.ok u, hf), ⟨n, _, _, RD, Fr.refl _ _, hL⟩, ?_⟩
    rintro i k H2 ⟨ι2, h2, R2, F2, e2⟩
    cases k with
    | zero => cases e2
    | succ k =>
      have F12 := FD.trans F2
      have q := rj ι2 h2 H2 R2 F12 i
      unfold LcL at e2
      cases e0 : s h2 i with
      | none => simp only [e0] at e2; cases e2
      | some o =>
        cases o with
        | none =>
          simp only [e0] at e2 q
          cases e2
          exact .inl ⟨q, r1' ι2 H2 (.ref D) R2 F12 (.ref (pre_get F2.pre eD))⟩
        | some x =>
          simp only [e0] at e2 q
          cases e3 : p.set x (wipeE env vs) with
          | none => simp only [e3] at e2; cases e2
          | some env2 =>
            simp only [e3] at e2
            refine .inr ⟨q.1, fun H3 => ∃ ι3 h3, Rel ι3 h3 H3 ∧ Fr (ι1 ++ [D]) (upd H1 D (.lst [])) ι3 H3 ∧ LcL s p c el h1.length (wipeE env vs) k (i + 1) h3 = some (.ok u, hf), fun H' w => ⟨k, Nat.lt_succ_self _, w⟩, fun v H3 y => ?_⟩
            obtain ⟨ι3, R3, F3, rv⟩ := q.2 v H3 y
            have S3 : RSt ι3 H3 (wipe σ vs) (wipeE env vs) := (Sw.mono R1 F12).mono R2 F3
            refine gPat_run rv S3 e3 hv fun σ4 w4 S4 => ⟨by rw [w4, wipe_wipe], htt _ _ _ ⟨ι3, h2, env2, R3, S4, (run_eq (rel := RB) e2).mono fun b H4 ⟨ι4, h4, bb, R4, F4, rb, e4⟩ => ?_⟩⟩
            cases (show b = bb from rb)
            have F14 := (F2.trans F3).trans F4
            cases b with
            | false => exact iteF ⟨ι4, h4, R4, F14, e4⟩
            | true =>
              refine iteT (hte _ _ _ ⟨ι4, h4, env2, R4, S4.mono R3 F4, (run_eq (rel := RV) e4).mono fun w H5 ⟨ι5, h5, y5, R5, F5, rw5, e5⟩ => ?_⟩)
              have F15 := F14.trans F5
              have eD5 := pre_get F15.pre eD
              cases e6 : h5[h1.length]? with
              | none => simp only [e6] at e5; cases e5
              | some ob =>
                cases ob with
                | dic _ => simp only [e6] at e5; cases e5
                | fdc _ => simp only [e6] at e5; cases e5
                | lst acc =>
                  simp only [e6] at e5
                  obtain ⟨a', ws, z1, z0, z2, rs⟩ := R5.lst (.ref eD5) e6
                  cases z1
                  by_cases hl : acc.length < lim
                  · rw [if_pos hl] at e5
                    have hm := List.mem_of_getElem? eD5
                    exact ⟨ws, z2, by rw [rs.length]; exact sz_lt hl, ι5, _, R5.set eD5 (u := .lst (acc ++ [y5])) ⟨_, upd_same, (R5.monosk (fk_set hm) rs).append (.cons (R5.monok (fk_set hm) rw5) .nil)⟩, F15.trans (fr_set hm (nf_lst z2)), e5⟩
                  · rw [if_neg hl] at e5; cases e5
theorem pei_lc (n : Nat) {elt tg iter : Expr} {ifs : List Expr} {scope : Scope} (own : List (Str × Nat)) {pos : Pos} {src : Env → M Src} {p : Pat} {c : Env → M Bool} {el : Env → M IV} (hc : X.calm = true) (hN : X.N.Nodup) (hi : PII X W tg iter src) (ok : blkC X.N X.env.scope scope own = true)
    (hg : ∀ (s : Shared) (H : Hp) (C : Addr) (cl : List (Str × Addr)) (fp : List Addr), PG (X.blk s H scope (compEnvC scope cl C X.env) fp) tg (gPat X.K p)) (ht : ∀ (s : Shared) (H : Hp) (C : Addr) (cl : List (Str × Addr)) (fp : List Addr), PTsI (X.blk s H scope (compEnvC scope cl C X.env) fp) ifs c)
    (he : ∀ (s : Shared) (H : Hp) (C : Addr) (cl : List (Str × Addr)) (fp : List Addr), PEI (X.blk s H scope (compEnvC scope cl C X.env) fp) W0 elt el) (hv : ∀ i ∈ p.ix, i ∈ own.map (·.2) := by decide) (hs : ∀ x, foldedSetIterable iter X.env x = pure x := by intro _; rfl) :
    PEI X W (.ListComp elt [⟨tg, iter, ifs, 0⟩] scope pos) (LcE n src p c el (own.map (·.2))) :=
  PE.weak (pe_lc hc hN hi (blkOk_by ok) hg ht he hs) fun σ H Q t => lc_weak (fun _ _ _ q => q) (fun _ _ _ q => q) (fun _ _ _ q => q) hv t
/-- name = [..] on one line -/
theorem psi_setLc (n : Nat) (i : Nat) {y : Str} {py : Pos} {elt tg iter : Expr} {ifs : List Expr} {scope : Scope} (own : List (Str × Nat)) {pos spos : Pos} {src : Env → M Src} {p : Pat} {c : Env → M Bool} {el : Env → M IV} (hc : X.calm = true) (hN : X.N.Nodup) (hi : PII X W tg iter src) (ok : blkC X.N X.env.scope scope own = true)
    (hg : ∀ (s : Shared) (H : Hp) (C : Addr) (cl : List (Str × Addr)) (fp : List Addr), PG (X.blk s H scope (compEnvC scope cl C X.env) fp) tg (gPat X.K p)) (ht : ∀ (s : Shared) (H : Hp) (C : Addr) (cl : List (Str × Addr)) (fp : List Addr), PTsI (X.blk s H scope (compEnvC scope cl C X.env) fp) ifs c)
    (he : ∀ (s : Shared) (H : Hp) (C : Addr) (cl : List (Str × Addr)) (fp : List Addr), PEI (X.blk s H scope (compEnvC scope cl C X.env) fp) W0 elt el) (hsw : swapsWith (.ListComp elt [⟨tg, iter, ifs, 0⟩] scope pos) (some (.Name y py)) spos.line X.env = pure true) (hy : X.N[i]? = some y := by rfl) (hyl : X.env.scope.names.lookup y = some .local := by rfl)
    (hv : ∀ i ∈ p.ix, i ∈ own.map (·.2) := by decide) (hs : ∀ x, foldedSetIterable iter X.env x = pure x := by intro _; rfl) :
    PSI X W (.Assign [.Name y py] (.ListComp elt [⟨tg, iter, ifs, 0⟩] scope pos) spos) (AsgS (LcE n src p c el (own.map (·.2))) (TgN i)) :=
  PS.weak (ps_setLc hc hN hy hyl hsw hi (blkOk_by ok) hg ht he hs) fun D σ H t => by
    have q : tI W (LcE n src p c el (own.map (·.2))) σ H (fun x H1 => gName i x σ H1 D.nx) := by
      obtain ⟨ι, h, env, R, S, r⟩ := tIS_asg t
      exact ⟨ι, h, env, R, S, r.mono fun v H1 ⟨ι1, h1, env1, x, R1, S1, rv, r1⟩ => r1 ι1 H1 _ R1 (Fr.refl _ _) (S1.set rv)⟩
    exact lc_weak (fun _ _ _ q => q) (fun _ _ _ q => q) (fun _ _ _ q => q) hv q
end
end Iv
set_option Elab.async false
set_option linter.all false
set_option maxRecDepth 100000
set_option maxHeartbeats 4000000
set_option autoImplicit false
namespace Iv
open PySem L2
variable [KL]

/-! ### enumerate(tuple): the rule -/
theorem meets_enumerate_newB1 {v : Value} {o : Obj} {H : Heap → Prop} (B : Begins v o H) :
    Meets (Builtin.«enumerate.__new__» ⟨[.type "enumerate", v], []⟩) (fun _ R s => H s.heap ∧
      R (.ok (.ret (.ref (s.heap.push o).objs.size))) { s with heap := (s.heap.push o).push { cls := .type "enumerate", data := .fields #[.none, .bool false, .ref s.heap.objs.size, rawInt 0, .none, .none] } }) :=
  .of_wp fun prog w A R s h => by
    obtain ⟨hp, g, d, tk, os⟩ := s; obtain ⟨h1, h⟩ := h
    have hsub := sub_enumerate
    have q1 : ∀ {A' : Around} {E : Value → Shared → Prop} {Q : Value → Shared → Prop}, Q (.ref hp.objs.size) ⟨hp.push o, g, d, tk, os⟩ → wpAny (model prog w) A' (pyIter v) Q E ⟨hp, g, d, tk, os⟩ :=
      fun q => B.iter prog w _ _ ⟨hp, g, d, tk, os⟩ _ h1 q
    wp_walk using q1
    refine wpAny_stack_any fun st => wpAny_pure ?_
    split
    · rename_i c _ _ _ _ _
      cases (c == Value.type "enumerate")
      · wp_walk using q1
        exact ⟨_, rfl, h⟩
      · wp_walk using q1
        exact ⟨_, rfl, h⟩
    · wp_walk using q1
      exact ⟨_, rfl, h⟩
section
variable {prog : Program} {w : World} {A : Around} {E : Value → Shared → Prop} {s : Shared}
theorem enum_begins1 {v : Value} {o : Obj} {H : Heap → Prop} {Q : Value → Shared → Prop} (B : Begins v o H) (h1 : H s.heap)
    (h : ∀ h', IsEnum h' (s.heap.objs.size + 1) s.heap.objs.size 0 .none → h'.get? s.heap.objs.size = some o → h'.objs.size = s.heap.objs.size + 2 →
      (∀ b o, s.heap.get? b = some o → h'.get? b = some o) → Q (.ref (s.heap.objs.size + 1)) { s with heap := h' }) :
    wpAny (model prog w) A (call (.type "enumerate") [v]) Q E s := by
  refine callType_new F.called_enumerate (by decide) (F.typeCall_enumerate_1 _) (F.newCall_enumerate_1 _) (fun obj => F.args_object_init_2 obj _) F.entry_enumerate_new
    (meets_enumerate_newB1 B) ⟨h1, ?_⟩
  have hz : (s.heap.push o).objs.size = s.heap.objs.size + 1 := Heap.size_push ..
  show _ ∧ _
  rw [hz]
  have he : IsEnum ((s.heap.push o).push { cls := .type "enumerate", data := .fields #[.none, .bool false, .ref s.heap.objs.size, rawInt 0, .none, .none] }) (s.heap.objs.size + 1) s.heap.objs.size 0 .none := by
    have := Heap.get?_push_size (s.heap.push o) (o := { cls := .type "enumerate", data := .fields #[.none, .bool false, .ref s.heap.objs.size, rawInt 0, .none, .none] }) rfl
    rw [hz] at this; exact this
  refine ⟨⟨_, he, rfl⟩, h _ he (Heap.get?_push_of_some _ (Heap.get?_push_size _ B.free)) (by rw [Heap.size_push, hz]) fun b o x => Heap.get?_push_of_some _ (Heap.get?_push_of_some _ x)⟩
theorem wpAny_pyNext_enum_endT {e it t : Addr} {n : Int} {i : Nat} {items : Array Value} {old : Value} {Q : Option Value → Shared → Prop} (hh : A.in1.handled = none)
    (he : IsEnum s.heap e it n old) (hit : s.heap.IsTupleIter it t i) (ht : s.heap.IsTuple t items) (hx : items[i]? = none)
    (hQ : ∀ h', Heap.ExtBut it s.heap h' → Q none { s with heap := h' }) : wpAny (model prog w) A (pyNext (.ref e)) Q E s := by
  have hT : s.TypeIs (.ref e) "enumerate" := ⟨_, he, rfl⟩
  unfold pyNext
  refine wpAny_bind (wpAny_attempt (wpAny_callSpecial?_slot (name := Str.ofString "__next__") hT F.slot_enumerate_next
    (wpAny_call_entry F.slot_enumerate_next hT F.entry_enumerate_next ?_ (F.args_enumerate_next_1 _))))
  show wpAny _ _ (field (.ref e) 2 >>= _) _ _ _
  refine wpAny_bind (wpAny_field he rfl (x := .ref it) rfl ?_)
  refine wpAny_bind (wpAny_nextOf_tuple_end hh hit ht hx fun h' x he' hx' => ?_)
  obtain ⟨o, ho, hc⟩ := hx'
  refine wpAny_bind (wpAny_isInstance (T := "StopIteration") (b := true) ⟨o, ho, hc⟩ isSubtype_stop ?_)
  exact wpAny_pure (hQ _ he')
end
/-- the tuple at a, each item in a new pair -/
def IteT (K : PySem.W.Frag) (a : Addr) : It :=
  ⟨fun i H => ∃ (xs : List V) (x : V), SqT K H a xs ∧ xs[i]? = some x, fun i H v H' => ∃ T x, v = .ref T ∧ H T = none ∧ H' = upd H T (.tup [.int (i : Nat), x]) ∧ ∀ xs, SqT K H a xs → xs[i]? = some x, fun i H => ∃ xs : List V, SqT K H a xs ∧ xs.length ≤ i⟩
theorem turn_enumT {P : Program} {w : World} {K : PySem.W.Frag} {elts : List Expr} {kk : Nat} {tpos : Pos} (a e it : Addr) :
    Turn P w K (.Tuple elts kk tpos) (IteT K a) [e, it] e (fun i h => (∃ old, IsEnum h e it ((i : Nat) : Int) old) ∧ h.IsTupleIter it a i ∧ e ≠ it ∧ a ≠ it ∧ a ≠ e) where
  mem := by simp
  obj := fun i h st b hb => by
    obtain ⟨⟨old, he⟩, ⟨o, ho, hc, hd⟩, _⟩ := st
    have e' : b = e ∨ b = it := by simpa using hb
    rcases e' with z | z
    · rw [z]; exact ⟨_, he, fun v q => nomatch q⟩
    · rw [z]; exact ⟨o, ho, fun v q => by rw [hd] at q; cases q⟩
  keep := fun i h h' st k => let ⟨⟨old, he⟩, hi, hne⟩ := st; ⟨⟨old, k e (by simp) _ he⟩, hi.at fun o q => k it (by simp) o q, hne⟩
  item := by
    intro X hP hw hK hc i pins s σ H E I hf st hg
    subst hP hw hK
    obtain ⟨⟨old, he⟩, hit, hne, hai, hae⟩ := st
    obtain ⟨xs, x, hq, hx⟩ := hg
    obtain ⟨its, rv, p, hz⟩ := I.tuple hq
    obtain ⟨u, hu, ru⟩ := rv.get hx
    have hel : e < s.heap.objs.size := Heap.lt_size he
    have hil : it < s.heap.objs.size := by obtain ⟨_, q, _⟩ := hit; exact Heap.lt_size q
    have hh : X.A.in1.handled = none := by first | exact I.ok.hd hc | (rw [show X.A.in1.handled = X.A.handled from rfl]; exact I.ok.hd hc)
    refine wpAny_pyNext_enum_itemC (Draws.tuple (prog := X.prog) (w := X.w) hh it a hai its.toArray) he ⟨hit, p⟩ (i := i) (by have := (List.getElem?_eq_some_iff.mp hu).1; simpa using this) hne (by simp [hne, hae.symm]) fun v h' tk hv ho hst hT hsz hk => ?_
    obtain rfl : v = u := by have : its.toArray[i]? = some v := hv; simp [hu] at this; exact this.symm
    refine ⟨_, rfl, wpAny_letOwnedTupleGo_enum (s := { s with heap := h', toks := tk + 1 }) ho fun h'' he' sb => ?_⟩
    have hT2 : h''.get? s.heap.objs.size = some { cls := .type "tuple", data := .seq #[.int i tk, v] } := (sb.2 _ (Nat.ne_of_gt hel)).trans hT
    have new : ObjOk X.prog X.w (upd H s.heap.objs.size (.tup [.int (i : Nat), x])) h'' s.heap.objs.size (.tup [.int (i : Nat), x]) :=
      ⟨by show 2 ≤ sizeLine; decide, [.int i tk, v], .cons ⟨_, rfl⟩ (.cons ru .nil), ⟨_, hT2, rfl, _, rfl⟩⟩
    have I1 : Inv X pins σ (upd H s.heap.objs.size (.tup [.int (i : Nat), x])) { s with heap := h'', toks := tk + 1 } :=
      I.turnedNew (ch := [e, it]) (fun b ob hb q => (sb.2 b (fun z => hb (by simp [z]))).trans (hk b ob (fun z => hb (by simp [z])) (fun z => hb (by simp [z])) q)) hf (Nat.le_refl _) new
    refine ⟨.ref s.heap.objs.size, _, I1, rfl, ⟨_, x, rfl, I.hok.fresh (Nat.le_refl _), rfl, fun ys hy => by rw [I.tuple_inj hy hq]; exact hx⟩, ⟨⟨v, ?_⟩, hst.1.at fun o q => (sb.2 it (Ne.symm hne)).trans q, hne, hai, hae⟩, fun b hb => ?_⟩
    · have e1 : ((i + 1 : Nat) : Int) = (i : Int) + 1 := by omega
      rw [e1]; exact he'
    · have hb' : b < s.heap.objs.size := by
        have e' : b = e ∨ b = it := by simpa using hb
        rcases e' with z | z
        · rw [z]; exact hel
        · rw [z]; exact hil
      rw [upd_ne (Nat.ne_of_lt hb')]
      exact (hf b hb).1
  done := by
    intro X hP hw hK hc i pins s σ H E I hf st hg
    subst hP hw hK
    obtain ⟨⟨old, he⟩, hit, hne, hai, hae⟩ := st
    obtain ⟨xs, hq, hx⟩ := hg
    obtain ⟨its, rv, p, hz⟩ := I.tuple hq
    obtain ⟨f0, f1, f2, f3, f4, f5⟩ := hf it (by simp)
    have hl := rv.length
    have hh : X.A.in1.handled = none := by first | exact I.ok.hd hc | (rw [show X.A.in1.handled = X.A.handled from rfl]; exact I.ok.hd hc)
    obtain ⟨o, ho, hc', hd⟩ := id hit
    -- the iterator is at or behind its end: the rule by the element
    exact wpAny_pyNext_enum_endT hh he hit p (by simp; omega) fun h' eb => ⟨rfl, I.turned (t' := s.toks) (fun b o hb q => eb b o hb q) f0 f1 f3 f4 f5⟩
  self := fun A i s Q E st h => let ⟨⟨_, he⟩, _⟩ := st; wpAny_pyIter_enum he h
def iEnumT (K : PySem.W.Frag) (ta : TA) : TI := fun σ H R => ta σ H fun vs H1 => ∃ a xs, vs = [.ref a] ∧ SqT K H1 a xs ∧ R (IteT K a) H1
theorem pi_enumT {X : Cx} {e : Expr} {ta : TA} {p pos tpos : Pos} {elts : List Expr} {kk : Nat} (hg : Gl X "enumerate") (hm : X.mg "enumerate" = none) (ha : PA X [e] ta) (hs : starEach [e] X.env = [(false, eval e X.env)] := by rfl) :
    PI X (.Tuple elts kk tpos) (.Call (.Name "enumerate" p) [e] [] pos) (iEnumT X.K ta) := by
  refine ⟨fun pins s σ H R I h => ?_⟩
  refine PyProof.Rows.Call_ (ld_blt I hg hm PyProof.Rows.boot_enumerate (PyProof.Rows.callWith_type1 (thn (ha.run pos pins s σ H _ I h) fun us s1 ⟨vs, H1, I1, r1, q1⟩ => ?_) hs rfl))
  obtain ⟨a, xs, ex, hq, q⟩ := q1
  subst ex
  cases r1 with
  | cons r rr =>
    cases rr
    cases r
    obtain ⟨its, rv, p', hz⟩ := I1.tuple hq
    have hal : a < s1.heap.objs.size := by obtain ⟨_, q, _⟩ := p'; exact Heap.lt_size q
    refine enum_begins1 (begins_tuple a its.toArray) p' fun h' he hit hsz hk => wpAny_pyIter_enum he ?_
    have I2 : Inv X pins σ H1 { s1 with heap := h' } := I1.kept (t' := s1.toks) hk
    refine ⟨s1.heap.objs.size + 1, [s1.heap.objs.size + 1, s1.heap.objs.size], _, _, H1, rfl, I2, turn_enumT a (s1.heap.objs.size + 1) s1.heap.objs.size, ⟨⟨.none, he⟩, ⟨_, hit, rfl, rfl⟩, Nat.succ_ne_self _, Nat.ne_of_lt hal, Nat.ne_of_lt (Nat.lt_succ_of_lt hal)⟩, fun b hb => ?_, q⟩
    have e' : b = s1.heap.objs.size + 1 ∨ b = s1.heap.objs.size := by simpa using hb
    have hle : s1.heap.objs.size ≤ b := by
      rcases e' with z | z
      · rw [z]; exact Nat.le_add_right _ _
      · rw [z]; exact Nat.le_refl _
    exact I1.fpOk hle (I1.hok.fresh hle)

/-! ### lists and tuples as sources -/
def Lv (Sq : Hp → List V → Prop) (ι : List Addr) (H : Hp) (s : Src) : Prop := ∀ ι2 h2 H2, Rel ι2 h2 H2 → Fr ι H ι2 H2 → ∀ i, match s h2 i with
  | none => True
  | some none => ∃ vs, Sq H2 vs ∧ vs.length ≤ i
  | some (some x) => ∃ vs v, Sq H2 vs ∧ vs[i]? = some v ∧ RV ι2 H2 v x
section
variable {ι : List Addr} {h : IH} {H : Hp} {K : PySem.W.Frag}
theorem lv_items {Sq : Hp → List V → Prop} {vs : List V} {xs : List IV} (R : Rel ι h H) (hs : ∀ ι2 H2, Fr ι H ι2 H2 → Sq H2 vs) (rs : RVs ι H vs xs) : Lv Sq ι H (SItems xs) := by
  intro ι2 h2 H2 R2 F2 i
  have rs2 := R.monos F2 rs
  show match some xs[i]? with
    | none => True
    | some none => _
    | some (some x) => _
  cases q : xs[i]? with
  | none => exact ⟨vs, hs ι2 H2 F2, by rw [rs2.length]; exact List.getElem?_eq_none_iff.mp q⟩
  | some x =>
    obtain ⟨v, q1, rv⟩ := rs2.get q
    exact ⟨vs, v, hs ι2 H2 F2, q1, rv⟩
theorem lv_live {n : Nat} {a : Addr} (ea : ι[n]? = some a) : Lv (fun H vs => SqL K H a vs) ι H (SLive n) := by
  intro ι2 h2 H2 R2 F2 i
  have ea2 := pre_get F2.pre ea
  unfold SLive
  cases q0 : h2[n]? with
  | none => trivial
  | some o =>
    cases o with
    | dic _ => trivial
    | fdc _ => trivial
    | lst xs =>
      obtain ⟨a', vs, z1, _, e2, rs2⟩ := R2.lst (.ref ea2) q0
      cases z1
      show match some xs[i]? with
        | none => True
        | some none => _
        | some (some x) => _
      cases q : xs[i]? with
      | none => exact ⟨vs, sq_of e2, by rw [rs2.length]; exact List.getElem?_eq_none_iff.mp q⟩
      | some x =>
        obtain ⟨v, q1, rv⟩ := rs2.get q
        exact ⟨vs, v, sq_of e2, q1, rv⟩
theorem rj_enumJ {Sq : Hp → List V → Prop} {s : Src} {J : It} (lv : Lv Sq ι H s) (hst : ∀ i H vs, Sq H vs → vs.length ≤ i → J.stop i H) (hgo : ∀ i H vs v, Sq H vs → vs[i]? = some v → J.go i H)
    (hy : ∀ i H v H', J.yld i H v H' → ∃ T x, v = V.ref T ∧ H T = none ∧ H' = upd H T (.tup [.int (i : Nat), x]) ∧ ∀ vs, Sq H vs → vs[i]? = some x) : RJ ι H J (SEnum s) := by
  intro ι2 h2 H2 R2 F2 i
  have q := lv ι2 h2 H2 R2 F2 i
  unfold SEnum
  cases e : s h2 i with
  | none => trivial
  | some o =>
    simp only [e] at q
    cases o with
    | none => obtain ⟨vs, q1, q2⟩ := q; exact hst _ _ _ q1 q2
    | some x =>
      obtain ⟨vs, v, q1, q2, rv⟩ := q
      refine ⟨hgo _ _ _ _ q1 q2, fun w H3 y => ?_⟩
      obtain ⟨T, u, y1, y2, y3, y4⟩ := hy _ _ _ _ y
      have e2 := y4 vs q1
      rw [q2] at e2
      cases e2
      subst y1 y3
      exact ⟨ι2, R2.new y2, fr_new y2, .tup upd_same (.cons (.int _) (.cons (R2.mono (fr_new y2) rv) .nil))⟩
theorem rj_zipJ {Sq Sr : Hp → List V → Prop} {s t : Src} {J : It} (lv : Lv Sq ι H s) (lw : Lv Sr ι H t) (hst : ∀ i H vs ws, Sq H vs → Sr H ws → vs.length ≤ i ∨ ws.length ≤ i → J.stop i H) (hgo : ∀ i H vs ws v w, Sq H vs → Sr H ws → vs[i]? = some v → ws[i]? = some w → J.go i H)
    (hy : ∀ i H v H', J.yld i H v H' → ∃ T x y, v = V.ref T ∧ H T = none ∧ H' = upd H T (.tup [x, y]) ∧ (∀ vs, Sq H vs → vs[i]? = some x) ∧ ∀ ws, Sr H ws → ws[i]? = some y) : RJ ι H J (SZip s t) := by
  intro ι2 h2 H2 R2 F2 i
  have q := lv ι2 h2 H2 R2 F2 i
  have r := lw ι2 h2 H2 R2 F2 i
  unfold SZip
  cases e : s h2 i with
  | none => trivial
  | some o =>
    simp only [e] at q
    cases e' : t h2 i with
    | none => cases o <;> trivial
    | some o' =>
      simp only [e'] at r
      cases o with
      | none =>
        obtain ⟨vs, q1, q2⟩ := q
        cases o' with
        | none => obtain ⟨ws, r1, r2⟩ := r; exact hst _ _ _ _ q1 r1 (.inl q2)
        | some _ => obtain ⟨ws, w, r1, r2, _⟩ := r; exact hst _ _ _ _ q1 r1 (.inl q2)
      | some x =>
        obtain ⟨vs, v, q1, q2, rv⟩ := q
        cases o' with
        | none => obtain ⟨ws, r1, r2⟩ := r; exact hst _ _ _ _ q1 r1 (.inr r2)
        | some x' =>
          obtain ⟨ws, w, r1, r2, rw'⟩ := r
          refine ⟨hgo _ _ _ _ _ _ q1 r1 q2 r2, fun z H3 y => ?_⟩
          obtain ⟨T, u, u', y1, y2, y3, y4, y5⟩ := hy _ _ _ _ y
          have e2 := y4 vs q1
          rw [q2] at e2
          cases e2
          have e3 := y5 ws r1
          rw [r2] at e3
          cases e3
          subst y1 y3
          exact ⟨ι2, R2.new y2, fr_new y2, .tup upd_same (.cons (R2.mono (fr_new y2) rv) (.cons (R2.mono (fr_new y2) rw') .nil))⟩
end
def enumM : List IV → M Src
  | [.tup xs] => M.pure (SEnum (SItems xs))
  | [.fl xs] => M.pure (SEnum (SItems xs))
  | [.ref n] => fun h => match h[n]? with
    | some (.lst _) => some (.ok (SEnum (SLive n)), h)
    | _ => none
  | _ => stuck
def zipM : List IV → M Src
  | [.tup xs, .tup ys] => M.pure (SZip (SItems xs) (SItems ys))
  | [.ref n, .ref m] => fun h => match h[n]?, h[m]? with
    | some (.lst _), some (.lst _) => some (.ok (SZip (SLive n) (SLive m)), h)
    | _, _ => none
  | _ => stuck
def revM : List IV → M Src
  | [.ref n] => fun h => match h[n]? with
    | some (.lst xs) => some (.ok (SRev n xs.length), h)
    | _ => none
  | _ => stuck
section
variable {X : Cx} {W : ExW} {e e2 tg : Expr} {elts : List Expr} {ma : Env → M (List IV)} {pos p tpos : Pos} {kk : Nat}
theorem pii_enum (hm : X.mg "enumerate" = none) (ha : PAI X W [e] ma) (hg : Gl X "enumerate" := by rfl) (hs : starEach [e] X.env = [(false, eval e X.env)] := by rfl) : PII X W (.Tuple elts kk tpos) (.Call (.Name "enumerate" p) [e] [] pos) (IterA enumM ma) := by
  refine PI.weak (PI.or (pi_enum hg hm ha hs) (pi_enumT hg hm ha hs)) fun σ H Rr ⟨ι, h, env, R, S, r⟩ => ?_
  cases q : ma env h with
  | none => unfold IterA M.bind at r; rw [q] at r; exact r.elim
  | some oh =>
    obtain ⟨o, h1⟩ := oh
    cases o with
    | ex ee =>
      refine .inl ⟨ι, h, env, R, S, ?_⟩
      rw [q]
      have r' : Run W RJ (some (Out.ex ee, h1)) ι H Rr := by unfold IterA M.bind at r; rw [q] at r; exact r
      exact r'
    | ok xs =>
      have r' : Run W RJ (enumM xs h1) ι H Rr := by unfold IterA M.bind at r; rw [q] at r; exact r
      have mk : ∀ (P : List V → Hp → Prop), (∀ ι' H' v, Rel ι' h1 H' → Fr ι H ι' H' → RVs ι' H' v xs → P v H') → tIA W ma σ H P := fun P k => ⟨ι, h, env, R, S, by rw [q]; exact k⟩
      match xs, r', mk with
      | [.tup ys], r', mk => exact .inr (mk _ fun ι' H' v R' F' rs => by
          cases rs with
          | cons a rs => cases rs; cases a with
            | tup e1 r1 => exact ⟨_, _, rfl, st_of e1, r' ι' H' _ R' F' (rj_enumJ (Sq := fun H vs => SqT X.K H _ vs) (lv_items R' (fun ι2 H2 F2 => st_of (F2.keep _ _ e1 (R'.tup_out e1)).1) r1) (fun _ _ vs z1 z2 => ⟨vs, z1, z2⟩) (fun _ _ vs v z1 z2 => ⟨vs, v, z1, z2⟩) (fun _ _ _ _ y => y))⟩)
      | [.fl ys], r', mk => exact .inl (mk _ fun ι' H' v R' F' rs => by
          cases rs with
          | cons a rs => cases rs; cases a with
            | fl e1 hn r1 => exact ⟨_, _, rfl, sf_of e1, r' ι' H' _ R' F' (rj_enumJ (Sq := fun H vs => SqL X.K H _ vs) (lv_items R' (fun ι2 H2 F2 => sf_of (F2.keep _ _ e1 hn).1) r1) (fun _ _ vs z1 z2 => ⟨vs, z1, z2⟩) (fun _ _ vs v z1 z2 => ⟨vs, v, z1, z2⟩) (fun _ _ _ _ y => y))⟩)
      | [.ref n], r', mk =>
        have r'' : Run W RJ (match h1[n]? with
          | some (.lst _) => some (.ok (SEnum (SLive n)), h1)
          | _ => none) ι H Rr := r'
        split at r''
        · rename_i ys e1
          exact .inl (mk _ fun ι' H' v R' F' rs => by
            cases rs with
            | cons a rs =>
              cases rs
              obtain ⟨a', vs, z1, ea, e2, rs⟩ := R'.lst a e1
              subst z1
              exact ⟨a', vs, rfl, sq_of e2, r'' ι' H' _ R' F' (rj_enumJ (lv_live ea) (fun _ _ vs z1 z2 => ⟨vs, z1, z2⟩) (fun _ _ vs v z1 z2 => ⟨vs, v, z1, z2⟩) (fun _ _ _ _ y => y))⟩)
        · exact r''.elim
      | [], r', _ => exact r'.elim
      | [.non], r', _ => exact r'.elim
      | [.bl _], r', _ => exact r'.elim
      | [.int _], r', _ => exact r'.elim
      | [.str _], r', _ => exact r'.elim
      | [.kl _], r', _ => exact r'.elim
      | [.exo], r', _ => exact r'.elim
      | a :: b :: c, r', _ => cases a <;> exact r'.elim
theorem pii_zip (hm : X.mg "zip" = none) (ha : PAI X W [e, e2] ma) (hg : Gl X "zip" := by rfl) (hs : starEach [e, e2] X.env = (false, eval e X.env) :: starEach [e2] X.env := by rfl) (hpl : (backTo pos (starEach [e2] X.env)).any (·.1) = false := by rfl) : PII X W (.Tuple elts kk tpos) (.Call (.Name "zip" p) [e, e2] [] pos) (IterA zipM ma) := by
  refine PI.weak (RZ.pi_zipA hg hm ha hs hpl) fun σ H Rr ⟨ι, h, env, R, S, r⟩ => ?_
  refine ⟨ι, h, env, R, S, (run_bind (rel1 := RVs) r).mono fun vs H1 ⟨ι1, h1, xs, R1, F1, rs, r1⟩ => ?_⟩
  cases rs with
  | nil => exact r1.elim
  | cons a rs => cases rs with
    | nil => cases a <;> exact r1.elim
    | cons b rs => cases rs with
      | cons _ _ => cases a <;> cases b <;> exact r1.elim
      | nil =>
        cases a with
        | tup e1 q1 => cases b with
          | tup e2 q2 => exact ⟨_, _, _, _, rfl, .inr ⟨st_of e1, st_of e2, r1 ι1 H1 _ R1 (Fr.refl _ _) (rj_zipJ (Sq := fun H vs => SqT X.K H _ vs) (Sr := fun H vs => SqT X.K H _ vs) (lv_items R1 (fun ι2 H2 F2 => st_of (F2.keep _ _ e1 (R1.tup_out e1)).1) q1) (lv_items R1 (fun ι2 H2 F2 => st_of (F2.keep _ _ e2 (R1.tup_out e2)).1) q2)
              (fun _ _ vs ws z1 z2 z3 => ⟨vs, ws, z1, z2, z3⟩) (fun _ _ vs ws v w z1 z2 z3 z4 => ⟨vs, ws, v, w, z1, z2, z3, z4⟩) (fun _ _ _ _ y => y))⟩⟩
          | _ => exact r1.elim
        | @ref n a ea => cases b with
          | @ref m b eb =>
            have r' : Run W RJ (match h1[n]?, h1[m]? with
              | some (.lst _), some (.lst _) => some (.ok (SZip (SLive n) (SLive m)), h1)
              | _, _ => none) ι1 H1 Rr := r1
            split at r'
            · rename_i ys zs e1 e2
              obtain ⟨a', vs, z1, ea, e3, _⟩ := R1.lst (.ref ea) e1
              cases z1
              obtain ⟨b', ws, z2, eb, e4, _⟩ := R1.lst (.ref eb) e2
              cases z2
              exact ⟨_, _, vs, ws, rfl, .inl ⟨sq_of e3, sq_of e4, r' ι1 H1 _ R1 (Fr.refl _ _) (rj_zipJ (lv_live ea) (lv_live eb) (fun _ _ vs ws z1 z2 z3 => ⟨vs, ws, z1, z2, z3⟩) (fun _ _ vs ws v w z1 z2 z3 z4 => ⟨vs, ws, v, w, z1, z2, z3, z4⟩) (fun _ _ _ _ y => y))⟩⟩
            · exact r'.elim
          | _ => exact r1.elim
        | _ => exact r1.elim
theorem rj_rev {ι : List Addr} {H : Hp} {K : PySem.W.Frag} {n k : Nat} {a : Addr} (ea : ι[n]? = some a) : RJ ι H (Itv K a k) (SRev n k) := by
  intro ι2 h2 H2 R2 F2 i
  have ea2 := pre_get F2.pre ea
  unfold SRev
  by_cases hi : i < k
  · rw [if_pos hi]
    cases q0 : h2[n]? with
    | none => trivial
    | some o =>
      cases o with
      | dic _ => trivial
      | fdc _ => trivial
      | lst xs =>
        obtain ⟨a', vs, z1, _, e2, rs2⟩ := R2.lst (.ref ea2) q0
        cases z1
        show match (xs[k - 1 - i]?).map some with
          | none => True
          | some none => _
          | some (some x) => _
        cases q : xs[k - 1 - i]? with
        | none => trivial
        | some x =>
          obtain ⟨v, q1, rv⟩ := rs2.get q
          refine ⟨⟨hi, vs, v, sq_of e2, q1⟩, fun w H3 y => ?_⟩
          obtain ⟨y1, y2⟩ := y
          subst y1
          have := y2 vs (sq_of e2)
          rw [q1] at this
          cases this
          exact ⟨ι2, R2, Fr.refl _ _, rv⟩
  · rw [if_neg hi]
    exact Nat.le_of_not_lt hi
theorem pii_rev (hm : X.mg "reversed" = none) (ha : PAI X W [e] ma) (hg : Gl X "reversed" := by rfl) (hs : starEach [e] X.env = [(false, eval e X.env)] := by rfl) : PII X W tg (.Call (.Name "reversed" p) [e] [] pos) (IterA revM ma) :=
  PI.weak (pi_reversed hg hm ha hs) fun σ H Rr ⟨ι, h, env, R, S, r⟩ => ⟨ι, h, env, R, S, (run_bind (rel1 := RVs) r).mono fun vs H1 ⟨ι1, h1, xs, R1, F1, rs, r1⟩ => by
    cases rs with
    | nil => exact r1.elim
    | cons a rs =>
      cases a with
      | @ref n a ea => cases rs with
        | nil =>
          have r' : Run W RJ (match h1[n]? with
            | some (.lst xs) => some (.ok (SRev n xs.length), h1)
            | _ => none) ι1 H1 Rr := r1
          split at r'
          · rename_i ys e1
            obtain ⟨a', vs, z1, ea, e2, rs⟩ := R1.lst (.ref ea) e1
            cases z1
            exact ⟨_, vs, rfl, sq_of e2, r' ι1 H1 _ R1 (Fr.refl _ _) (by rw [rs.length]; exact rj_rev ea)⟩
          · exact r'.elim
        | cons _ _ => exact r1.elim
      | _ => cases rs <;> exact r1.elim⟩
end

/-! ### dicts made -/
def DNew : Env → M IV := fun _ h => some (.ok (.ref h.length), h ++ [.dic []])
def DOne (a b : Env → M IV) : Env → M IV := fun env => fun h => (M.bind (a env) fun x => M.bind (b env) fun y => fun h2 => match h2[h.length]?, keyI x with
  | some (.dic []), some k => some (.ok (.ref h.length), h2.set h.length (.dic (putI [] k y)))
  | _, _ => none) (h ++ [.dic []])
section
variable {X : Cx} {W : ExW} {a b : Expr} {ma mb : Env → M IV} {pos : Pos}
theorem pei_dnew : PEI X W (.Dict [] [] pos) DNew := PE.weak pe_dnewK fun σ H Q ⟨ι, h, env, R, S, r⟩ p hp => by
  have r' : Run W RV (some (.ok (.ref h.length), h ++ [.dic []])) ι H Q := r
  refine r' (ι ++ [p]) _ _ (R.push hp (u := .dic []) ⟨[], upd_same, .nil⟩) (fr_push hp) (.ref ?_)
  rw [← R.len, List.getElem?_append_right (Nat.le_refl _), Nat.sub_self]
  rfl
theorem pei_done (ha : PEI X W a ma) (hb : PEI X W b mb) : PEI X W (.Dict [some a] [b] pos) (DOne ma mb) := PE.weak (pe_disp (pps_cons ha hb pps_nil) rfl rfl (by simp) (by show 1 ≤ 15; decide)) fun σ H Q ⟨ι, h, env, R, S, r⟩ p hp => by
  have RD := R.push hp (u := .dic []) (o := .dK []) ⟨[], upd_same, .nil⟩
  have FD : Fr ι H (ι ++ [p]) (upd H p (.dK [])) := fr_push hp
  have eD : (ι ++ [p])[h.length]? = some p := by
    rw [← R.len, List.getElem?_append_right (Nat.le_refl _), Nat.sub_self]; rfl
  have r0 : Run W RV ((M.bind (ma env) fun x => M.bind (mb env) fun y => fun h2 => match h2[h.length]?, keyI x with
    | some (.dic []), some k => some (.ok (.ref h.length), h2.set h.length (.dic (putI [] k y)))
    | _, _ => none) (h ++ [.dic []])) (ι ++ [p]) (upd H p (.dK [])) Q := by
    have r : Run W RV ((M.bind (ma env) fun x => M.bind (mb env) fun y => fun h2 => match h2[h.length]?, keyI x with
      | some (.dic []), some k => some (.ok (.ref h.length), h2.set h.length (.dic (putI [] k y)))
      | _, _ => none) (h ++ [.dic []])) ι H Q := r
    unfold Run at r ⊢
    split <;> rename_i e9 <;> simp only [e9] at r
    · exact fun ι' H' v R F z => r ι' H' v R (FD.trans F) z
    · exact fun ι' H' R F => r ι' H' R (FD.trans F)
  have SD := S.mono R FD
  refine ⟨_, _, env, RD, SD, (run_bind (rel1 := RV) r0).mono fun v H1 ⟨ι1, h1, x, R1, F1, rv, r1⟩ => ?_⟩
  refine ⟨ι1, h1, env, R1, SD.mono RD F1, (run_bind (rel1 := RV) r1).mono fun w H2 ⟨ι2, h2, y, R2, F2, rw, r2⟩ => ?_⟩
  have r2' : Run W RV (match h2[h.length]?, keyI x with
    | some (.dic []), some k => some (.ok (.ref h.length), h2.set h.length (.dic (putI [] k y)))
    | _, _ => none) ι2 H2 Q := r2
  split at r2'
  · rename_i k e1 e2
    have eD2 := pre_get (F1.trans F2).pre eD
    obtain ⟨a', ks, z1, z0, z2, rk⟩ := R2.dic (.ref eD2) e1
    cases z1
    cases rk
    refine ⟨z2, [(k, w)], ?_, by show 1 ≤ 15; decide, ?_⟩
    · rw [key_ok (R1.mono F2 rv) e2]; rfl
    · have hm := List.mem_of_getElem? eD2
      exact r2' ι2 _ _ (R2.set eD2 (u := .dic (putI [] k y)) ⟨_, upd_same, RKs.monok R2 (fk_set hm) (RKs.put .nil rw)⟩) (fr_set hm (nf_dk z2)) (.ref eD2)
  · exact r2'.elim
/-- {k: v for ..} -/
def DcL (s : Src) (p : Pat) (c : Env → M Bool) (kx el : Env → M IV) (d : Nat) (env : Env) : Nat → Nat → M Unit
  | 0, _ => stuck
  | n + 1, i => fun h => match s h i with
    | none => none
    | some none => some (.ok (), h)
    | some (some x) => match p.set x env with
      | none => none
      | some env2 => M.bind (c env2) (fun k => if k = true then M.bind (kx env2) (fun y => M.bind (el env2) (fun z => fun h3 => match h3[d]?, keyI y with
          | some (.dic kvs), some kk => if kvs.length < lim then DcL s p c kx el d env n (i + 1) (h3.set d (.dic (putI kvs kk z))) else none
          | _, _ => none)) else DcL s p c kx el d env n (i + 1)) h
def DcE (n : Nat) (src : Env → M Src) (p : Pat) (c : Env → M Bool) (kx el : Env → M IV) (vs : List Nat) : Env → M IV := fun env => M.bind (src env) fun s => fun h => match DcL s p c kx el h.length (wipeE env vs) n 0 (h ++ [.dic []]) with
  | some (.ok _, h') => some (.ok (.ref h.length), h')
  | _ => none
theorem dc_weak (n : Nat) {src : Env → M Src} {p : Pat} {c : Env → M Bool} {mk el : Env → M IV} {vs : List Nat} {σ : L2.St} {H : Hp} {Q : VK} (hv : ∀ i ∈ p.ix, i ∈ vs) (t : tI W (DcE n src p c mk el vs) σ H Q) : tDc (tII W src) (gPat X.K p) (tIT W0 c) (tI W0 mk) (tI W0 el) vs σ H Q := by
  obtain ⟨ι, h, env, R, S, r⟩ := t
  refine ⟨ι, h, env, R, S, (run_bind (rel1 := RJ) r).mono fun J H1 ⟨ι1, h1, s, R1, F1, rj, r1⟩ => ?_⟩
  intro D hD
  have r1' : Run W RV (match DcL s p c mk el h1.length (wipeE env vs) n 0 (h1 ++ [.dic []]) with
    | some (.ok _, h') => some (.ok (.ref h1.length), h')
    | _ => none) ι1 H1 Q := r1
  generalize hL : DcL s p c mk el h1.length (wipeE env vs) n 0 (h1 ++ [.dic []]) = o at r1'
  match o, r1', hL with
  | none, r1', _ => exact r1'.elim
  | some (.ex _, _), r1', _ => exact r1'.elim
  | some (.ok u, hf), r1', hL =>
    have RD : Rel (ι1 ++ [D]) (h1 ++ [.dic []]) (upd H1 D (.dK [])) := R1.push hD (u := .dic []) ⟨[], upd_same, .nil⟩
    have FD : Fr ι1 H1 (ι1 ++ [D]) (upd H1 D (.dK [])) := fr_push hD
    have eD : (ι1 ++ [D])[h1.length]? = some D := by
      rw [← R1.len, List.getElem?_append_right (Nat.le_refl _), Nat.sub_self]; rfl
    have Sw := rst_wipe (S.mono R F1) vs
    refine ⟨fun i k H2 => ∃ ι2 h2, Rel ι2 h2 H2 ∧ Fr (ι1 ++ [D]) (upd H1 D (.dK [])) ι2 H2 ∧ DcL s p c mk el h1.length (wipeE env vs) k i h2 = some (.ok u, hf), ⟨n, _, _, RD, Fr.refl _ _, hL⟩, ?_⟩
    rintro i k H2 ⟨ι2, h2, R2, F2, e2⟩
    cases k with
    | zero => cases e2
    | succ k =>
      have F12 := FD.trans F2
      have q := rj ι2 h2 H2 R2 F12 i
      unfold DcL at e2
      cases e0 : s h2 i with
      | none => simp only [e0] at e2; cases e2
      | some o =>
        cases o with
        | none =>
          simp only [e0] at e2 q
          cases e2
          exact .inl ⟨q, r1' ι2 H2 (.ref D) R2 F12 (.ref (pre_get F2.pre eD))⟩
        | some x =>
          simp only [e0] at e2 q
          cases e3 : p.set x (wipeE env vs) with
          | none => simp only [e3] at e2; cases e2
          | some env2 =>
            simp only [e3] at e2
            refine .inr ⟨q.1, fun H3 => ∃ ι3 h3, Rel ι3 h3 H3 ∧ Fr (ι1 ++ [D]) (upd H1 D (.dK [])) ι3 H3 ∧ DcL s p c mk el h1.length (wipeE env vs) k (i + 1) h3 = some (.ok u, hf), fun H' w => ⟨k, Nat.lt_succ_self _, w⟩, fun v H3 y => ?_⟩
            obtain ⟨ι3, R3, F3, rv⟩ := q.2 v H3 y
            have S3 : RSt ι3 H3 (wipe σ vs) (wipeE env vs) := (Sw.mono R1 F12).mono R2 F3
            refine gPat_run rv S3 e3 hv fun σ4 w4 S4 => ⟨by rw [w4, wipe_wipe], ι3, h2, env2, R3, S4, (run_eq (rel := RB) e2).mono fun b H4 ⟨ι4, h4, bb, R4, F4, rb, e4⟩ => ?_⟩
            cases (show b = bb from rb)
            have F14 := (F2.trans F3).trans F4
            cases b with
            | false => exact iteF ⟨ι4, h4, R4, F14, e4⟩
            | true =>
              refine iteT ⟨ι4, h4, env2, R4, S4.mono R3 F4, (run_eq (rel := RV) e4).mono fun w H5 ⟨ι5, h5, y5, R5, F5, rw5, e5⟩ => ?_⟩
              refine ⟨ι5, h5, env2, R5, (S4.mono R3 F4).mono R4 F5, (run_eq (rel := RV) e5).mono fun w6 H6 ⟨ι6, h6, z6, R6, F6, rw6, e6⟩ => ?_⟩
              have F16 := (F14.trans F5).trans F6
              have eD6 := pre_get F16.pre eD
              cases e7 : h6[h1.length]? with
              | none => simp only [e7] at e6; cases e6
              | some ob =>
                cases ob with
                | lst _ => simp only [e7] at e6; cases e6
                | fdc _ => simp only [e7] at e6; cases e6
                | dic kvs =>
                  cases e8 : keyI y5 with
                  | none => simp only [e7, e8] at e6; cases e6
                  | some kk =>
                    simp only [e7, e8] at e6
                    obtain ⟨a', ks, z1, z0, z2, rk⟩ := R6.dic (.ref eD6) e7
                    cases z1
                    by_cases hl : kvs.length < lim
                    · rw [if_pos hl] at e6
                      have hm := List.mem_of_getElem? eD6
                      exact ⟨ks, kk, key_ok (R5.mono F6 rw5) e8, z2, by rw [rk.length]; exact sz_lt hl, ι6, _, R6.set eD6 (u := .dic (putI kvs kk z6)) ⟨_, upd_same, RKs.monok R6 (fk_set hm) (rk.put rw6)⟩, F16.trans (fr_set hm (nf_dk z2)), e6⟩
                    · rw [if_neg hl] at e6; cases e6
theorem pei_dc (n : Nat) {kx elt tg iter : Expr} {ifs : List Expr} {scope : Scope} (own : List (Str × Nat)) {src : Env → M Src} {p : Pat} {c : Env → M Bool} {mk el : Env → M IV} (hc : X.calm = true) (hN : X.N.Nodup) (hi : PII X W tg iter src) (ok : blkC X.N X.env.scope scope own = true)
    (hg : ∀ (s : Shared) (H : Hp) (C : Addr) (cl : List (Str × Addr)) (fp : List Addr), PG (X.blk s H scope (compEnvC scope cl C X.env) fp) tg (gPat X.K p)) (ht : ∀ (s : Shared) (H : Hp) (C : Addr) (cl : List (Str × Addr)) (fp : List Addr), PTsI (X.blk s H scope (compEnvC scope cl C X.env) fp) ifs c)
    (hk : ∀ (s : Shared) (H : Hp) (C : Addr) (cl : List (Str × Addr)) (fp : List Addr), PEI (X.blk s H scope (compEnvC scope cl C X.env) fp) W0 kx mk) (he : ∀ (s : Shared) (H : Hp) (C : Addr) (cl : List (Str × Addr)) (fp : List Addr), PEI (X.blk s H scope (compEnvC scope cl C X.env) fp) W0 elt el) (hv : ∀ i ∈ p.ix, i ∈ own.map (·.2) := by decide) (hs : ∀ x, foldedSetIterable iter X.env x = pure x := by intro _; rfl) :
    PEI X W (.DictComp kx elt [⟨tg, iter, ifs, 0⟩] scope pos) (DcE n src p c mk el (own.map (·.2))) := by
  generalize hvs : own.map (·.2) = vs at hv
  refine PE.weak (pe_dc hc hN hi (blkOk_by ok) hg ht hk he hs) fun σ H Q t => ?_
  rw [hvs]
  exact dc_weak n hv t
end
end Iv
set_option Elab.async false
set_option linter.all false
set_option maxRecDepth 100000
set_option maxHeartbeats 2000000
set_option autoImplicit false
namespace Iv
open PySem L2
variable [KL]

/-! ### unpacking a list or a tuple -/
theorem PG.or {X : Cx} {e : Expr} {t t' : TG} (h : PG X e t) (h' : PG X e t') : PG X e (fun v σ H Q => t v σ H Q ∨ t' v σ H Q) := ⟨fun pins s σ H v u Q I r q => q.elim (h.run pins s σ H v u Q I r) (h'.run pins s σ H v u Q I r)⟩
def TgUn (n : Nat) (u : List IV → Env → M Env) : MTg := fun x env => fun h => match seqI h x with
  | some xs => if xs.length = n then u xs env h else none
  | none => none
section
variable {X : Cx} {W : ExW} {e : Expr} {es : List Expr} {ma : Env → M (List IV)} {pos p kpos : Pos} {x : Str}
theorem pgi_un (n : Nat) {k : Nat} {um : List IV → Env → M Env} (hc : X.calm = true) (h : PGsI X W es um) (hn : (assignEach es X.env).length = n := by rfl) (hst : (assignEach es X.env).findIdx? (·.1) = none := by rfl) : PGI X W (.Tuple es k pos) (TgUn n um) :=
  PG.weak (PG.or (pg_tup hc h hn hst) (pg_unl hc h hn hst)) fun v σ H Q ⟨ι, h, env, x, R, S, rv, r⟩ => by
    have r' : Run W RE (match seqI h x with
      | some xs => if xs.length = n then um xs env h else none
      | none => none) ι H Q := r
    cases q : seqI h x with
    | none => simp only [q] at r'; exact r'.elim
    | some xs =>
      simp only [q] at r'
      by_cases hl : xs.length = n
      · rw [if_pos hl] at r'
        obtain ⟨a, vs, e1, rs, e2⟩ := seq_ok (K := X.K) R rv q
        rcases e2 with e2 | e2
        · exact .inr ⟨a, vs, e1, e2, by rw [rs.length]; exact hl, ι, h, env, xs, R, S, rs, r'⟩
        · exact .inl ⟨a, vs, e1, e2, by rw [rs.length]; exact hl, ι, h, env, xs, R, S, rs, r'⟩
      · rw [if_neg hl] at r'; exact r'.elim

/-! ### calls by keywords alone -/
def PKI (X : Cx) (W : ExW) (kws : List Keyword) (m : Env → M (List IV)) : Prop := PK X kws (tIA W m)
theorem PK.weak {kws : List Keyword} {t t' : TA} (h : PK X kws t) (k : ∀ σ H Q, t' σ H Q → t σ H Q) : PK X kws t' := ⟨fun pos pins s σ H Q I q => h.run pos pins s σ H Q I (k σ H Q q)⟩
theorem pki_nil : PKI X W [] Nil := PK.weak pk_nil fun σ H Q ⟨ι, h, env, R, S, r⟩ => run_pure r R .nil
theorem pki_cons {nm : Option Str} {kws : List Keyword} {m : Env → M IV} {mr : Env → M (List IV)} (ha : PEI X W e m) (hr : PKI X W kws mr) : PKI X W (⟨nm, e, kpos⟩ :: kws) (Cons m mr) := PK.weak (pk_cons ha hr) fun σ H Q ⟨ι, h, env, R, S, r⟩ =>
  ⟨ι, h, env, R, S, (run_bind (rel1 := RV) r).mono fun v H1 ⟨ι1, h1, x, R1, F1, rv, r1⟩ => ⟨ι1, h1, env, R1, S.mono R F1, (run_bind (rel1 := RVs) r1).mono fun w H2 ⟨ι2, h2, y, R2, F2, rw, r2⟩ => run_pure r2 R2 (.cons (R1.mono F2 rv) rw)⟩⟩
/-- the values of the keywords in the parameters' order: the i-th parameter is the (p i)-th keyword -/
def perm {α : Type} (ps : List Nat) (xs : List α) : List α := ps.filterMap fun i => xs[i]?
/-- how keywords bind -/
def KwOk (K : PySem.W.Frag) (fd : FuncData) (ps ks : List Str) (p : List Nat) : Prop := ∀ (s : Shared) (ws : List Value), K.In s.heap → ws.length = p.length → BindsTo s fd ⟨[], ks.zip ws⟩ (ps.zip (perm p ws))
theorem vals_perm {vs : List V} {us : List Value} (r : Vals vs us) : ∀ p : List Nat, Vals (perm p vs) (perm p us)
  | [] => .nil
  | i :: p => by
    unfold perm
    rw [List.filterMap_cons, List.filterMap_cons]
    cases q : vs[i]? with
    | none => rw [Vals.none_of r q]; exact vals_perm r p
    | some v =>
      obtain ⟨u, h1, h2⟩ := r.get q
      rw [h1]
      exact .cons h2 (vals_perm r p)
theorem RVs.perm {ι : List Addr} {H : Hp} {vs : List V} {xs : List IV} (r : RVs ι H vs xs) : ∀ p : List Nat, RVs ι H (Iv.perm p vs) (Iv.perm p xs)
  | [] => .nil
  | i :: p => by
    unfold Iv.perm
    rw [List.filterMap_cons, List.filterMap_cons]
    cases q : xs[i]? with
    | none =>
      have : vs[i]? = none := by rw [List.getElem?_eq_none_iff] at q ⊢; rw [r.length]; exact q
      rw [this]; exact RVs.perm r p
    | some v =>
      obtain ⟨u, h1, h2⟩ := r.get q
      rw [h1]
      exact .cons h2 (RVs.perm r p)
def CallOkK (P : Program) (w : World) (K : PySem.W.Frag) (mg : Str → Option Value) (base : Heap) (x : Str) (k n : Nat) (F : List IV → M IV) (ks : List Str) (p : List Nat) : Prop :=
  ∃ f fd ps, FnOk P w K mg base CX0 k f fd ps (sp0 n F) ∧ mg x = some (.ref f) ∧ PySem.W.keepIn K (.ref f) = true ∧ KwOk K fd ps ks p
def CallK (n : Nat) (F : List IV → M IV) (p : List Nat) (a : Env → M (List IV)) : Env → M IV := fun env => M.bind (a env) fun xs => if (perm p xs).length = n ∧ xs.length = p.length then noex (F (perm p xs)) else stuck
theorem pei_callK {F : List IV → M IV} {k n : Nat} {ks : List Str} {pm : List Nat} {kws : List Keyword} (C : CallOkK X.prog X.w X.K X.mg X.base x k n F ks pm) (hr : Room k X.A) (hkw : PKI X W kws ma) (hg : Gl X x := by rfl) (hall : (backToKw pos (keywordEach kws X.env)).all (·.1.isSome) = true := by rfl) (hks : (backToKw pos (keywordEach kws X.env)).filterMap (·.1) = ks := by rfl)
    (hdb : (x == ("__debug__" : Str)) = false := by decide) (hpl : ((backTo pos (starEach [] X.env)).any (·.1) || (backToKw pos (keywordEach kws X.env)).any (·.1.isNone)) = false := by rfl) : PEI X W (.Call (.Name x p) [] kws pos) (CallK n F pm ma) := by
  obtain ⟨f, fd, ps, FO, hm, hk, hb⟩ := C
  refine ⟨fun pins s σ H Q I t => ?_⟩
  obtain ⟨ι, h, env, R, S, r⟩ := t
  refine PySem.wpAny_Call_Name_kw (ld_glob I hg hm ?_ hdb)
  refine PySem.W.callWith_KW0 (h₀ := X.base) I.ok.mod.kin hk hall ?_ hpl
  refine thn (hkw.run pos pins s σ H (fun zs H1 => sp0 n F (perm pm zs) H1 Q E0 ∧ zs.length = pm.length) I ⟨ι, h, env, R, S, (run_bind (rel1 := RVs) r).mono fun vs H1 ⟨ι1, h1, xs, R1, F1, rs, r1⟩ => ?_⟩) fun ws s2 ⟨zs, H2, I2, rz, q2, hz⟩ => ⟨I2.kIn, ?_⟩
  · obtain ⟨hl, r1⟩ := run_if r1
    exact ⟨⟨by rw [(rs.perm pm).length]; exact hl.1, ι1, h1, _, R1, rs.perm pm, run_noex r1⟩, by rw [rs.length]; exact hl.2⟩
  · rw [hks]
    have KB : KBinds X.K fd ps ks (fun _ ws => perm pm ws) (fun _ zs => perm pm zs) → True := fun _ => trivial
    have r2 := vals_perm rz pm
    have hl : (perm pm ws).length = ps.length := by rw [← r2.length]; exact FO.len _ _ _ _ q2
    refine wpAny_call (codeAny_mono (FO.run X.A X.stack s2 H2 ⟨[], ks.zip ws⟩ (perm pm ws) (perm pm zs) Q E0 hr I2.env0 (hb s2 ws I2.kIn (by rw [← rz.length]; exact hz)) r2 q2) fun r s' hq => ?_)
    cases r with
    | error e => exact hq.elim
    | ok fl =>
      cases fl with
      | ret u => exact I2.after hq
      | next => exact False.elim hq
      | brk => exact False.elim hq
      | cont => exact False.elim hq

/-! ### a call in a heap of its own: values without lists in and out -/
mutual
def pureI : IV → Bool
  | .tup xs => pureIs xs
  | .non => true
  | .bl _ => true
  | .int _ => true
  | .str _ => true
  | .fl _ => false
  | .kl _ => false
  | .exo => false
  | .ref _ => false
def pureIs : List IV → Bool
  | [] => true
  | x :: xs => pureI x && pureIs xs
end
mutual
theorem RV.shift {ι ι' : List Addr} {H : Hp} : ∀ {x : IV} {v : V}, pureI x = true → RV ι H v x → RV ι' H v x
  | .non, _, _, .non => .non
  | .bl _, _, _, .bl b => .bl b
  | .int _, _, _, .int i => .int i
  | .str _, _, _, .str x => .str x
  | .tup xs, _, p, .tup e r => .tup e (RVs.shift (by simpa [pureI] using p) r)
  | .fl _, _, p, _ => by simp [pureI] at p
  | .kl _, _, p, _ => by simp [pureI] at p
  | .exo, _, p, _ => by simp [pureI] at p
  | .ref _, _, p, _ => by simp [pureI] at p
theorem RVs.shift {ι ι' : List Addr} {H : Hp} : ∀ {xs : List IV} {vs : List V}, pureIs xs = true → RVs ι H vs xs → RVs ι' H vs xs
  | [], _, _, .nil => .nil
  | x :: xs, _, p, .cons a r => by
    rw [pureIs, Bool.and_eq_true] at p
    exact .cons (RV.shift p.1 a) (RVs.shift p.2 r)
end
def CallP (n : Nat) (F : List IV → M IV) (a : Env → M (List IV)) : Env → M IV := fun env => M.bind (a env) fun xs => fun h => if xs.length = n ∧ pureIs xs = true then (match F xs [] with
  | some (.ok y, _) => if pureI y = true then some (.ok y, h) else none
  | _ => none) else none
theorem callP_run {F : List IV → M IV} {n : Nat} {ι : List Addr} {h : IH} {H : Hp} {vs : List V} {xs : List IV} {Q : VK} {E : XK} (R : Rel ι h H) (rs : RVs ι H vs xs) (r : Run W RV (if xs.length = n ∧ pureIs xs = true then (match F xs [] with
  | some (.ok y, _) => if pureI y = true then some (.ok y, h) else none
  | _ => none) else none) ι H Q) : sp0 n F vs H Q E := by
  split at r
  · rename_i hc
    refine ⟨by rw [rs.length]; exact hc.1, [], [], xs, ⟨rfl, List.nodup_nil, fun n o a e _ => by simp at e⟩, rs.shift hc.2, ?_⟩
    cases q : F xs [] with
    | none => simp only [q] at r; exact r.elim
    | some oh =>
      obtain ⟨o, h'⟩ := oh
      cases o with
      | ex e => simp only [q] at r; exact r.elim
      | ok y =>
        simp only [q] at r
        by_cases hp : pureI y = true
        · rw [if_pos hp] at r
          intro ι' H' v R' F' rv
          have FF : Fr ι H ι H' := ⟨⟨List.prefix_refl _, fun a o e na => ⟨(F'.keep a o e (by simp)).1, na⟩⟩, fun a o u e => F'.frz a o u e⟩
          refine r ι H' v ⟨R.len, R.nd, fun n u a e1 e2 => RO.mono R FF ?_ (R.obj n u a e1 e2)⟩ FF (rv.shift hp)
          have hro := R.obj n u a e1 e2
          cases u with
          | lst xs => obtain ⟨vs, z, _⟩ := hro; rw [z]; exact (F'.keep a _ z (by simp)).1
          | dic xs => obtain ⟨vs, z, _⟩ := hro; rw [z]; exact (F'.keep a _ z (by simp)).1
          | fdc xs => obtain ⟨_, vs, z, _⟩ := hro; rw [z]; exact (F'.keep a _ z (by simp)).1
        · rw [if_neg hp] at r; exact r.elim
  · exact r.elim
theorem pei_callP {F : List IV → M IV} {k n : Nat} (C : CallOk X.prog X.w X.K X.mg X.base x k n F) (hr : Room k X.A) (ha : PAI X W (e :: es) ma) (hg : Gl X x := by rfl) (hdb : (x == ("__debug__" : Str)) = false := by decide) (he : starEach (e :: es) X.env = (false, eval e X.env) :: starEach es X.env := by rfl)
    (hpl : (backTo pos (starEach es X.env)).any (·.1) = false := by rfl) : PEI X W (.Call (.Name x p) (e :: es) [] pos) (CallP n F ma) :=
  let ⟨_, _, _, FO, hm, hk, hb⟩ := C
  PE.weak (pe_call FO hr hg hm hk hb .nil pass0 ha hdb he hpl) fun σ H Q ⟨ι, h, env, R, S, r⟩ =>
    ⟨ι, h, env, R, S, (run_bind (rel1 := RVs) r).mono fun vs H1 ⟨ι1, h1, xs, R1, F1, rs, r1⟩ => by
      rw [List.append_nil]
      exact callP_run R1 rs r1⟩
theorem pei_callP0 {F : List IV → M IV} {k n : Nat} (C : CallOk X.prog X.w X.K X.mg X.base x k n F) (hr : Room k X.A) (hg : Gl X x := by rfl) (hdb : (x == ("__debug__" : Str)) = false := by decide) : PEI X W (.Call (.Name x p) [] [] pos) (CallP n F Nil) :=
  let ⟨_, _, _, FO, hm, hk, hb⟩ := C
  PE.weak (pe_call0 FO hr hg hm hk hb .nil pass0 hdb) fun σ H Q ⟨ι, h, env, R, S, r⟩ => callP_run (xs := []) (E := E0) R .nil r
end
/-- a call whose result holds no list if its arguments hold none: in a heap of its own then -/
def CallD (n : Nat) (F : List IV → M IV) (a : Env → M (List IV)) : Env → M IV := fun env => M.bind (a env) fun xs => fun h => if pureIs xs = true then (if xs.length = n ∧ pureIs xs = true then (match F xs [] with
  | some (.ok y, _) => if pureI y = true then some (.ok y, h) else none
  | _ => none) else none) else (if xs.length = n then noex (F xs) else stuck) h
section
variable {X : Cx} {W : ExW} {e : Expr} {es : List Expr} {ma : Env → M (List IV)} {pos p : Pos} {x : Str}
theorem pei_callD {F : List IV → M IV} {k n : Nat} (C : CallOk X.prog X.w X.K X.mg X.base x k n F) (hr : Room k X.A) (ha : PAI X W (e :: es) ma) (hg : Gl X x := by rfl) (hdb : (x == ("__debug__" : Str)) = false := by decide) (he : starEach (e :: es) X.env = (false, eval e X.env) :: starEach es X.env := by rfl)
    (hpl : (backTo pos (starEach es X.env)).any (·.1) = false := by rfl) : PEI X W (.Call (.Name x p) (e :: es) [] pos) (CallD n F ma) :=
  let ⟨_, _, _, FO, hm, hk, hb⟩ := C
  PE.weak (pe_call FO hr hg hm hk hb .nil pass0 ha hdb he hpl) fun σ H Q ⟨ι, h, env, R, S, r⟩ =>
    ⟨ι, h, env, R, S, (run_bind (rel1 := RVs) r).mono fun vs H1 ⟨ι1, h1, xs, R1, F1, rs, r1⟩ => by
      rw [List.append_nil]
      by_cases hp : pureIs xs = true
      · rw [if_pos hp] at r1
        exact callP_run R1 rs r1
      · rw [if_neg hp] at r1
        obtain ⟨hl, r1⟩ := run_if r1
        exact ⟨by rw [rs.length]; exact hl, ι1, h1, xs, R1, rs, run_noex r1⟩⟩
end
/-- a def of the text, by what the head shows of it -/
theorem topFn_of {K : PySem.W.Frag} {h : Heap} {mg : Str → Option Value} (X : K.In h) (G : h.Ns mainGlobals mg) {x : Str} {st : Stmt} {ps : List Str} {f : Addr} {oc kV dc pm cd ct : Value} {od an : Option Addr} {sl : Array (Option Value)}
    (a : PySem.W.nsIn K mainGlobals x = some (some (.ref f))) (l : K.lookup f = some ⟨oc, od, .func (PySem.W.fnOf x x (defArgs st) (defBody st) (defScope st) .none kV dc pm an cd ct), sl⟩) (c : PySem.W.codeIn K cd x = true) (k : PySem.W.keepIn K (.ref f) = true)
    (hb : ∀ (kV doc pm : Value) (an : Option Addr) (cdv ct : Value) (us : List Value), us.length = ps.length → bindArgs (PySem.W.fnOf x x (defArgs st) (defBody st) (defScope st) .none kV doc pm an cdv ct) ⟨us, []⟩ = pure (ps.zip us)) : TopFn K mg x st ps :=
  ⟨f, _, fun_mk (st := st) l c k, PySem.W.mg_of X G a, (fun_mk (st := st) l c k).binds hb⟩
/-- .. and how it binds keywords -/
def TopK (K : PySem.W.Frag) (mg : Str → Option Value) (x : Str) (st : Stmt) (ps ks : List Str) (p : List Nat) : Prop := ∀ f fd, Fun K x x st f fd → KwOk K fd ps ks p
theorem callK_of {P : Program} {w : World} {K : PySem.W.Frag} {mg : Str → Option Value} {base : Heap} {x : Str} {st : Stmt} {ps ks : List Str} {p : List Nat} {k n : Nat} {F : List IV → M IV} (T : TopFn K mg x st ps) (hk : TopK K mg x st ps ks p)
    (h : ∀ f fd, Fun K x x st f fd → FnOk P w K mg base CX0 k f fd ps (sp0 n F)) : CallOkK P w K mg base x k n F ks p :=
  let ⟨f, fd, Fn, m, _⟩ := T; ⟨f, fd, ps, h f fd Fn, m, Fn.kp, hk f fd Fn⟩
theorem topK_of {K : PySem.W.Frag} {mg : Str → Option Value} {x : Str} {st : Stmt} {ps ks : List Str} {p : List Nat} (hb : ∀ (kV doc pm : Value) (an : Option Addr) (cdv ct : Value) (ws : List Value), ws.length = p.length → bindArgs (PySem.W.fnOf x x (defArgs st) (defBody st) (defScope st) .none kV doc pm an cdv ct) ⟨[], ks.zip ws⟩ = pure (ps.zip (perm p ws))) : TopK K mg x st ps ks p := by
  intro f fd Fn s ws _ hl
  obtain ⟨oc, od, kV, doc, pm, an, cdv, ct, osl, rfl, lk, hcd⟩ := Fn.ex
  exact .of_eq (hb kV doc pm an cdv ct ws hl)
/-- the law's promise -/
def spLaw (K : PySem.W.Frag) : Sp := fun vs H Q _ => ∃ (a : Addr) (ns : List Int), vs = [.ref a] ∧ SqL K H a (ns.map V.int) ∧ ns.length ≤ 63 ∧ Only H ∧ ∀ H', Q (.bl true) H'
theorem law_imp {K : PySem.W.Frag} {F : List IV → M IV} (hKL : ∀ a vs, (∀ H, SqL K H a vs) → KL.p a vs) (pureT : ∀ (ns : List Int) (x : IV), ns.length ≤ 63 → x = .fl (ns.map IV.int) ∨ x = .kl (ns.map IV.int) → ∃ h', F [x] [] = some (.ok (.bl true), h')) :
    ∀ vs H Q E, spLaw K vs H Q E → sp0 1 F vs H Q E := by
  rintro vs H Q E ⟨a, ns, rfl, hs, hl, hO, k⟩
  have fin : ∀ x, x = .fl (ns.map IV.int) ∨ x = .kl (ns.map IV.int) → RV [] H (.ref a) x → sp0 1 F [.ref a] H Q E := fun x hx rv => by
    obtain ⟨h', e⟩ := pureT ns x hl hx
    refine ⟨rfl, [], [], [x], ⟨rfl, List.nodup_nil, fun n o a e _ => by simp at e⟩, .cons rv .nil, ?_⟩
    rw [e]
    intro ι' H' v R' F' rv
    cases rv
    exact k H'
  rcases hs with (hs | ⟨o, hs⟩) | hs
  · rcases hO a with z | ⟨_, _, z⟩ <;> rw [hs] at z <;> cases z
  · exact fin _ (.inl rfl) (.fl hs (by simp) (RVs.of_ints ns))
  · exact fin _ (.inr rfl) (.kl (hKL a _ fun H => .inr hs) (RVs.of_ints ns))
end Iv
set_option Elab.async false
set_option linter.all false
set_option maxRecDepth 100000
set_option maxHeartbeats 2000000
set_option autoImplicit false
namespace Iv
open PySem L2

/-! ### what a mirror gives -/
def Ok {α : Type} (m : M α) (h : IH) (P : α → IH → Prop) : Prop := ∃ x h', m h = some (.ok x, h') ∧ P x h'
section
variable {α β : Type} {m : M α} {k : α → M β} {h h1 : IH} {P P' : α → IH → Prop} {Q : β → IH → Prop} {x : α}
theorem ok_pure (p : P x h) : Ok (M.pure x) h P := ⟨x, h, rfl, p⟩
theorem ok_of (e : m h = some (.ok x, h1)) (p : P x h1) : Ok m h P := ⟨x, h1, e, p⟩
theorem Ok.mono (o : Ok m h P) (f : ∀ x h', P x h' → P' x h') : Ok m h P' := let ⟨x, h', e, p⟩ := o; ⟨x, h', e, f x h' p⟩
theorem ok_bind (o : Ok m h P) (f : ∀ x h', P x h' → Ok (k x) h' Q) : Ok (M.bind m k) h Q := by
  obtain ⟨x, h1, e, p⟩ := o
  obtain ⟨y, h2, e2, q⟩ := f x h1 p
  exact ⟨y, h2, by unfold M.bind; rw [e]; exact e2, q⟩
theorem bind_ok (e : m h = some (.ok x, h1)) : M.bind m k h = k x h1 := by unfold M.bind; rw [e]
theorem noex_ok (e : m h = some (.ok x, h1)) : noex m h = some (.ok x, h1) := by unfold noex; rw [e]
theorem ok_noex (o : Ok m h P) : Ok (noex m) h P := let ⟨x, h', e, p⟩ := o; ⟨x, h', noex_ok e, p⟩
end
theorem LN_pos : True := trivial
/-- what stood stands -/
def Gr (h h' : IH) : Prop := ∀ (n : Nat) (o : IO), h[n]? = some o → h'[n]? = some o
theorem Gr.refl (h : IH) : Gr h h := fun _ _ e => e
theorem Gr.trans {h h1 h2 : IH} (a : Gr h h1) (b : Gr h1 h2) : Gr h h2 := fun n o e => b n o (a n o e)
theorem Gr.push (h l : IH) : Gr h (h ++ l) := fun n o e => by
  have hl := (List.getElem?_eq_some_iff.mp e).1
  rw [List.getElem?_append_left hl]; exact e
/-- all but one -/
def GrX (u : Nat) (h h' : IH) : Prop := ∀ (n : Nat) (o : IO), n ≠ u → h[n]? = some o → h'[n]? = some o
theorem GrX.refl (u : Nat) (h : IH) : GrX u h h := fun _ _ _ e => e
theorem GrX.trans {u : Nat} {h h1 h2 : IH} (a : GrX u h h1) (b : GrX u h1 h2) : GrX u h h2 := fun n o z e => b n o z (a n o z e)
theorem Gr.x {u : Nat} {h h' : IH} (a : Gr h h') : GrX u h h' := fun n o _ e => a n o e
theorem GrX.set {u : Nat} {h : IH} {o : IO} : GrX u h (h.set u o) := fun n p z e => by rw [List.getElem?_set_ne (Ne.symm z)]; exact e

/-! ### the environment's slots -/
theorem var_ok {env : Env} {i : Nat} {x : IV} {h : IH} (e : env[i]? = some (some x)) : Var i env h = some (.ok x, h) := by unfold Var; rw [e]; rfl

/-! ### bounds -/
theorem smallI_of {i : Int} (h1 : -18446744073709551616 < i) (h2 : i < 18446744073709551616) : smallI i = true := by
  unfold smallI wordLim
  simp [h1, h2]
theorem mulOk_r {i j : Int} (h1 : -18446744073709551616 < j) (h2 : j < 18446744073709551616) : mulOk i j = true := by
  unfold mulOk; rw [smallI_of h1 h2]; simp
theorem mulOk_l {i j : Int} (h1 : -18446744073709551616 < i) (h2 : i < 18446744073709551616) : mulOk i j = true := by
  unfold mulOk; rw [smallI_of h1 h2]; simp
theorem divOk_of {i j : Int} (h1 : 0 < j) (h2 : j < 18446744073709551616) : divOk i j = true := by
  unfold divOk
  have e : j.natAbs.log2 < divLim := by
    unfold divLim
    have h3 : j.natAbs < 2 ^ 64 := by omega
    by_cases hz : j.natAbs = 0
    · omega
    · have := (Nat.log2_lt hz).mpr h3
      omega
  simp [h1, e]
theorem modOk_of {i j : Int} (h1 : 0 < j) : modOk i j = true := by unfold modOk; simp [h1]
theorem le_lim {n : Nat} (h : n ≤ 100000) : n ≤ lim := by rw [lim_eq]; exact h
theorem lt_lim {n : Nat} (h : n < 100000) : n < lim := by rw [lim_eq]; exact h
theorem pos_bind_pure {α β : Type} (x : α) (k : α → M β) : M.bind (M.pure x) k = k x := rfl
end Iv
set_option Elab.async false
set_option linter.all false
set_option maxRecDepth 100000
set_option maxHeartbeats 1000000
set_option autoImplicit false
namespace Iv
open PySem L2

/-! ### the loops, on the mirrors' side -/
theorem forL_ok {s : Src} {t : MTg} {b : Env → M Fl} {n : Nat} (I : Nat → Env → IH → Prop)
    (hs : ∀ i env h, i < n → I i env h → ∃ x, s h i = some (some x) ∧ Ok (M.bind (t x env) b) h fun f h' => ∃ e, (f = .nx e ∨ f = .ct e) ∧ I (i + 1) e h')
    (he : ∀ env h, I n env h → s h n = some none) : ∀ (k i : Nat) (env : Env) (h : IH), i ≤ n → n - i < k → I i env h → Ok (ForL s t b k i env) h fun f h' => ∃ e, f = .nx e ∧ I n e h'
  | 0, i, env, h, a1, a2, a3 => by omega
  | k + 1, i, env, h, a1, a2, a3 => by
    by_cases c : i < n
    · obtain ⟨x, e1, f, h', e2, e, e3, e4⟩ := hs i env h c a3
      obtain ⟨f2, h2, e5, e6⟩ := forL_ok I hs he k (i + 1) e h' (by omega) (by omega) e4
      refine ⟨f2, h2, ?_, e6⟩
      unfold ForL
      simp only [e1]
      unfold M.bind at e2 ⊢
      cases q : t x env h with
      | none => rw [q] at e2; cases e2
      | some oh =>
        obtain ⟨o, h1⟩ := oh
        cases o with
        | ex _ => rw [q] at e2; cases e2
        | ok env' =>
          rw [q] at e2
          simp only at e2 ⊢
          rw [e2]
          rcases e3 with e3 | e3 <;> (subst e3; exact e5)
    · have ei : i = n := by omega
      subst ei
      refine ⟨.nx env, h, ?_, env, rfl, a3⟩
      unfold ForL
      simp only [he env h a3]
theorem forS_ok {src : Env → M Src} {s : Src} {t : MTg} {b : Env → M Fl} {n k : Nat} {env : Env} {h h1 : IH} (I : Nat → Env → IH → Prop) (e0 : src env h = some (.ok s, h1)) (hk : n < k) (h0 : I 0 env h1)
    (hs : ∀ i env h, i < n → I i env h → ∃ x, s h i = some (some x) ∧ Ok (M.bind (t x env) b) h fun f h' => ∃ e, (f = .nx e ∨ f = .ct e) ∧ I (i + 1) e h')
    (he : ∀ env h, I n env h → s h n = some none) : Ok (ForS k src t b env) h fun f h' => ∃ e, f = .nx e ∧ I n e h' := by
  unfold ForS
  obtain ⟨x, h', e, p⟩ := forL_ok I hs he k 0 env h1 (by omega) (by omega) h0
  exact ⟨x, h', by rw [bind_ok e0]; exact e, p⟩
theorem lcL_ok {s : Src} {p : Pat} {c : Env → M Bool} {el : Env → M IV} {d : Nat} {env : Env} {n : Nat} (J : Nat → List IV → IH → Prop)
    (hs : ∀ i acc h, i < n → J i acc h → ∃ x env2, s h i = some (some x) ∧ p.set x env = some env2 ∧ Ok (c env2) h fun k h1 => if k = true then Ok (el env2) h1 (fun y h3 => h3[d]? = some (.lst acc) ∧ acc.length < 100000 ∧ J (i + 1) (acc ++ [y]) (h3.set d (.lst (acc ++ [y])))) else J (i + 1) acc h1)
    (he : ∀ acc h, J n acc h → s h n = some none) : ∀ (k i : Nat) (acc : List IV) (h : IH), i ≤ n → n - i < k → J i acc h → Ok (LcL s p c el d env k i) h fun _ h' => ∃ acc', J n acc' h'
  | 0, i, acc, h, a1, a2, a3 => by omega
  | k + 1, i, acc, h, a1, a2, a3 => by
    by_cases ci : i < n
    · obtain ⟨x, env2, e1, e2, kk, h1, e3, e4⟩ := hs i acc h ci a3
      unfold LcL
      by_cases hk : kk = true
      · rw [if_pos hk] at e4
        obtain ⟨y, h3, e5, e6, e7, e8⟩ := e4
        obtain ⟨u, h4, e9, e10⟩ := lcL_ok J hs he k (i + 1) _ _ (by omega) (by omega) e8
        refine ⟨u, h4, ?_, e10⟩
        simp only [e1, e2]
        rw [bind_ok e3, if_pos hk]
        refine (bind_ok e5).trans ?_
        simp only [e6]
        rw [if_pos (lt_lim e7)]
        exact e9
      · rw [if_neg hk] at e4
        obtain ⟨u, h4, e9, e10⟩ := lcL_ok J hs he k (i + 1) _ _ (by omega) (by omega) e4
        refine ⟨u, h4, ?_, e10⟩
        simp only [e1, e2]
        rw [bind_ok e3, if_neg hk]
        exact e9
    · have ei : i = n := by omega
      subst ei
      refine ⟨(), h, ?_, acc, a3⟩
      unfold LcL
      simp only [he acc h a3]
theorem lcE_ok {src : Env → M Src} {s : Src} {p : Pat} {c : Env → M Bool} {el : Env → M IV} {vs : List Nat} {env : Env} {n k : Nat} {h h1 : IH} (J : Nat → List IV → IH → Prop) (e0 : src env h = some (.ok s, h1)) (hk : n < k)
    (h0 : J 0 [] (h1 ++ [.lst []]))
    (hs : ∀ i acc h, i < n → J i acc h → ∃ x env2, s h i = some (some x) ∧ p.set x (wipeE env vs) = some env2 ∧ Ok (c env2) h fun k h2 => if k = true then Ok (el env2) h2 (fun y h3 => h3[h1.length]? = some (.lst acc) ∧ acc.length < 100000 ∧ J (i + 1) (acc ++ [y]) (h3.set h1.length (.lst (acc ++ [y])))) else J (i + 1) acc h2)
    (he : ∀ acc h, J n acc h → s h n = some none) : Ok (LcE k src p c el vs env) h fun v h' => v = .ref h1.length ∧ ∃ acc', J n acc' h' := by
  unfold LcE
  obtain ⟨x, h', e, p⟩ := lcL_ok (env := wipeE env vs) J hs he k 0 [] _ (by omega) (by omega) h0
  refine ⟨_, h', ?_, rfl, p⟩
  refine (bind_ok e0).trans ?_
  simp only [e]
/-- a comprehension whose parts change nothing -/
theorem lcE_pure {src : Env → M Src} {s : Src} {p : Pat} {c : Env → M Bool} {el : Env → M IV} {vs : List Nat} {env : Env} {k : Nat} {h h1 : IH} (xs : List IV) (f : IV → Bool) (g : IV → IV) (e0 : src env h = some (.ok s, h1)) (hk : xs.length < k) (hl : xs.length < 100000)
    (hs : ∀ acc i, s (h1 ++ [.lst acc]) i = some xs[i]?)
    (hx : ∀ x ∈ xs, ∃ e2, p.set x (wipeE env vs) = some e2 ∧ ∀ acc, c e2 (h1 ++ [.lst acc]) = some (.ok (f x), h1 ++ [.lst acc]) ∧ (f x = true → el e2 (h1 ++ [.lst acc]) = some (.ok (g x), h1 ++ [.lst acc]))) :
    LcE k src p c el vs env h = some (.ok (.ref h1.length), h1 ++ [.lst ((xs.filter f).map g)]) := by
  obtain ⟨v, h', e, ev, acc, ea, _⟩ := lcE_ok (k := k) (p := p) (c := c) (el := el) (vs := vs) (n := xs.length) (fun i acc h => h = h1 ++ [.lst acc] ∧ acc = ((xs.take i).filter f).map g) e0 hk ⟨rfl, rfl⟩ (by
    rintro i acc h hi ⟨rfl, ea⟩
    obtain ⟨e2, p1, p2⟩ := hx xs[i] (List.getElem_mem hi)
    obtain ⟨q1, q2⟩ := p2 acc
    refine ⟨xs[i], e2, by rw [hs]; simp [hi], p1, f xs[i], _, q1, ?_⟩
    have et : xs.take (i + 1) = xs.take i ++ [xs[i]] := by rw [List.take_succ]; simp [hi]
    show if f xs[i] = true then _ else _
    by_cases hf : f xs[i] = true
    · rw [if_pos hf]
      refine ⟨g xs[i], _, q2 hf, by simp, ?_, by simp, ?_⟩
      · rw [ea, List.length_map]
        exact Nat.lt_of_le_of_lt (List.length_filter_le _ _) (by rw [List.length_take]; omega)
      · rw [et, List.filter_append, List.map_append, ea]
        simp [hf]
    · rw [if_neg hf]
      refine ⟨rfl, ?_⟩
      rw [et, List.filter_append, List.map_append, ea]
      simp [hf]) (by
    rintro acc h ⟨rfl, _⟩
    rw [hs]; simp)
  rw [List.take_length] at *
  rename_i ea2
  rw [e, ev, ea, ea2]
end Iv
set_option Elab.async false
set_option linter.all false
set_option maxRecDepth 100000
set_option maxHeartbeats 1000000
set_option autoImplicit false
namespace Iv
open PySem L2
variable {h : IH} {n m : Nat} {xs ys : List IV} {kvs : List (Key × IV)} {i j : Int} {a b s : Str} {x y z : IV}

theorem GrX.pushx {u : Nat} {h h' l : IH} (g : GrX u h h') : GrX u h (h' ++ l) := fun m p z q => by
  have q2 := g m p z q
  rw [List.getElem?_append_left (List.getElem?_eq_some_iff.mp q2).1]; exact q2
theorem GrX.le {u : Nat} {h h' : IH} (g : GrX u h h') (hu : u < h'.length) : h.length ≤ h'.length := by
  rcases Nat.lt_or_ge h'.length h.length with c | c
  · exfalso
    have hl : h.length - 1 < h.length := by omega
    have q := g (h.length - 1) h[h.length - 1] (by omega) (List.getElem?_eq_getElem hl)
    have := (List.getElem?_eq_some_iff.mp q).1
    omega
  · exact c
theorem GrX.setx {u n : Nat} {h h' : IH} {o : IO} (g : GrX u h h') (e : h.length ≤ n) : GrX u h (h'.set n o) := fun m p z q => by
  have := (List.getElem?_eq_some_iff.mp q).1
  rw [List.getElem?_set_ne (by omega)]; exact g m p z q
theorem perm_erase {α : Type} : ∀ {xs : List α} {i : Nat} (h : i < xs.length), (xs[i] :: xs.eraseIdx i).Perm xs
  | x :: xs, 0, h => .refl _
  | x :: xs, i + 1, h => by
    have := perm_erase (xs := xs) (i := i) (by simpa using h)
    show (xs[i]'_ :: x :: xs.eraseIdx i).Perm (x :: xs)
    exact (List.Perm.swap _ _ _).trans (this.cons x)
/-! ### small numbers -/
theorem rngs {i : Int} (h0 : -1000000 ≤ i) (h1 : i < 1000000) : -rngLim ≤ i ∧ i < rngLim := by unfold rngLim; omega
theorem atI_nn {α : Type} {xs : List α} {i : Int} (h0 : 0 ≤ i) (h1 : i < xs.length) : atI xs i = xs[i.toNat]? := by
  unfold atI ixN
  rw [if_pos h0, if_pos h1]; rfl
theorem atI_last {α : Type} {xs : List α} {x : α} : atI (xs ++ [x]) (-1) = some x := by
  unfold atI ixN
  have h0 : ¬ (0 : Int) ≤ -1 := by omega
  have h1 : -(((xs ++ [x]).length : Nat) : Int) ≤ -1 := by simp; omega
  rw [if_neg h0, if_pos h1]
  have e : ((-1 : Int) + (((xs ++ [x]).length : Nat) : Int)).toNat = xs.length := by simp; omega
  show (some _).bind _ = _
  rw [Option.bind_some, e]
  simp
theorem sq_nn {i : Int} {n : Nat} (h0 : 0 ≤ i) (h1 : i < n) : seqIndex? i n = some i.toNat := by
  unfold seqIndex?
  have : ¬ i < 0 := by omega
  simp [this, h0, h1]

/-! ### what the operations give -/
theorem addI_int : addI (.int i) (.int j) = M.pure (.int (i + j)) := rfl
theorem addI_str (e : a.length + b.length ≤ 100000) : addI (.str a) (.str b) h = some (.ok (.str (a ++ b)), h) := by
  show (if a.length + b.length ≤ lim then M.pure (IV.str (a ++ b)) else stuck) h = _
  rw [if_pos (le_lim e)]; rfl
theorem addI_tup (e : xs.length + ys.length ≤ 100000) : addI (.tup xs) (.tup ys) h = some (Out.ok (IV.tup (xs ++ ys)), h) := by
  show (if xs.length + ys.length ≤ lim then M.pure (IV.tup (xs ++ ys)) else stuck) h = _
  rw [if_pos (le_lim e)]; rfl
theorem mkL_ok (e : xs.length ≤ 100000) : mkL xs h = some (.ok (.ref h.length), h ++ [.lst xs]) := by
  unfold mkL; rw [if_pos (le_lim e)]
theorem addI_lst (e1 : h[m]? = some (.lst xs)) (e2 : h[n]? = some (.lst ys)) (e : xs.length + ys.length ≤ 100000) : addI (.ref m) (.ref n) h = some (.ok (.ref h.length), h ++ [.lst (xs ++ ys)]) := by
  show (match h[m]?, h[n]? with
    | some (.lst xs), some (.lst ys) => mkL (xs ++ ys) h
    | _, _ => none) = _
  simp only [e1, e2]
  exact mkL_ok (by rw [List.length_append]; exact e)
theorem mulI_int (e : mulOk i j = true) : mulI (.int i) (.int j) = M.pure (.int (i * j)) := by
  show (if mulOk i j = true then M.pure (IV.int (i * j)) else stuck) = _
  rw [if_pos e]
theorem intC_ok {c : Int → Int → Bool} {f : Int → Int → IV} (e : c i j = true) : intC c f (.int i) (.int j) h = some (.ok (f i j), h) := by
  show (if c i j = true then M.pure (f i j) else stuck) h = _
  rw [if_pos e]; rfl
theorem modI_ok (e : 0 < j) : modI (.int i) (.int j) h = some (Out.ok (IV.int (i % j)), h) := intC_ok (modOk_of e)
theorem eqI_int : eqI (.int i) (.int j) h = some (.ok (.bl (decide (i = j))), h) := rfl
theorem eqI_str : eqI (.str a) (.str b) h = some (.ok (.bl (decide (a = b))), h) := rfl
theorem len_lst (e : h[n]? = some (.lst xs)) : lenM [.ref n] h = some (Out.ok (IV.int xs.length), h) := by
  show (match h[n]? with
    | some (.lst xs) => some (Out.ok (IV.int xs.length), h)
    | some (.dic kvs) => some (Out.ok (IV.int kvs.length), h)
    | some (.fdc _) => none
    | none => none) = _
  simp only [e]
theorem len_tup : lenM [.tup xs] h = some (Out.ok (IV.int xs.length), h) := rfl
theorem len_fl : lenM [.fl xs] h = some (Out.ok (IV.int xs.length), h) := rfl
theorem len_str (e : s.length ≤ 100000) : lenM [.str s] h = some (Out.ok (IV.int s.length), h) := by
  show (if s.length ≤ lim then some (Out.ok (IV.int s.length), h) else none) = _
  rw [if_pos (le_lim e)]
theorem list_lst (e : h[n]? = some (.lst xs)) (e1 : xs.length ≤ 100000) : listM [.ref n] h = some (.ok (.ref h.length), h ++ [.lst xs]) := by
  show (match (match h[n]? with
    | some (.lst xs) => some xs
    | some (.dic kvs) => some (kvs.map fun kv => match kv.1 with | .inl i => .int i | .inr s => .str s)
    | some (.fdc kvs) => some (kvs.map fun kv => match kv.1 with | .inl i => .int i | .inr s => .str s)
    | none => none) with
    | some xs => mkL xs h
    | none => none) = _
  simp only [e]
  exact mkL_ok e1
theorem list_dic (e : h[n]? = some (.dic kvs)) (e1 : kvs.length ≤ 100000) : listM [.ref n] h = some (.ok (.ref h.length), h ++ [.lst (kvs.map fun kv => match kv.1 with | .inl i => .int i | .inr s => .str s)]) := by
  show (match (match h[n]? with
    | some (.lst xs) => some xs
    | some (.dic kvs) => some (kvs.map fun kv => match kv.1 with | .inl i => .int i | .inr s => .str s)
    | some (.fdc kvs) => some (kvs.map fun kv => match kv.1 with | .inl i => .int i | .inr s => .str s)
    | none => none) with
    | some xs => mkL xs h
    | none => none) = _
  simp only [e]
  exact mkL_ok (by rw [List.length_map]; exact e1)
theorem seq_lst (e : h[n]? = some (.lst xs)) : seqI h (.ref n) = some xs := by
  show (match h[n]? with
    | some (.lst xs) => some xs
    | _ => none) = _
  simp only [e]
theorem lst_lst (e : h[n]? = some (.lst xs)) : lstI h (.ref n) = some xs := by
  show (match h[n]? with
    | some (.lst xs) => some xs
    | _ => none) = _
  simp only [e]
theorem tuple_lst (e : h[n]? = some (.lst xs)) : tupleM [.ref n] h = some (Out.ok (IV.tup xs), h) := by
  show (match seqI h (.ref n) with
    | some xs => some (Out.ok (IV.tup xs), h)
    | none => none) = _
  rw [seq_lst e]
theorem ints_map : ∀ ns : List Int, ints? (ns.map .int) = some ns
  | [] => rfl
  | n :: ns => by show (ints? (ns.map .int)).map (n :: ·) = _; rw [ints_map ns]; rfl
theorem bools_map : ∀ ns : List Bool, bools? (ns.map .bl) = some ns
  | [] => rfl
  | n :: ns => by show (bools? (ns.map .bl)).map (n :: ·) = _; rw [bools_map ns]; rfl
theorem strs_map : ∀ ns : List Str, strs? (ns.map .str) = some ns
  | [] => rfl
  | n :: ns => by show (strs? (ns.map .str)).map (n :: ·) = _; rw [strs_map ns]; rfl
theorem sum_lst {ns : List Int} (e : h[n]? = some (.lst (ns.map .int))) : sumI [.ref n] h = some (Out.ok (IV.int ns.sum), h) := by
  show (match (lstI h (.ref n)).bind ints? with
    | some ns => (some (IV.int ns.sum)).map fun y => (Out.ok y, h)
    | none => none) = _
  rw [lst_lst e, Option.bind_some, ints_map]; rfl
theorem all_lst {ns : List Bool} (e : h[n]? = some (.lst (ns.map .bl))) : allI [.ref n] h = some (.ok (.bl (ns.all id)), h) := by
  show (match (lstI h (.ref n)).bind bools? with
    | some ns => some (Out.ok (IV.bl (ns.all id)), h)
    | none => none) = _
  rw [lst_lst e, Option.bind_some, bools_map]
theorem ix_lst (e : h[n]? = some (.lst xs)) (e1 : atI xs i = some x) : ixM (.ref n) (.int i) h = some (.ok x, h) := by
  show (match h[n]? with
    | some (.lst xs) => ixS h xs (.int i)
    | some (.dic _) => ixD h n (.int i)
    | some (.fdc _) => ixD h n (.int i)
    | none => none) = _
  simp only [e]
  show (match atI xs i with
    | some z => some (Out.ok z, h)
    | none => none) = _
  rw [e1]
theorem ix_tup (e1 : atI xs i = some x) : ixM (.tup xs) (.int i) h = some (.ok x, h) := by
  show (match atI xs i with
    | some z => some (Out.ok z, h)
    | none => none) = _
  rw [e1]
theorem ix_fl (e1 : atI xs i = some x) : ixM (.fl xs) (.int i) h = some (.ok x, h) := by
  show (match atI xs i with
    | some z => some (Out.ok z, h)
    | none => none) = _
  rw [e1]
theorem ix_dic {k : Key} (e : h[n]? = some (.dic kvs)) (e1 : keyI y = some k) (e2 : valI kvs k = some x) : ixM (.ref n) y h = some (.ok x, h) := by
  show (match h[n]? with
    | some (.lst xs) => ixS h xs y
    | some (.dic _) => ixD h n y
    | some (.fdc _) => ixD h n y
    | none => none) = _
  simp only [e]
  unfold ixD
  simp only [e, e1, e2]
theorem ix_str {c : Nat} (e : s.length ≤ 100000) (e1 : atI s.cps.toList i = some c) : ixM (.str s) (.int i) h = some (.ok (.str ⟨#[c]⟩), h) := by
  show (if s.length ≤ lim then (match atI s.cps.toList i with | some c => some (Out.ok (IV.str ⟨#[c]⟩), h) | none => none) else none) = _
  rw [if_pos (le_lim e), e1]
theorem sl_lst {lo hi : Option Int} (e : h[n]? = some (.lst xs)) (e1 : (cutI xs lo hi).length ≤ 100000) : slM (.ref n) lo hi h = some (.ok (.ref h.length), h ++ [.lst (cutI xs lo hi)]) := by
  show (match h[n]? with
    | some (.lst xs) => mkL (cutI xs lo hi) h
    | _ => none) = _
  simp only [e]
  exact mkL_ok e1
theorem app_lst (e : h[n]? = some (.lst xs)) (e1 : xs.length < 100000) : appM (.ref n) [y] h = some (Out.ok IV.non, h.set n (.lst (xs ++ [y]))) := by
  show (match h[n]? with
    | some (.lst xs) => if xs.length < lim then some (Out.ok IV.non, h.set n (.lst (xs ++ [y]))) else none
    | _ => none) = _
  simp only [e]
  rw [if_pos (lt_lim e1)]
theorem popAt_lst (e : h[n]? = some (.lst xs)) (h0 : 0 ≤ i) (h1 : i < xs.length) (h2 : i < 1000000) (e1 : xs[i.toNat]? = some x) : popAtM (.ref n) [.int i] h = some (.ok x, h.set n (.lst (xs.eraseIdx i.toNat))) := by
  show (match h[n]? with
    | some (.lst xs) => if -rngLim ≤ i ∧ i < rngLim then (match seqIndex? i xs.length with
      | some k => match xs[k]? with
        | some y => some (Out.ok y, h.set n (.lst (xs.eraseIdx k)))
        | none => none
      | none => none) else none
    | _ => none) = _
  simp only [e]
  rw [if_pos (rngs (by omega) h2), sq_nn h0 h1]
  simp only [e1]
theorem chk_lst (e : h[n]? = some (.lst xs)) : chkL (.ref n) h = some (Out.ok (), h) := by
  show (match h[n]? with
    | some (.lst _) => some (Out.ok (), h)
    | _ => none) = _
  simp only [e]
theorem src_lst (e : h[n]? = some (.lst xs)) : srcI (.ref n) h = some (Out.ok (SLive n), h) := by
  show (match h[n]? with
    | some (.lst _) => some (Out.ok (SLive n), h)
    | some (.fdc _) => some (Out.ok (SKeys n), h)
    | _ => none) = _
  simp only [e]
theorem slive (e : h[n]? = some (.lst xs)) (i : Nat) : SLive n h i = some xs[i]? := by
  unfold SLive; simp only [e]
theorem enum_lst (e : h[n]? = some (.lst xs)) : enumM [.ref n] h = some (Out.ok (SEnum (SLive n)), h) := by
  show (match h[n]? with
    | some (.lst _) => some (Out.ok (SEnum (SLive n)), h)
    | _ => none) = _
  simp only [e]
theorem rng1_ok {k : Nat} (e : k < 1000000) : rng1 [.int k] h = some (.ok (SRange 0 k), h) := by
  show (if -rngLim ≤ (k : Int) ∧ (k : Int) < rngLim then M.pure (SRange 0 (k : Int).toNat) else stuck) h = _
  rw [if_pos (rngs (by omega) (by omega))]; rfl
theorem srange {k i : Nat} (e : i < k) : SRange 0 k h i = some (some (.int i)) := by
  unfold SRange; rw [if_pos e]; simp
theorem srange_end {k : Nat} : SRange 0 k h k = some none := by unfold SRange; rw [if_neg (Nat.lt_irrefl k)]
end Iv
set_option Elab.async false
set_option linter.all false
set_option maxRecDepth 100000
set_option maxHeartbeats 1000000
set_option autoImplicit false
namespace Iv
open PySem L2
variable {h : IH} {n m : Nat} {xs ys : List IV} {a b s : Str}

/-! ### sorted -/
theorem sort_perm {ds : List PyData} (e : h[n]? = some (.lst xs)) (e1 : xs.mapM (encH h 66) = some ds) (ha : alikeB ds = true) (hs : sortableB ds = true) (hd : (ds.all fun d => decide (d.depth ≤ 60)) = true) (hl : xs.length ≤ 100000) (hz : ds.length = xs.length) :
    ∃ ys, ys.Perm xs ∧ sortM [.ref n] h = some (.ok (.ref h.length), h ++ [.lst ys]) := by
  refine ⟨((xs.zip ds).mergeSort (PySem.W.dataLe false fun p => p.2)).map (·.1), ?_, ?_⟩
  · have p := (List.mergeSort_perm (xs.zip ds) (PySem.W.dataLe false fun p => p.2)).map (·.1)
    have q : (xs.zip ds).map (·.1) = xs := List.map_fst_zip (by omega)
    exact p.trans (by rw [q])
  · show (match lstI h (.ref n) with
      | some xs => match xs.mapM (encH h 66) with
        | some ds => if alikeB ds = true ∧ sortableB ds = true ∧ (ds.all fun d => decide (d.depth ≤ depLim)) = true then mkL (((xs.zip ds).mergeSort (PySem.W.dataLe false fun p : IV × PyData => p.2)).map (fun p : IV × PyData => p.1)) h else none
        | none => none
      | none => none) = _
    have hd2 : (ds.all fun d => decide (d.depth ≤ depLim)) = true := by unfold depLim; exact hd
    rw [lst_lst e]
    simp only [e1]
    rw [if_pos ⟨ha, hs, hd2⟩]
    refine mkL_ok ?_
    rw [List.length_map, (List.mergeSort_perm _ _).length_eq, List.length_zip]
    omega
theorem enc_strs (k : Nat) : ∀ ss : List Str, (ss.map IV.str).mapM (encH h (k + 1)) = some (ss.map PyData.str)
  | [] => rfl
  | s :: ss => by
    show ((IV.str s :: ss.map IV.str).mapM (encH h (k + 1))) = _
    rw [List.mapM_cons, enc_strs k ss]; rfl
theorem alike_strs (ss : List Str) : alikeB (ss.map PyData.str) = true := by
  unfold alikeB
  rw [List.all_eq_true]
  intro d hd
  rw [List.all_eq_true]
  intro e he
  obtain ⟨x, _, rfl⟩ := List.mem_map.mp hd
  obtain ⟨y, _, rfl⟩ := List.mem_map.mp he
  rfl
theorem sort_strs {ss : List Str} (e : h[n]? = some (.lst (ss.map .str))) (hl : ss.length ≤ 100000) :
    ∃ zs : List Str, zs.Perm ss ∧ sortM [.ref n] h = some (.ok (.ref h.length), h ++ [.lst (zs.map .str)]) := by
  obtain ⟨ys, p, q⟩ := sort_perm e (enc_strs 65 ss) (alike_strs ss) (by
      unfold sortableB
      rw [Bool.or_eq_true]; right
      rw [List.all_eq_true]
      intro d hd
      obtain ⟨x, _, rfl⟩ := List.mem_map.mp hd
      rfl) (by
      rw [List.all_eq_true]
      intro d hd
      obtain ⟨x, _, rfl⟩ := List.mem_map.mp hd
      rfl) (by simpa using hl) (by simp)
  have hm : ∀ y ∈ ys, ∃ s, y = IV.str s := fun y hy => by
    obtain ⟨s, _, e⟩ := List.mem_map.mp (p.mem_iff.mp hy)
    exact ⟨s, e.symm⟩
  have : ∃ zs : List Str, ys = zs.map .str := by
    clear p q
    induction ys with
    | nil => exact ⟨[], rfl⟩
    | cons y ys ih =>
      obtain ⟨s, rfl⟩ := hm y (by simp)
      obtain ⟨zs, rfl⟩ := ih fun y hy => hm y (by simp [hy])
      exact ⟨s :: zs, rfl⟩
  obtain ⟨zs, rfl⟩ := this
  refine ⟨zs, ?_, q⟩
  have f : ∀ l : List Str, (l.map IV.str).filterMap (fun x => match x with | .str s => some s | _ => none) = l := fun l => by
    rw [List.filterMap_map]
    have : ((fun x => match x with | IV.str s => some s | _ => none) ∘ IV.str) = fun s : Str => some s := by funext s; rfl
    rw [this, List.filterMap_some]
  have := p.filterMap (fun x => match x with | .str s => some s | _ => none)
  rwa [f, f] at this

/-! ### words -/
theorem str_ext {a b : Str} (e : a.cps.toList = b.cps.toList) : a = b := by
  cases a; cases b
  simp at e
  rw [show (Str.mk _) = _ from rfl]
  congr
theorem str_app (a b : Str) : (a ++ b).cps.toList = a.cps.toList ++ b.cps.toList := by
  show (a.cps ++ b.cps).toList = _
  simp
theorem str_len (a : Str) : a.length = a.cps.toList.length := by
  show a.cps.size = _
  simp
theorem app_len (a b : Str) : (a ++ b).length = a.length + b.length := by rw [str_len, str_app, List.length_append, ← str_len, ← str_len]
theorem glued_go (g : Str) (hg : g.cps.toList = []) : ∀ (l : List Str) (acc : Array Nat), (l.foldl (fun acc p => acc ++ g.cps ++ p.cps) acc).toList = acc.toList ++ (l.map fun s => s.cps.toList).flatten
  | [], acc => by simp
  | s :: l, acc => by
    rw [List.foldl_cons, glued_go g hg l]
    simp [hg]
/-- ''.join(..) -/
theorem join_empty (g : Str) (hg : g.cps.toList = []) (l : List Str) : (Txt.join g l).cps.toList = (l.map fun s => s.cps.toList).flatten := by
  show ((l.drop 1).foldl (fun acc p => acc ++ g.cps ++ p.cps) (l.headD Str.empty).cps).toList = _
  rw [glued_go g hg]
  cases l with
  | nil => rfl
  | cons s l => rfl
theorem join_lst {g : Str} {zs : List Str} (hg : g.length = 0) (e : h[n]? = some (.lst (zs.map .str))) (hl : (zs.map (·.length)).sum ≤ 100000) : joinM (.str g) [.ref n] h = some (.ok (.str (Txt.join g zs)), h) := by
  show (match (seqI h (.ref n)).bind strs? with
    | some zs => if (zs.map (fun s : Str => s.length)).sum + zs.length * g.length ≤ lim then some (Out.ok (IV.str (Txt.join g zs)), h) else none
    | none => none) = _
  rw [seq_lst e, Option.bind_some, strs_map]
  simp only [hg, Nat.mul_zero, Nat.add_zero]
  rw [if_pos (le_lim hl)]
theorem sl_str {lo hi : Option Int} (e : s.length ≤ 100000) : slM (.str s) lo hi h = some (.ok (.str (cutS s lo hi)), h) := by
  show (if s.length ≤ lim then some (Out.ok (IV.str (cutS s lo hi)), h) else none) = _
  rw [if_pos (le_lim e)]
theorem cutI_to {k : Nat} : cutI xs none (some (k : Int)) = xs.take k := by
  unfold cutI
  rw [HT.sIx_nat]
  show (xs.drop 0).take (min k xs.length - 0) = _
  rw [List.drop_zero, Nat.sub_zero]
  rcases Nat.le_total k xs.length with c | c
  · rw [Nat.min_eq_left c]
  · rw [Nat.min_eq_right c, List.take_length, List.take_of_length_le c]
theorem cutI_from {k : Nat} : cutI xs (some (k : Int)) none = xs.drop k := by
  unfold cutI
  rw [HT.sIx_nat]
  show (xs.drop (min k xs.length)).take (xs.length - min k xs.length) = _
  rcases Nat.le_total k xs.length with c | c
  · rw [Nat.min_eq_left c, List.take_of_length_le (by simp)]
  · rw [Nat.min_eq_right c]; simp [List.drop_of_length_le c]
theorem cutS_to {k : Nat} : (cutS s none (some (k : Int))).cps.toList = s.cps.toList.take k := by
  unfold cutS
  rw [HT.sIx_nat]
  show ((s.cps.toList.drop 0).take (min k s.length - 0)).toArray.toList = _
  rw [List.drop_zero, Nat.sub_zero, str_len]
  rcases Nat.le_total k s.cps.toList.length with c | c
  · rw [Nat.min_eq_left c]
  · rw [Nat.min_eq_right c, List.take_length, List.take_of_length_le c]
theorem cutS_from {k : Nat} : (cutS s (some (k : Int)) none).cps.toList = s.cps.toList.drop k := by
  unfold cutS
  rw [HT.sIx_nat, str_len]
  show ((s.cps.toList.drop (min k s.cps.toList.length)).take (s.cps.toList.length - min k s.cps.toList.length)).toArray.toList = _
  rcases Nat.le_total k s.cps.toList.length with c | c
  · rw [Nat.min_eq_left c, List.take_of_length_le (by simp)]
  · rw [Nat.min_eq_right c]; simp [List.drop_of_length_le c]
end Iv
set_option Elab.async false
set_option linter.all false
set_option maxRecDepth 100000
set_option maxHeartbeats 1000000
set_option autoImplicit false
namespace Iv
open PySem L2
/-! rules that run a mirror part by part: their parts are variables, so the kernel never evaluates a loop -/
variable {a b o : Env → M IV} {r : Env → M (List IV)} {c d : Env → M Bool} {s t : Env → M Fl} {env : Env} {h h1 h2 h3 : IH} {x y : IV} {xs : List IV} {n : Nat} {k : Bool}
theorem cons_ok (e1 : a env h = some (.ok x, h1)) (e2 : r env h1 = some (.ok xs, h2)) : Cons a r env h = some (.ok (x :: xs), h2) := by
  unfold Cons; exact (bind_ok e1).trans (bind_ok e2)
theorem nil_ok : Nil env h = some (.ok [], h) := rfl
theorem one_ok (e1 : a env h = some (.ok x, h1)) : Cons a Nil env h = some (.ok [x], h1) := cons_ok e1 nil_ok
theorem two_ok (e1 : a env h = some (.ok x, h1)) (e2 : b env h1 = some (.ok y, h2)) : Cons a (Cons b Nil) env h = some (.ok [x, y], h2) := cons_ok e1 (one_ok e2)
theorem bin_ok {g : IV → IV → M IV} {z : Option (Out IV × IH)} (e1 : a env h = some (.ok x, h1)) (e2 : b env h1 = some (.ok y, h2)) (e3 : g x y h2 = z) : Bin g a b env h = z := by
  unfold Bin; exact (bind_ok e1).trans ((bind_ok e2).trans e3)
theorem un_ok {g : IV → M IV} {z : Option (Out IV × IH)} (e1 : a env h = some (.ok x, h1)) (e3 : g x h1 = z) : Un g a env h = z := by
  unfold Un; exact (bind_ok e1).trans e3
theorem callB_ok {g : List IV → M IV} {z : Option (Out IV × IH)} (e1 : r env h = some (.ok xs, h1)) (e2 : g xs h1 = z) : CallB g r env h = z := by
  unfold CallB; exact (bind_ok e1).trans e2
theorem callF_ok {F : List IV → M IV} (e1 : r env h = some (.ok xs, h1)) (e2 : xs.length = n) (e3 : F xs h1 = some (.ok y, h2)) : CallF n F r env h = some (.ok y, h2) := by
  unfold CallF
  refine (bind_ok e1).trans ?_
  rw [if_pos e2]; exact noex_ok e3
theorem iterA_ok {g : List IV → M Src} {z : Option (Out Src × IH)} (e1 : r env h = some (.ok xs, h1)) (e2 : g xs h1 = z) : IterA g r env h = z := by
  unfold IterA; exact (bind_ok e1).trans e2
theorem iter_ok {z : Option (Out Src × IH)} (e1 : a env h = some (.ok x, h1)) (e2 : srcI x h1 = z) : Iter a env h = z := by
  unfold Iter; exact (bind_ok e1).trans e2
theorem mth_ok {chk : IV → M Unit} {g : IV → List IV → M IV} {z : Option (Out IV × IH)} (e1 : o env h = some (.ok x, h1)) (e2 : chk x h1 = some (.ok (), h2)) (e3 : r env h2 = some (.ok xs, h3)) (e4 : g x xs h3 = z) : Mth chk g o r env h = z := by
  unfold Mth; exact (bind_ok e1).trans ((bind_ok e2).trans ((bind_ok e3).trans e4))
theorem tst_ok (e : a env h = some (.ok (.bl k), h1)) : Tst a env h = some (.ok k, h1) := by
  unfold Tst; exact (bind_ok e).trans rfl
theorem tru_ok {z : Option (Out Bool × IH)} (e : a env h = some (.ok x, h1)) (e2 : truM x h1 = z) : Tru a env h = z := by
  unfold Tru; exact (bind_ok e).trans e2
theorem not_ok (e : c env h = some (.ok k, h1)) : NotT c env h = some (.ok (!k), h1) := by
  unfold NotT; exact (bind_ok e).trans rfl
theorem and_tt {z : Option (Out Bool × IH)} (e : c env h = some (.ok true, h1)) (e2 : d env h1 = z) : AndT c d env h = z := by
  unfold AndT; exact (bind_ok e).trans (by rw [if_pos rfl]; exact e2)
theorem and_ff (e : c env h = some (.ok false, h1)) : AndT c d env h = some (.ok false, h1) := by
  unfold AndT; exact (bind_ok e).trans rfl
theorem ifS_tt {z : Option (Out Fl × IH)} (e : c env h = some (.ok true, h1)) (e2 : s env h1 = z) : IfS c s t env h = z := by
  unfold IfS; exact (bind_ok e).trans (by rw [if_pos rfl]; exact e2)
theorem ifS_ff {z : Option (Out Fl × IH)} (e : c env h = some (.ok false, h1)) (e2 : t env h1 = z) : IfS c s t env h = z := by
  unfold IfS; exact (bind_ok e).trans e2
theorem ifE_tt {z : Option (Out IV × IH)} (e : c env h = some (.ok true, h1)) (e2 : a env h1 = z) : IfE c a b env h = z := by
  unfold IfE; exact (bind_ok e).trans (by rw [if_pos rfl]; exact e2)
theorem ifE_ff {z : Option (Out IV × IH)} (e : c env h = some (.ok false, h1)) (e2 : b env h1 = z) : IfE c a b env h = z := by
  unfold IfE; exact (bind_ok e).trans e2
theorem seq_nx {env2 : Env} (e : s env h = some (.ok (.nx env2), h1)) : SeqS s t env h = t env2 h1 := by
  unfold SeqS; exact (bind_ok e).trans rfl
theorem seq_rt (e : s env h = some (.ok (.rt x), h1)) : SeqS s t env h = some (.ok (.rt x), h1) := by
  unfold SeqS; exact (bind_ok e).trans rfl
theorem asg_ok {i : Nat} (e : a env h = some (.ok x, h1)) : AsgS a (TgN i) env h = some (.ok (.nx (env.set i (some x))), h1) := by
  unfold AsgS; exact (bind_ok e).trans rfl
theorem asgT_ok {g : MTg} {env2 : Env} (e : a env h = some (.ok x, h1)) (e2 : g x env h1 = some (.ok env2, h2)) : AsgS a g env h = some (.ok (.nx env2), h2) := by
  unfold AsgS; exact (bind_ok e).trans (bind_ok e2)
theorem drop_ok (e : a env h = some (.ok x, h1)) : DropS a env h = some (.ok (.nx env), h1) := by
  unfold DropS; exact (bind_ok e).trans rfl
theorem ret_ok (e : a env h = some (.ok x, h1)) : RetS a env h = some (.ok (.rt x), h1) := by
  unfold RetS; exact (bind_ok e).trans rfl
theorem fn_rt (e : s (xs.map some ++ List.replicate (n - xs.length) none) h = some (.ok (.rt x), h1)) : Fn n s xs h = some (.ok x, h1) := by
  unfold Fn; exact (bind_ok e).trans rfl
theorem tup_ok (e : r env h = some (.ok xs, h1)) (e2 : xs.length ≤ 100000) : Tup r env h = some (.ok (.tup xs), h1) := by
  unfold Tup; refine (bind_ok e).trans ?_
  rw [if_pos (le_lim e2)]; rfl
theorem lst_ok2 {z : Option (Out IV × IH)} (e : r env h = some (.ok xs, h1)) (e2 : mkL xs h1 = z) : Lst r env h = z := by
  unfold Lst; exact (bind_ok e).trans e2
theorem sl_to {j : Int} {z : Option (Out IV × IH)} (e : o env h = some (.ok x, h1)) (e1 : a env h1 = some (.ok (.int j), h2)) (e2 : slM x none (some j) h2 = z) : Sl o NoO (SoO a) env h = z := by
  have q : SoO a env h1 = some (.ok (some j), h2) := by unfold SoO; exact (bind_ok e1).trans rfl
  unfold Sl; exact (bind_ok e).trans ((bind_ok (m := NoO env) rfl).trans ((bind_ok q).trans e2))
theorem sl_from {j : Int} {z : Option (Out IV × IH)} (e : o env h = some (.ok x, h1)) (e1 : a env h1 = some (.ok (.int j), h2)) (e2 : slM x (some j) none h2 = z) : Sl o (SoO a) NoO env h = z := by
  have q : SoO a env h1 = some (.ok (some j), h2) := by unfold SoO; exact (bind_ok e1).trans rfl
  unfold Sl; exact (bind_ok e).trans ((bind_ok q).trans ((bind_ok (m := NoO env) rfl).trans e2))
theorem lt_int {i j : Int} : ltI (.int i) (.int j) h = some (.ok (.bl (decide (i < j))), h) := rfl
end Iv
set_option Elab.async false
set_option linter.all false
set_option maxRecDepth 100000
set_option maxHeartbeats 2000000
set_option autoImplicit false
/-! a dict that is walked is locked meanwhile -/
namespace Iv
open PySem L2
variable [KL]
/-- m, with the dict of slot i locked, if there is one -/
def lockM {α : Type} (i : Nat) (m : Env → M α) : Env → M α := fun env h => match env[i]? with
  | some (some (.ref n)) => match h[n]? with
    | some (.dic kvs) => (match m env (h.set n (.fdc kvs)) with
      | some (.ok f, h2) => (match h2[n]? with
        | some (.fdc kvs2) => some (.ok f, h2.set n (.dic kvs2))
        | _ => none)
      | _ => none)
    | _ => m env h
  | _ => m env h
section
variable {X : Cx} {W : ExW}
theorem PS.or {st : Stmt} {t t' : TS} (h : PS X st t) (h' : PS X st t') : PS X st (fun D σ H => t D σ H ∨ t' D σ H) := ⟨fun pins s σ H D I q => q.elim (h.run pins s σ H D I) (h'.run pins s σ H D I)⟩
/-- relations that outlive a change of a tracked object -/
def Lasts {α β : Type} (rel : List Addr → Hp → β → α → Prop) : Prop := ∀ (ι : List Addr) (h : IH) (H : Hp) (a : Addr) (o : HO) (v : β) (x : α), Rel ι h H → a ∈ ι → rel ι H v x → rel ι (upd H a o) v x
theorem lasts_rv : Lasts RV := fun _ _ _ _ _ _ _ R ha r => R.monok (fk_set ha) r
theorem lasts_fl : Lasts RFl := fun _ _ _ _ _ _ _ R ha r => by
  cases r with
  | nx s => exact .nx (s.monok R (fk_set ha))
  | rt s => exact .rt (R.monok (fk_set ha) s)
  | bk s => exact .bk (s.monok R (fk_set ha))
  | ct s => exact .ct (s.monok R (fk_set ha))
/-- what a locked run is -/
theorem lock_run {α β : Type} {rel : List Addr → Hp → β → α → Prop} (L : Lasts rel) {i : Nat} {m : Env → M α} {ι : List Addr} {h : IH} {H : Hp} {σ : L2.St} {env : Env} {Q : β → Hp → Prop} (R : Rel ι h H) (S : RSt ι H σ env) (r : Run W rel (lockM i m env h) ι H Q) :
    (∃ (a : Addr) (ks : List (Key × V)), H a = some (.dK ks) ∧ ∀ od, ∃ ι h env, Rel ι h (upd H a (.frz od (.dK ks))) ∧ RSt ι (upd H a (.frz od (.dK ks))) σ env ∧ Run W rel (m env h) ι (upd H a (.frz od (.dK ks))) fun v H' => H' a = some (.frz od (.dK ks)) ∧ Q v (upd H' a (.dK ks))) ∨
    Run W rel (m env h) ι H Q := by
  have r0 : Run W rel (match env[i]? with
    | some (some (.ref n)) => match h[n]? with
      | some (.dic kvs) => (match m env (h.set n (.fdc kvs)) with
        | some (.ok f, h2) => (match h2[n]? with
          | some (.fdc kvs2) => some (.ok f, h2.set n (.dic kvs2))
          | _ => none)
        | _ => none)
      | _ => m env h
    | _ => m env h) ι H Q := r
  split at r0
  · rename_i n e1
    split at r0
    · rename_i kvs e2
      left
      obtain ⟨v, e3, rv⟩ := S.2 i _ e1
      obtain ⟨a, ks, z1, ea, eH, rk⟩ := R.dic rv e2
      have ha := List.mem_of_getElem? ea
      refine ⟨a, ks, eH, fun od => ?_⟩
      have R1 : Rel ι (h.set n (.fdc kvs)) (upd H a (.frz od (.dK ks))) := R.set ea (u := .fdc kvs) ⟨od, ks, upd_same, RKs.monok R (fk_set ha) rk⟩
      refine ⟨ι, _, env, R1, S.monok R (fk_set ha), ?_⟩
      generalize m env (h.set n (.fdc kvs)) = o at r0 ⊢
      match o, r0 with
      | none, r0 => exact r0.elim
      | some (.ex _, _), r0 => exact r0.elim
      | some (.ok f, h2), r0 =>
        intro ι' H' v R' F' rf
        have ea' := pre_get F'.pre ea
        have eH' := F'.frz a od _ upd_same
        have r1 : Run W rel (match h2[n]? with
          | some (.fdc kvs2) => some (.ok f, h2.set n (.dic kvs2))
          | _ => none) ι H Q := r0
        split at r1
        · rename_i kvs2 e4
          obtain ⟨a', ob', ks', z2, _, e5, rk'⟩ := R'.fdc (.ref ea') e4
          cases z2
          rw [eH'] at e5
          cases e5
          have hm := List.mem_of_getElem? ea'
          have R2 : Rel ι' (h2.set n (.dic kvs2)) (upd H' a (.dK ks)) := R'.set ea' (u := .dic kvs2) ⟨ks, upd_same, RKs.monok R' (fk_set hm) rk'⟩
          have F2 : Fr ι H ι' (upd H' a (.dK ks)) := ⟨⟨F'.pre, fun b u e nb => by
            have hb : b ≠ a := fun z => nb (by rw [z]; exact ha)
            obtain ⟨q1, q2⟩ := F'.keep b u (by rw [upd_ne hb]; exact e) nb
            exact ⟨by rw [upd_ne hb]; exact q1, q2⟩⟩, fun b u w e => by
            have hb : b ≠ a := fun z => by rw [z, eH] at e; cases e
            rw [upd_ne hb]
            exact F'.frz b u w (by rw [upd_ne hb]; exact e)⟩
          exact ⟨eH', r1 ι' _ v R2 F2 (L _ _ _ _ _ _ _ R' hm rf)⟩
        · exact r1.elim
    · exact .inr r0
  · exact .inr r0
theorem psi_lock (i : Nat) {st : Stmt} {m : Env → M Fl} (h : PSI X W st m) : PSI X W st (lockM i m) := by
  refine PS.weak (PS.or (ps_lock h) h) fun D σ H ⟨ι, hp, env, R, S, r⟩ => ?_
  rcases lock_run lasts_fl R S r with ⟨a, ks, eH, k⟩ | r
  · refine .inl ⟨a, .dK ks, eH, trivial, fun od => ?_⟩
    obtain ⟨ι1, h1, env1, R1, S1, r1⟩ := k od
    refine ⟨ι1, h1, env1, R1, S1, r1.mono fun f H' q => ?_⟩
    cases f <;> exact q
  · exact .inr ⟨ι, hp, env, R, S, r⟩
theorem pei_lock (i : Nat) {e : Expr} {m : Env → M IV} (h : PEI X W e m) : PEI X W e (lockM i m) := by
  refine PE.weak (PE.or (pe_lock h) h) fun σ H Q ⟨ι, hp, env, R, S, r⟩ => ?_
  rcases lock_run lasts_rv R S r with ⟨a, ks, eH, k⟩ | r
  · exact .inl ⟨a, .dK ks, eH, trivial, fun od => k od⟩
  · exact .inr ⟨ι, hp, env, R, S, r⟩
end
end Iv
set_option Elab.async false
set_option linter.all false
set_option maxRecDepth 100000
set_option maxHeartbeats 2000000
set_option autoImplicit false
/-! more of Python: tests of texts, tuple(text), list * int, dict(pairs), reversed(range(..)), max(.., default=..) -/
namespace Iv
open PySem L2 PyProof.Rows
variable [KL]
section
variable {X : Cx} {W : ExW} {e e2 o : Expr} {es : List Expr} {ma : Env → M (List IV)} {m n mo : Env → M IV} {pos p apos : Pos} {ι : List Addr} {h : IH} {H : Hp}
/-! s.isascii(), s.isalpha(), s.islower() -/
def tstB (f : Str → Bool) : IV → List IV → M IV := fun x ys => match x, ys with
  | .str a, [] => M.pure (.bl (f a))
  | _, _ => stuck
theorem rm_tst (f : Str → Bool) : RMt W (fun x xs H Q => ∃ a, x = V.str a ∧ xs = [] ∧ True ∧ Q (.bl (f a)) H) (tstB f) := by
  intro ι h H v x vs xs Q R rv rs r
  cases rv with
  | str a =>
    cases rs with
    | nil => exact ⟨a, rfl, rfl, trivial, run_pure (x := IV.bl _) r R (.bl _)⟩
    | cons _ _ => exact r.elim
  | _ => exact r.elim
theorem pei_isascii (ho : PEI X W o mo) (hbase : attributeBase o "isascii" X.env (eval o X.env) = eval o X.env := by rfl) (hline : (apos.endLine == pos.line) = true := by rfl) : PEI X W (.Call (.Attribute o "isascii" apos) [] [] pos) (Mth chkS (tstB Txt.isascii) mo Nil) :=
  pei_mth0 (fun R rv r => chkS_ok rv r) (rm_tst _) PySem.F.plainAttrs_str PySem.F.slot_str_isascii PySem.F.type_str_isascii mt_isascii ho hbase hline
theorem pei_isalpha (ho : PEI X W o mo) (hbase : attributeBase o "isalpha" X.env (eval o X.env) = eval o X.env := by rfl) (hline : (apos.endLine == pos.line) = true := by rfl) : PEI X W (.Call (.Attribute o "isalpha" apos) [] [] pos) (Mth chkS (tstB Txt.isalpha) mo Nil) :=
  pei_mth0 (fun R rv r => chkS_ok rv r) (rm_tst _) PySem.F.plainAttrs_str PySem.F.slot_str_isalpha PySem.F.type_str_isalpha mt_isalpha ho hbase hline
theorem pei_islower (ho : PEI X W o mo) (hbase : attributeBase o "islower" X.env (eval o X.env) = eval o X.env := by rfl) (hline : (apos.endLine == pos.line) = true := by rfl) : PEI X W (.Call (.Attribute o "islower" apos) [] [] pos) (Mth chkS (tstB Txt.islower) mo Nil) :=
  pei_mth0 (fun R rv r => chkS_ok rv r) (rm_tst _) PySem.F.plainAttrs_str PySem.F.slot_str_islower PySem.F.type_str_islower mt_islower ho hbase hline
/-! xs * k, xs a list -/
def repI : IV → IV → M IV := fun x y h => match x, y with
  | .ref n, .int k => match h[n]? with
    | some (.lst xs) => if -rngLim ≤ k ∧ k < rngLim ∧ xs.length * k.toNat ≤ lim then mkL (List.replicate k.toNat xs).flatten h else none
    | _ => none
  | _, _ => none
theorem RVs.rep {vs : List V} {xs : List IV} (r : RVs ι H vs xs) : ∀ k : Nat, RVs ι H (List.replicate k vs).flatten (List.replicate k xs).flatten
  | 0 => .nil
  | k + 1 => by
    rw [List.replicate_succ, List.replicate_succ, List.flatten_cons, List.flatten_cons]
    exact r.append (RVs.rep r k)
theorem ri_rep : RI2 W rRep repI := by
  intro ι h H v w x y Q R rv rw r
  cases rv with
  | @ref n a ea =>
    cases rw with
    | int k =>
      have r' : Run W RV (match h[n]? with
        | some (.lst xs) => if -rngLim ≤ k ∧ k < rngLim ∧ xs.length * k.toNat ≤ lim then mkL (List.replicate k.toNat xs).flatten h else none
        | _ => none) ι H Q := r
      split at r'
      · rename_i xs e1
        split at r'
        · rename_i hk
          obtain ⟨a', vs, q1, _, q2, rs⟩ := R.lst (.ref ea) e1
          cases q1
          have b1 : -(2 ^ 63 : Int) ≤ k := by have := hk.1; unfold rngLim at this; omega
          have b2 : k < (2 ^ 63 : Int) := by have := hk.2.1; unfold rngLim at this; omega
          exact ⟨_, k, vs, rfl, rfl, q2, b1, b2, by rw [rs.length]; exact sz_of hk.2.2, (new_lst R (rs.rep k.toNat) r').2⟩
        · exact r'.elim
      · exact r'.elim
    | _ => exact r.elim
  | _ => exact r.elim
theorem pei_rep (ha : PEI X W e m) (hb : PEI X W e2 n) : PEI X W (.BinOp e .Mult e2 pos) (Bin repI m n) := pei_op ri_rep op_rep ha hb
/-! tuple(text) -/
def signsV (s : Str) : List V := s.cps.toList.map fun c => .str ⟨#[c]⟩
def tupStrM : List IV → M IV
  | [.str s] => if s.length ≤ lim then M.pure (.tup (s.cps.toList.map fun c => .str ⟨#[c]⟩)) else stuck
  | _ => stuck
theorem vals_signs {x : Str} : ∀ {us : List Value} {cs : List Nat}, us.length = cs.length → (∀ (j : Nat) (v : Value), us[j]? = some v → ∃ c u, cs[j]? = some c ∧ v = .str ⟨#[c]⟩ u) → Vals (cs.map fun c => V.str ⟨#[c]⟩) us
  | [], [], _, _ => .nil
  | u :: us, c :: cs, hl, k => by
    refine .cons ?_ (vals_signs (x := x) (by simpa using hl) fun j v e => by simpa using k (j + 1) v (by simpa using e))
    obtain ⟨c', t, e1, e2⟩ := k 0 u rfl
    simp at e1
    subst e1
    exact ⟨t, e2⟩
  | [], _ :: _, hl, _ => by simp at hl
  | _ :: _, [], hl, _ => by simp at hl
theorem call_tupleS (hc : X.calm = true) : CallR X (.type "tuple") (fun xs H Q => ∃ s : Str, xs = [.str s] ∧ s.length ≤ lim ∧ ∀ l, H l = none → Q (.ref l) (upd H l (.tup (signsV s)))) := by
  intro pins s σ H vs us Q I r hh
  obtain ⟨x, rfl, hl, q⟩ := hh
  cases r with
  | cons ru rn =>
    cases rn
    obtain ⟨t, rfl⟩ := ru
    have hl2 : x.cps.size ≤ 100000 := by have := hl; rw [lim_eq] at this; exact this
    refine PySem.call_tuple_str (I.ok.hd hc) x t (fun h' tk acc k ia => ?_) (Nat.le_trans hl2 (by rw [sizeLine_eq]; decide))
    have I1 : Inv X pins σ H { s with heap := h', toks := tk } := I.kept k
    have hv : Vals (signsV x) acc.toList := vals_signs (x := x) (by rw [Array.length_toList, Array.length_toList]; exact ia.1) fun j v e => by
      obtain ⟨c, u, e1, e2⟩ := ia.2 j v (by simpa using e)
      exact ⟨c, u, by simpa using e1, e2⟩
    refine ⟨.ref _, _, I1.laid (t' := tk) (o := .tup (signsV x)) (fun b ob z => Heap.get?_push_of_some _ z) (Nat.le_refl _) ?_, rfl, q _ (I1.hok.fresh (Nat.le_refl _))⟩
    refine ⟨?_, acc.toList, hv, ?_⟩
    · unfold signsV
      rw [List.length_map, Array.length_toList]
      exact Nat.le_trans hl2 (by rw [sizeLine_eq]; decide)
    · exact ⟨_, Heap.get?_push_size _ rfl, rfl, 0, by simp⟩
theorem RVs.signs (s : Str) : RVs ι H (signsV s) (s.cps.toList.map fun c => .str ⟨#[c]⟩) := by
  unfold signsV
  generalize s.cps.toList = l
  induction l with
  | nil => exact .nil
  | cons c l ih => exact .cons (.str _) ih
theorem ri_tupStr : RIL W (fun xs H Q => ∃ s : Str, xs = [.str s] ∧ s.length ≤ lim ∧ ∀ l, H l = none → Q (.ref l) (upd H l (.tup (signsV s)))) tupStrM := by
  intro ι h H vs xs Q R rs r
  cases rs with
  | nil => exact r.elim
  | @cons v x _ _ rv rs =>
    cases rs with
    | cons _ _ => cases rv <;> exact r.elim
    | nil =>
      cases rv with
      | str s =>
        have r' : Run W RV (if s.length ≤ lim then some (.ok (.tup (s.cps.toList.map fun c => .str ⟨#[c]⟩)), h) else none) ι H Q := by
          have : (if s.length ≤ lim then M.pure (IV.tup (s.cps.toList.map fun c => .str ⟨#[c]⟩)) else stuck) h = (if s.length ≤ lim then some (.ok (.tup (s.cps.toList.map fun c => .str ⟨#[c]⟩)), h) else none) := by split <;> rfl
          rw [← this]; exact r
        split at r'
        · rename_i hl
          exact ⟨s, rfl, hl, fun l hn => r' ι _ _ (R.new hn) (fr_new hn) (.tup upd_same (RVs.signs s))⟩
        · exact r'.elim
      | _ => exact r.elim
theorem pei_tupStr (hc : X.calm = true) (hm : X.mg "tuple" = none) (ha : PAI X W [e] ma) (hg : Gl X "tuple" := by rfl) (he : starEach [e] X.env = (false, eval e X.env) :: starEach [] X.env := by rfl) : PEI X W (.Call (.Name "tuple" p) [e] [] pos) (CallB tupStrM ma) :=
  pei_callT ri_tupStr (call_tupleS hc) hm (by decide +kernel) ha hg (by decide) (by decide) he
/-! max(xs, default=d) -/
def maxDM : List IV → IV → M IV
  | [.ref n], d => fun h => match h[n]? with
    | some (.lst xs) => match ints? xs with
      | some [] => some (.ok d, h)
      | some (i :: is) => some (.ok (.int (maxL (i :: is))), h)
      | none => none
    | _ => none
  | _, _ => stuck
theorem maxL_fold (n : Int) (r : List Int) : r.foldl max n = maxL (n :: r) := by
  have f : (fun a b : Int => if a < b then b else a) = max := by
    funext a b
    rcases Int.lt_or_le a b with h | h
    · rw [if_pos h]; omega
    · rw [if_neg (by omega)]; omega
  unfold maxL
  rw [f, List.foldl_cons]
  show _ = r.foldl max (max n n)
  rw [Int.max_self]
def rMaxDf (K : PySem.W.Frag) : List V → List V → Hp → VK → Prop := fun xs zs H Q => ∃ (a : Addr) (ns : List Int) (d : V), xs = [.ref a] ∧ zs = [d] ∧ SqL K H a (ns.map V.int) ∧ (ns = [] → Q d H) ∧ ∀ n r, ns = n :: r → Q (.int (maxL (n :: r))) H
theorem reads_ints (hp : Heap) : ∀ {ns : List Int} {us : List Value}, Vals (ns.map V.int) us → ∃ as, ReadsAll hp us (ns.map PyData.int) as
  | [], _, .nil => ⟨_, .nil⟩
  | n :: ns, _, .cons ru r => by
    obtain ⟨as, q⟩ := reads_ints hp (ns := ns) r
    obtain ⟨t, rfl⟩ := ru
    exact ⟨_, .cons (.int n t) q⟩
theorem depth_ints : ∀ ns : List Int, PyData.depthAll (ns.map PyData.int) = 0
  | [] => rfl
  | n :: ns => by
    have := depth_ints ns
    simp [PyData.depthAll, PyData.depth, this]
theorem call_maxDf (hc : X.calm = true) (hu : X.A.units + 65 < cLine) : CallRK X (.builtin "max") ["default"] (rMaxDf X.K) := by
  intro pins s σ H xs zs us ws Q I r1 r2 hh
  obtain ⟨a, ns, d, rfl, rfl, hs, q0, q1⟩ := hh
  obtain ⟨its, rv, hl, _⟩ := I.list hs
  rw [Vals.ref1 r1]
  cases r2 with
  | cons rd rn =>
    rename_i dv _
    cases rn
    obtain ⟨as, ra⟩ := reads_ints s.heap rv
    have ra' : ReadsAll s.heap its.toArray.toList (ns.map PyData.int) as := by simpa using ra
    show wpAny _ _ (call (.builtin "max") [.ref a] [(Str.ofString "default", dv)]) _ _ _
    refine PySem.W.max_list_default (I.ok.hd hc) hl.isList ra' ?_ ?_ (fun e h' tk k => ⟨d, H, I.kept k, rd, q0 (List.map_eq_nil_iff.mp e)⟩) fun y ys i v h' tk bs e hi r k => ?_
    · refine ⟨fun x hx z hz => ?_, fun x hx => ?_⟩
      · obtain ⟨i, _, rfl⟩ := List.mem_map.mp hx
        obtain ⟨j, _, rfl⟩ := List.mem_map.mp hz
        simp [PySem.W.alike]
      · obtain ⟨i, _, rfl⟩ := List.mem_map.mp hx
        exact fun z => nomatch z
    · rw [depth_ints]; omega
    · cases ns with
      | nil => cases e
      | cons n nr =>
        rw [List.map_cons] at e
        injection e with e1 e2
        subst e1; subst e2
        rw [PySem.W.maxD_ints, maxL_fold] at r
        cases r with
        | int _ t => exact ⟨.int _, H, I.kept k, ⟨t, rfl⟩, q1 n nr rfl⟩
def MaxDf (a : Env → M (List IV)) (d : Env → M IV) : Env → M IV := fun env => M.bind (a env) fun xs => M.bind (d env) fun y => maxDM xs y
theorem pei_maxDf (hc : X.calm = true) (hu : X.A.units + 65 < cLine) (hm : X.mg "max" = none) (ha : PAI X W [e] ma) (hd : PEI X W e2 n) {kpos : Pos} (hg : Gl X "max" := by rfl)
    (he : backTo pos (starEach [e] X.env) = (false, eval e X.env) :: backTo pos (starEach [] X.env) := by rfl) (hpl : (backTo pos (starEach [e] X.env)).any (·.1) = false := by rfl)
    (hall : (backToKw pos (keywordEach [⟨some ("default" : Str), e2, kpos⟩] X.env)).all (·.1.isSome) = true := by rfl) (hnone : (backToKw pos (keywordEach [⟨some ("default" : Str), e2, kpos⟩] X.env)).any (·.1.isNone) = false := by rfl) (hks : (backToKw pos (keywordEach [⟨some ("default" : Str), e2, kpos⟩] X.env)).filterMap (·.1) = [("default" : Str)] := by rfl) :
    PEI X W (.Call (.Name "max" p) [e] [⟨some ("default" : Str), e2, kpos⟩] pos) (MaxDf ma n) := by
  refine PE.weak (pe_callBK (call_maxDf hc hu) hg hm (by decide +kernel) ha (pki_cons hd pki_nil) (by decide) (by decide) he hpl hall hnone hks) fun σ H Q ⟨ι, h, env, R, S, r⟩ => ?_
  refine ⟨ι, h, env, R, S, (run_bind (rel1 := RVs) r).mono fun vs H1 ⟨ι1, h1, xs, R1, F1, rs, r1⟩ => ?_⟩
  refine ⟨ι1, h1, env, R1, S.mono R F1, ?_⟩
  have r2 : Run W RV (M.bind (n env) (fun y => maxDM xs y) h1) ι1 H1 Q := r1
  have r3 : Run W RVs (Cons n Nil env h1) ι1 H1 fun zs H2 => ∃ ι2 h2 y v, Rel ι2 h2 H2 ∧ Fr ι1 H1 ι2 H2 ∧ zs = [v] ∧ RV ι2 H2 v y ∧ Run W RV (maxDM xs y h2) ι2 H2 Q := by
    have q := run_bind (rel1 := RV) r2
    unfold Cons
    unfold M.bind
    generalize n env h1 = o at q ⊢
    match o, q with
    | none, q => exact q
    | some (.ex _, _), q => exact q
    | some (.ok y, h2), q =>
      intro ι2 H2 zs R2 F2 rz
      cases rz with
      | cons rv rn =>
        cases rn
        obtain ⟨ι3, h3, y3, R3, F3, rv3, r4⟩ := q ι2 H2 _ R2 F2 rv
        exact ⟨ι3, h3, y3, _, R3, F3, rfl, rv3, r4⟩
  refine r3.mono fun zs H2 ⟨ι2, h2, y, v, R2, F2, ez, rv, r4⟩ => ?_
  subst ez
  have rs2 := R1.monos F2 rs
  cases rs2 with
  | nil => exact r4.elim
  | @cons w x _ _ rx rr =>
    cases rr with
    | cons _ _ => cases rx <;> exact r4.elim
    | nil =>
      cases rx with
      | @ref k a ea =>
        have r5 : Run W RV (match h2[k]? with
          | some (.lst xs) => match ints? xs with
            | some [] => some (.ok y, h2)
            | some (i :: is) => some (.ok (.int (maxL (i :: is))), h2)
            | none => none
          | _ => none) ι2 H2 Q := r4
        split at r5
        · rename_i ys e1
          obtain ⟨a', vs', z1, _, z2, rs3⟩ := R2.lst (.ref ea) e1
          cases z1
          split at r5
          · rename_i e3
            have := ints?_eq e3
            subst this
            have ev := rs3.ints
            subst ev
            exact ⟨_, [], v, rfl, rfl, sq_of z2, fun _ => run_pure (x := y) r5 R2 rv, fun _ _ z => nomatch z⟩
          · rename_i i is e3
            have := ints?_eq e3
            subst this
            have ev := rs3.ints
            subst ev
            exact ⟨_, i :: is, v, rfl, rfl, sq_of z2, (fun z => nomatch z), fun n' r' z => by cases z; exact run_pure (x := IV.int _) r5 R2 (.int _)⟩
          · exact r5.elim
        · exact r5.elim
      | _ => exact r4.elim
/-! reversed(range(k)) -/
def SDown (n : Nat) : Src := fun _ i => some (if i < n then some (.int ((n : Int) - 1 - i)) else none)
def RevRg (m : Env → M IV) : Env → M Src := fun env => M.bind (m env) fun x => match x with
  | .int k => fun h => if -rngLim ≤ k ∧ k < rngLim then some (.ok (SDown k.toNat), h) else none
  | _ => stuck
theorem rj_down {k : Int} : RJ ι H (Itc (0 + (((k - 0).toNat : Nat) : Int) - 1) (-1) (k - 0).toNat) (SDown k.toNat) := by
  intro ι2 h2 H2 R2 F2 i
  have e0 : (k - 0).toNat = k.toNat := by rw [Int.sub_zero]
  rw [e0]
  unfold SDown
  by_cases hi : i < k.toNat
  · rw [if_pos hi]
    refine ⟨hi, fun v H3 y => ?_⟩
    obtain ⟨y1, y2⟩ := y
    subst y1; subst y2
    refine ⟨ι2, R2, Fr.refl _ _, ?_⟩
    have e : (0 : Int) + ((k.toNat : Nat) : Int) - 1 + (i : Nat) * (-1) = (k.toNat : Int) - 1 - i := by omega
    rw [e]; exact .int _
  · rw [if_neg hi]
    exact Nat.le_of_not_lt hi
theorem pii_revRg {tg : Expr} {p2 pos2 : Pos} (hm : X.mg "reversed" = none) (hm2 : X.mg "range" = none) (he : PEI X W e m) (hg : Gl X "reversed" := by rfl) (hg2 : Gl X "range" := by rfl)
    (hs : starEach [.Call (.Name "range" p2) [e] [] pos2] X.env = (false, eval (.Call (.Name "range" p2) [e] [] pos2) X.env) :: starEach [] X.env := by rfl) (hs2 : starEach [e] X.env = (false, eval e X.env) :: starEach [] X.env := by rfl) :
    PII X W tg (.Call (.Name "reversed" p) [.Call (.Name "range" p2) [e] [] pos2] [] pos) (RevRg m) := by
  refine PI.weak (pi_revR hg hm (prg_1 hg2 hm2 he hs2) hs) fun σ H Rr ⟨ι, h, env, R, S, r⟩ => ?_
  refine ⟨ι, h, env, R, S, (run_bind (rel1 := RV) r).mono fun v H1 ⟨ι1, h1, x, R1, F1, rv, r1⟩ => ?_⟩
  cases rv with
  | int k =>
    have r2 : Run W RJ (if -rngLim ≤ k ∧ k < rngLim then some (.ok (SDown k.toNat), h1) else none) ι1 H1 Rr := r1
    split at r2
    · rename_i hk
      have b1 : -(2 ^ 62 : Int) ≤ k := by have := hk.1; unfold rngLim at this; omega
      have b2 : k < (2 ^ 62 : Int) := by have := hk.2; unfold rngLim at this; omega
      exact ⟨k, rfl, by omega, by omega, b1, b2, r2 ι1 H1 _ R1 (Fr.refl _ _) rj_down⟩
    · exact r2.elim
  | _ => exact r1.elim
/-! dict(xs), xs a list of pairs -/
def pairsI : List IV → Option (List (Key × IV))
  | [] => some []
  | .tup [x, v] :: r => match keyI x, pairsI r with
    | some k, some q => some ((k, v) :: q)
    | _, _ => none
  | _ => none
def mergeI (kvs more : List (Key × IV)) : List (Key × IV) := more.foldl (fun acc kv => putI acc kv.1 kv.2) kvs
def dictM : List IV → M IV
  | [.ref n] => fun h => match h[n]? with
    | some (.lst xs) => match pairsI xs with
      | some kvs => some (.ok (.ref h.length), h ++ [.dic (mergeI [] kvs)])
      | none => none
    | _ => none
  | _ => stuck
theorem RKs.merge {more : List (Key × V)} {moreI : List (Key × IV)} (m : RKs ι H more moreI) : ∀ {kvs : List (Key × V)} {kvsI : List (Key × IV)}, RKs ι H kvs kvsI → RKs ι H (mergeK kvs more) (mergeI kvsI moreI) := by
  induction m with
  | nil => exact fun r => r
  | cons a _ ih => exact fun r => ih (r.put a)
theorem pairs_ok {K : PySem.W.Frag} : ∀ {xs : List IV} {vs : List V} {kvs : List (Key × IV)}, RVs ι H vs xs → pairsI xs = some kvs → ∃ (ps : List Addr) (ks : List (Key × V)), vs = ps.map V.ref ∧ Paired (fun p kv => SqT K H p [kV kv.1, kv.2]) ps ks ∧ RKs ι H ks kvs
  | [], _, _, .nil, e => by cases e; exact ⟨[], [], rfl, .nil, .nil⟩
  | .tup [x, v] :: r, _, _, .cons a rs, e => by
    unfold pairsI at e
    split at e
    · rename_i k q e1 e2
      cases e
      obtain ⟨ps, ks, z1, z2, z3⟩ := pairs_ok rs e2
      subst z1
      cases a with
      | tup ea r2 =>
        cases r2 with
        | cons rx r2 =>
          cases r2 with
          | cons rv r2 =>
            cases r2
            have ek := key_ok rx e1
            subst ek
            exact ⟨_ :: ps, (k, _) :: ks, rfl, .cons (st_of ea) z2, .cons rv z3⟩
    · cases e
  | .non :: _, _, _, _, e | .bl _ :: _, _, _, _, e | .int _ :: _, _, _, _, e | .str _ :: _, _, _, _, e | .fl _ :: _, _, _, _, e | .kl _ :: _, _, _, _, e | .ref _ :: _, _, _, _, e | .exo :: _, _, _, _, e => by cases e
  | .tup [] :: _, _, _, _, e | .tup [_] :: _, _, _, _, e | .tup (_ :: _ :: _ :: _) :: _, _, _, _, e => by cases e
theorem ri_dict : RIL W (fun xs H Q => ∃ (a : Addr) (ps : List Addr) (kvs : List (Key × V)), xs = [.ref a] ∧ SqL X.K H a (ps.map V.ref) ∧ Paired (fun p kv => SqT X.K H p [kV kv.1, kv.2]) ps kvs ∧ ∀ p, H p = none → Q (.ref p) (upd H p (.dK (mergeK [] kvs)))) dictM := by
  intro ι h H vs xs Q R rs r
  cases rs with
  | nil => exact r.elim
  | @cons v x _ _ rv rs =>
    cases rs with
    | cons _ _ => cases rv <;> exact r.elim
    | nil =>
      cases rv with
      | @ref n a ea =>
        have r' : Run W RV (match h[n]? with
          | some (.lst xs) => match pairsI xs with
            | some kvs => some (.ok (.ref h.length), h ++ [.dic (mergeI [] kvs)])
            | none => none
          | _ => none) ι H Q := r
        split at r'
        · rename_i ys e1
          obtain ⟨a', ws, q1, _, q2, r1⟩ := R.lst (.ref ea) e1
          cases q1
          split at r'
          · rename_i kvs e2
            obtain ⟨ps, ks, z1, z2, z3⟩ := pairs_ok (K := X.K) r1 e2
            subst z1
            refine ⟨_, ps, ks, rfl, sq_of q2, z2, fun p hp => ?_⟩
            refine r' (ι ++ [p]) _ _ (R.push hp (u := .dic (mergeI [] kvs)) ⟨_, upd_same, RKs.mono R (fr_push hp) (z3.merge .nil)⟩) (fr_push hp) (.ref ?_)
            rw [← R.len, List.getElem?_append_right (Nat.le_refl _), Nat.sub_self]; rfl
          · exact r'.elim
        · exact r'.elim
      | _ => exact r.elim
theorem pei_dict (hc : X.calm = true) (hm : X.mg "dict" = none) (ha : PAI X W [e] ma) (hg : Gl X "dict" := by rfl) (he : starEach [e] X.env = (false, eval e X.env) :: starEach [] X.env := by rfl) : PEI X W (.Call (.Name "dict" p) [e] [] pos) (CallB dictM ma) :=
  pei_callT ri_dict (call_dictP hc) hm (by decide +kernel) ha hg (by decide) (by decide) he
end
end Iv
set_option Elab.async false
set_option linter.all false
set_option maxRecDepth 100000
set_option maxHeartbeats 2000000
set_option autoImplicit false
namespace Iv
open PySem L2 PyProof.Rows
variable [KL]
section
variable {X : Cx} {W : ExW} {a b c : Expr} {ma mb mc : Env → M IV} {pos : Pos}
theorem oi {g : Int → Int → IV} {h : Str → Str → IV} : True := trivial
theorem pti_lelt (ha : PEI X W a ma) (hb : PEI X W b mb) (hc : PEI X W c mc) (hm : lastMarks [.LtE, .Lt] [b, c] = false := by rfl) : PTI X W (.Compare a [.LtE, .Lt] [b, c] pos) (Tst (Chain leI ltI ma mb mc)) :=
  pti_of_pe (pt_chain (L2.OpR.or op_le op_le_str) (L2.OpR.or op_lt op_lt_str) ha hb hc hm) (fun _ _ _ q => q) fun _ _ _ q => tI_chain (ri_ord fun a b H Q q => ⟨a, b, rfl, rfl, q⟩) (ri_ord fun a b H Q q => ⟨a, b, rfl, rfl, q⟩) q
theorem pti_lele (ha : PEI X W a ma) (hb : PEI X W b mb) (hc : PEI X W c mc) (hm : lastMarks [.LtE, .LtE] [b, c] = false := by rfl) : PTI X W (.Compare a [.LtE, .LtE] [b, c] pos) (Tst (Chain leI leI ma mb mc)) :=
  pti_of_pe (pt_chain (L2.OpR.or op_le op_le_str) (L2.OpR.or op_le op_le_str) ha hb hc hm) (fun _ _ _ q => q) fun _ _ _ q => tI_chain (ri_ord fun a b H Q q => ⟨a, b, rfl, rfl, q⟩) (ri_ord fun a b H Q q => ⟨a, b, rfl, rfl, q⟩) q
theorem pti_ltlt (ha : PEI X W a ma) (hb : PEI X W b mb) (hc : PEI X W c mc) (hm : lastMarks [.Lt, .Lt] [b, c] = false := by rfl) : PTI X W (.Compare a [.Lt, .Lt] [b, c] pos) (Tst (Chain ltI ltI ma mb mc)) :=
  pti_of_pe (pt_chain (L2.OpR.or op_lt op_lt_str) (L2.OpR.or op_lt op_lt_str) ha hb hc hm) (fun _ _ _ q => q) fun _ _ _ q => tI_chain (ri_ord fun a b H Q q => ⟨a, b, rfl, rfl, q⟩) (ri_ord fun a b H Q q => ⟨a, b, rfl, rfl, q⟩) q
end
section
variable {X : Cx} {W : ExW}
/-- a, b, c = x, y, z -/
def ParS3 (i j l : Nat) (a : Env → M (List IV)) : Env → M Fl := fun env => M.bind (a env) fun xs => match xs with
  | [x, y, z] => M.pure (.nx (((env.set i (some x)).set j (some y)).set l (some z)))
  | _ => stuck
theorem psi_par3 (i j l : Nat) {x y z : Str} {a b c : Expr} {ma : Env → M (List IV)} {px py pz pt pos : Pos} {kt k2 pt2} (hc : X.calm = true) (hN : X.N.Nodup) (ha : PAI X W [a, b, c] ma) (hi : X.N[i]? = some x := by rfl) (hj : X.N[j]? = some y := by rfl) (hl : X.N[l]? = some z := by rfl) (hij : i ≠ j := by decide) (hil : i ≠ l := by decide) (hjl : j ≠ l := by decide)
    (hx : X.env.scope.names.lookup x = some .local := by rfl) (hy : X.env.scope.names.lookup y = some .local := by rfl) (hz : X.env.scope.names.lookup z = some .local := by rfl)
    (hw : swappedStores [.Tuple [.Name x px, .Name y py, .Name z pz] kt pt] (.Tuple [a, b, c] k2 pt2) X.env = pure (some [x, y, z]) := by rfl)
    (hs : swapsWithSole [.Tuple [.Name x px, .Name y py, .Name z pz] kt pt] (.Tuple [a, b, c] k2 pt2) pos.line X.env = pure false := by rfl) : PSI X W (.Assign [.Tuple [.Name x px, .Name y py, .Name z pz] kt pt] (.Tuple [a, b, c] k2 pt2) pos) (ParS3 i j l ma) :=
  PS.weak (ps_par3 hc hN hi hj hl hij hil hjl hx hy hz ha hw hs) fun D σ H ⟨ι, h, env, R, S, r⟩ =>
    ⟨ι, h, env, R, S, (run_bind (rel1 := RVs) r).mono fun vs H1 ⟨ι1, h1, xs, R1, F1, rs, r1⟩ => by
      cases rs with
      | nil => exact r1.elim
      | cons a1 rs => cases rs with
        | nil => exact r1.elim
        | cons a2 rs => cases rs with
          | nil => exact r1.elim
          | cons a3 rs => cases rs with
            | nil => exact ⟨_, _, _, rfl, r1 ι1 H1 (.nx _) R1 (Fr.refl _ _) (.nx ((((S.mono R F1).set a1).set a2).set a3))⟩
            | cons _ _ => exact r1.elim⟩
/-- name = {..} on one line, the name a local -/
theorem sw_trueD {kx elt : Expr} {gs : List Comprehension} {scope : Scope} {pos py : Pos} {y : Str} {l : Nat} {env : PySem.Env} (hk : env.scope.kind = .function) (hy : env.scope.names.lookup y = some .local) (hl : (py.line == pos.line) = true)
    (ha : (scope.names.any fun (n, k) => n == y && (k == .local || k == .cell)) = false) : swapsWith (.DictComp kx elt gs scope pos) (some (.Name y py)) l env = pure true := by
  have e1 : env.kindOf y = some .local := hy
  have e2 : env.blockKind = .function := by unfold PySem.Env.blockKind; rw [hk]; rfl
  unfold swapsWith
  simp only [e1, e2, ha, hl, Expr.pos]
  rfl
theorem ps_setDc {i : Nat} {y : Str} {py : Pos} {kx vx tg iter : Expr} {ifs : List Expr} {scope : Scope} {own : List (Str × Nat)} {pos spos : Pos} {wi : TI} {g : TG} {tt : TT} {tk tv : TE} (hc : X.calm = true) (hN : X.N.Nodup) (hy : X.N[i]? = some y) (hyl : X.env.scope.names.lookup y = some .local)
    (hsw : swapsWith (.DictComp kx vx [⟨tg, iter, ifs, 0⟩] scope pos) (some (.Name y py)) spos.line X.env = pure true) (hi : PI X tg iter wi) (ok : BlkOk X.N X.env.scope scope own)
    (hg : ∀ (s : Shared) (H : Hp) (C : Addr) (cl : List (Str × Addr)) (fp : List Addr), PG (X.blk s H scope (compEnvC scope cl C X.env) fp) tg g) (ht : ∀ (s : Shared) (H : Hp) (C : Addr) (cl : List (Str × Addr)) (fp : List Addr), PTs (X.blk s H scope (compEnvC scope cl C X.env) fp) ifs tt)
    (hk : ∀ (s : Shared) (H : Hp) (C : Addr) (cl : List (Str × Addr)) (fp : List Addr), PE (X.blk s H scope (compEnvC scope cl C X.env) fp) kx tk) (he : ∀ (s : Shared) (H : Hp) (C : Addr) (cl : List (Str × Addr)) (fp : List Addr), PE (X.blk s H scope (compEnvC scope cl C X.env) fp) vx tv)
    (hs : ∀ x, foldedSetIterable iter X.env x = pure x := by intro _; rfl) :
    PS X (.Assign [.Name y py] (.DictComp kx vx [⟨tg, iter, ifs, 0⟩] scope pos) spos) (tAsg (tDc wi g tt tk tv (own.map (·.2))) (gName i)) := ⟨fun pins s σ H D I q => by
  rw [exec_Assign_Name_used _ _ _ _ hsw]
  refine wpAny_bind (wpAny_standAt (wpAny_bind ?_))
  show wpAny _ X.A (do let _ ← comprehension (.DictComp kx vx [⟨tg, iter, ifs, 0⟩] scope pos) scope X.env (firstIterPos [⟨tg, iter, ifs, 0⟩] pos) newDict false (eval iter X.env) (some (assign (.Name y py) X.env))) _ _ s
  have q' : tDc wi g tt tk tv (own.map (·.2)) σ H (fun x H1 => gName i x σ H1 D.nx) := q
  refine wpAny_bind (thn (dc_core (Qf := fun _ s' => SP X pins D .next s') hc hN I hi ok hg ht hk he hs q' fun L C s' m H' J qq hn f => ?_) fun _ s' z => wpAny_pure (wpAny_pure z))
  show wpAny _ _ (assign (.Name y py) X.env (.ref L)) _ _ _
  refine wpAny_assign_Name (store_ok2 (v := V.ref L) J hN hy (.inl hyl) rfl (fun s2 J2 ⟨a, sb, ha⟩ => ?_) (.inr hyl))
  obtain ⟨f0, f1, f2, f3, f4, f5⟩ := f
  have ne : C ≠ a := ha.elim (fun z => by rw [z]; exact f1) fun z e => f4 y a z e.symm
  exact ⟨m, hn.sameBut sb ne, fun h3 sb3 => ⟨_, H', J2.turned (t' := s2.toks) (fun b o hb e => (sb3.2 b hb).trans e) f0 f1 f3 f4 f5, qq⟩⟩⟩
theorem psi_setDc (n : Nat) (i : Nat) {y : Str} {py : Pos} {kx elt tg iter : Expr} {ifs : List Expr} {scope : Scope} (own : List (Str × Nat)) {pos spos : Pos} {src : Env → M Src} {p : Pat} {c : Env → M Bool} {mk el : Env → M IV} (hc : X.calm = true) (hN : X.N.Nodup) (hi : PII X W tg iter src) (ok : blkC X.N X.env.scope scope own = true)
    (hg : ∀ (s : Shared) (H : Hp) (C : Addr) (cl : List (Str × Addr)) (fp : List Addr), PG (X.blk s H scope (compEnvC scope cl C X.env) fp) tg (gPat X.K p)) (ht : ∀ (s : Shared) (H : Hp) (C : Addr) (cl : List (Str × Addr)) (fp : List Addr), PTsI (X.blk s H scope (compEnvC scope cl C X.env) fp) ifs c)
    (hk : ∀ (s : Shared) (H : Hp) (C : Addr) (cl : List (Str × Addr)) (fp : List Addr), PEI (X.blk s H scope (compEnvC scope cl C X.env) fp) W0 kx mk) (he : ∀ (s : Shared) (H : Hp) (C : Addr) (cl : List (Str × Addr)) (fp : List Addr), PEI (X.blk s H scope (compEnvC scope cl C X.env) fp) W0 elt el)
    (hsw : swapsWith (.DictComp kx elt [⟨tg, iter, ifs, 0⟩] scope pos) (some (.Name y py)) spos.line X.env = pure true) (hy : X.N[i]? = some y := by rfl) (hyl : X.env.scope.names.lookup y = some .local := by rfl)
    (hv : ∀ i ∈ p.ix, i ∈ own.map (·.2) := by decide) (hs : ∀ x, foldedSetIterable iter X.env x = pure x := by intro _; rfl) :
    PSI X W (.Assign [.Name y py] (.DictComp kx elt [⟨tg, iter, ifs, 0⟩] scope pos) spos) (AsgS (DcE n src p c mk el (own.map (·.2))) (TgN i)) :=
  PS.weak (ps_setDc hc hN hy hyl hsw hi (blkOk_by ok) hg ht hk he hs) fun D σ H t => by
    have q : tI W (DcE n src p c mk el (own.map (·.2))) σ H (fun x H1 => gName i x σ H1 D.nx) := by
      obtain ⟨ι, h, env, R, S, r⟩ := tIS_asg t
      exact ⟨ι, h, env, R, S, r.mono fun v H1 ⟨ι1, h1, env1, x, R1, S1, rv, r1⟩ => r1 ι1 H1 _ R1 (Fr.refl _ _) (S1.set rv)⟩
    exact dc_weak n hv q
end
end Iv
set_option Elab.async false
set_option linter.all false
set_option maxRecDepth 100000
set_option maxHeartbeats 2000000
set_option autoImplicit false
/-! t[::-1] of a tuple -/
namespace HT
open PySem PyProof.Rows
section
variable {prog : Program} {w : World} {A : Around} {E : Value → Shared → Prop} {s : Shared}
theorem adjust_back (n : Nat) : Builtin.Slice.sliceAdjust none none (-1) (n : Int) = ((n : Int) - 1, -1) := by
  unfold Builtin.Slice.sliceAdjust
  simp
theorem places_back (n : Nat) : Builtin.Slice.slicePlaces ((n : Int) - 1) (-1) (-1) = n := by
  unfold Builtin.Slice.slicePlaces
  have h1 : ¬ ((-1 : Int) > 0) := by omega
  simp only [h1, if_false]
  by_cases hn : n = 0
  · subst hn; simp
  · have : (-1 : Int) < (n : Int) - 1 ∨ True := .inr trivial
    simp
    omega
theorem sliceApplied_back {sl : Addr} {vs : Value} {n : Nat} {Q : Int × Int × Nat → Shared → Prop} (hs : s.heap.IsSliceOf sl .none .none vs) (ps : IsPart vs (some (-1)))
    (h : Q ((n : Int) - 1, -1, n) s) : wpAny (model prog w) A (Builtin.Slice.sliceApplied (.ref sl) (pure (n : Int))) Q E s := by
  obtain ⟨os, hos, hcs, hds⟩ := id hs
  unfold Builtin.Slice.sliceApplied Builtin.Slice.sliceFields
  refine wpAny_bind (wpAny_bind (wpAny_field hos hds (x := .none) rfl (wpAny_bind (wpAny_field hos hds (x := .none) rfl (wpAny_bind (wpAny_field hos hds (x := vs) rfl (wpAny_pure ?_)))))))
  refine wpAny_bind (slicePart_ ps ?_)
  show wpAny _ _ (if ((-1 : Int) == 0) = true then _ else _) _ _ s
  rw [if_neg (by decide)]
  refine wpAny_bind (slicePart_none (wpAny_bind (slicePart_none (wpAny_bind (wpAny_pure ?_)))))
  show wpAny _ _ (match Builtin.Slice.sliceAdjust none none (-1) (n : Int) with | (lo, hi) => pure (lo, (-1 : Int), Builtin.Slice.slicePlaces lo hi (-1))) _ _ s
  rw [adjust_back n]
  show wpAny _ _ (pure ((n : Int) - 1, (-1 : Int), Builtin.Slice.slicePlaces ((n : Int) - 1) (-1) (-1))) _ _ s
  rw [places_back]
  exact wpAny_pure h
theorem fm_map {α β : Type} {f : α → Option β} {g : α → β} : ∀ {l : List α}, (∀ x ∈ l, f x = some (g x)) → l.filterMap f = l.map g
  | [], _ => rfl
  | a :: l, k => by rw [List.filterMap_cons, k a (by simp), List.map_cons, fm_map fun x hx => k x (by simp [hx])]
theorem pick_back (xs : Array Value) : ((List.range xs.size).filterMap fun (m : Nat) => xs[(((xs.size : Nat) : Int) - 1 + (m : Int) * (-1)).toNat]?).toArray = xs.toList.reverse.toArray := by
  congr 1
  rw [fm_map (g := fun m => xs.toList.getD (xs.size - 1 - m) .none)]
  · apply List.ext_getElem
    · simp
    · intro i h1 h2
      have hi : i < xs.size := by simpa using h1
      have hl : xs.size - 1 - i < xs.size := by omega
      simp [List.getD_eq_getElem?_getD, hl]
  · intro m hm
    have hm := List.mem_range.mp hm
    have e1 : (((xs.size : Nat) : Int) - 1 + (m : Int) * (-1)).toNat = xs.size - 1 - m := by omega
    rw [e1]
    have hl : xs.size - 1 - m < xs.size := by omega
    simp [List.getD_eq_getElem?_getD, hl]
theorem getItem_tuple_back {t sl : Addr} {items : Array Value} {vs : Value} {Q : Value → Shared → Prop} (ht : IsTup s.heap t items) (hs : s.heap.IsSliceOf sl .none .none vs) (ps : IsPart vs (some (-1)))
    (h : Q (.ref s.heap.objs.size) { s with heap := s.heap.push { cls := .type "tuple", data := .seq items.toList.reverse.toArray } })
    (hsz : items.size ≤ sizeLine) : wpAny (model prog w) A (getItem (.ref t) (.ref sl)) Q E s := by
  have hrev : sizeOk (.seq items.toList.reverse.toArray) := by
    show items.toList.reverse.toArray.size ≤ sizeLine
    rw [List.size_toArray, List.length_reverse, Array.length_toList]
    exact hsz
  obtain ⟨os, hos, hcs, hds⟩ := id hs
  have hTs : s.TypeIs (.ref sl) "slice" := ⟨os, hos, hcs⟩
  unfold getItem
  try with_reducible refine wpAny_holding ?_
  first | refine wpAny_bind (wpAny_pure ?_) | skip
  refine wpAny_bind (wpAny_sequenceKey ht.typeIs (by decide) ?_)
  refine wpAny_bind (wpAny_callSpecial?_slot (name := Str.ofString "__getitem__") ht.typeIs PyProof.Rows.slot_tuple_getitem (wpAny_call_entry PyProof.Rows.slot_tuple_getitem ht.typeIs entry_tuple_getitem ?_ (args_tuple_getitem _ _)))
  show wpAny _ _ (Builtin.Tuple.tupleItemsOf (.ref t) >>= _) _ _ s
  refine wpAny_bind (tupleItemsOf_ ht (wpAny_bind (wpAny_typeOf hTs ?_)))
  rw [if_pos (by decide)]
  refine wpAny_bind (sliceApplied_back hs ps ?_)
  show wpAny _ _ (if ((((items.size : Nat) : Int) - 1) == 0 && (-1 : Int) == 1 && items.size == items.size) = true then _ else _) _ _ s
  rw [if_neg (by simp), pick_back]
  first
    | exact wpAny_bind (m := Builtin.Tuple.tupleExact _) (wpAny_newObj_type (wpAny_pure ⟨_, rfl, wpAny_pure h⟩) hrev)
    | exact wpAny_bind (m := Builtin.Tuple.tupleExact _) (wpAny_newObj_type (wpAny_bind (wpAny_pure (wpAny_pure ⟨_, rfl, wpAny_pure h⟩))) hrev)
    | exact wpAny_bind (wpAny_bind (m := Builtin.Tuple.tupleExact _) (wpAny_newObj_type (wpAny_pure (wpAny_pure ⟨_, rfl, wpAny_pure h⟩)) hrev))
    | exact wpAny_bind (wpAny_bind (m := Builtin.Tuple.tupleExact _) (wpAny_newObj_type (wpAny_pure ⟨_, rfl, wpAny_pure h⟩) hrev))
end
end HT
namespace Iv
open PySem L2 PyProof.Rows
variable [KL]
section
variable {X : Cx} {W : ExW} {e : Expr} {m : Env → M IV} {ι : List Addr} {h : IH} {H : Hp}
def tRevT (K : PySem.W.Frag) (te : TE) : TE := fun σ H Q => te σ H fun x H1 => ∃ a xs, x = .ref a ∧ SqT K H1 a xs ∧ ∀ p, H1 p = none → Q (.ref p) (upd H1 p (.tup xs.reverse))
theorem pe_revT {te : TE} {k : Nat} {p1 p2 p3 pos : Pos} (he : PE X e te) : PE X (.Subscript e (.Slice none none (some (.UnaryOp .USub (.Constant (.int 1) k p1) p2)) p3) pos) (tRevT X.K te) := by
  refine ⟨fun pins s σ H Q I h => ?_⟩
  refine Subscript_ (thn (he.run pins s σ H _ I h) fun v s1 ⟨x, H1, I1, r1, a, xs, ex, hx, q⟩ => ?_)
  subst ex
  cases r1
  refine wpAny_Slice (thn (po_none.run pins s1 σ H1 (fun o H2 => o = none ∧ H2 = H1) I1 ⟨rfl, rfl⟩) fun vl s2 ⟨_, H2, I2, pl, el, e2⟩ => ?_)
  subst el e2
  refine thn (po_none.run pins s2 σ H2 (fun o H3 => o = none ∧ H3 = H2) I2 ⟨rfl, rfl⟩) fun vu s3 ⟨_, H3, I3, pu, eu, e3⟩ => ?_
  subst eu e3
  refine thn ((po_some (pe_un un_neg pe_int)).run pins s3 σ H3 (fun o H4 => o = some (-1) ∧ H4 = H3) I3 ⟨1, rfl, -1, rfl, rfl, rfl⟩) fun vs s4 ⟨_, H4, I4, ps, eo, e4⟩ => ?_
  subst eo e4
  cases pl
  cases pu
  have I5 := I4.kept (t' := s4.toks) (h' := s4.heap.push { cls := .type "slice", data := .fields #[.none, .none, vs] }) fun b ob q => Heap.get?_push_of_some _ q
  obtain ⟨its, r, ht, hz⟩ := I5.tuple hx
  have hlen := r.length
  refine tail_any (ops := [.ref a, .ref s4.heap.objs.size]) ht.typeIs (slot_tuple_getitem.lookup) ?_ (by with_unfolding_all rfl)
  refine HT.getItem_tuple_back ht (Heap.IsSliceOf.new _ .none .none vs) ps ?_ (by rw [List.size_toArray]; omega)
  refine ⟨.ref _, _, I5.laid (t' := s4.toks) (o := .tup xs.reverse) (fun b ob q => Heap.get?_push_of_some _ q) (Nat.le_refl _) ?_, rfl, q _ (I5.hok.fresh (Nat.le_refl _))⟩
  exact ⟨by rw [List.length_reverse]; exact hz, its.reverse, r.reverse, ⟨_, Heap.get?_push_size _ rfl, rfl, 0, by simp⟩⟩
def revT : IV → M IV
  | .tup xs => M.pure (.tup xs.reverse)
  | _ => stuck
theorem RVs.rev {vs : List V} {xs : List IV} (r : RVs ι H vs xs) : RVs ι H vs.reverse xs.reverse := by
  induction xs generalizing vs with
  | nil => cases r; exact .nil
  | cons x xs ih =>
    cases r with
    | cons a r =>
      rw [List.reverse_cons, List.reverse_cons]
      exact (ih r).append (.cons a .nil)
theorem pei_revT {k : Nat} {p1 p2 p3 pos : Pos} (he : PEI X W e m) : PEI X W (.Subscript e (.Slice none none (some (.UnaryOp .USub (.Constant (.int 1) k p1) p2)) p3) pos) (Un revT m) :=
  PE.weak (pe_revT he) fun σ H Q ⟨ι, h, env, R, S, r⟩ => ⟨ι, h, env, R, S, (run_bind (rel1 := RV) r).mono fun v H1 ⟨ι1, h1, x, R1, F1, rv, r1⟩ => by
    cases rv with
    | tup ea rs => exact ⟨_, _, rfl, st_of ea, fun p hp => r1 ι1 _ _ (R1.new hp) (fr_new hp) (.tup upd_same (R1.monos (fr_new hp) rs.rev))⟩
    | _ => exact r1.elim⟩
end
end Iv
set_option Elab.async false
set_option linter.all false
set_option maxRecDepth 100000
set_option maxHeartbeats 2000000
set_option autoImplicit false
/-! exceptions of the program's own: what leaves a def, calls that let it through, try -/
namespace Iv
open PySem L2 PyProof.Rows
variable [KL]
section
variable {α β : Type} {W W' : ExW} {rel : List Addr → Hp → β → α → Prop} {o : Option (Out α × IH)} {ι : List Addr} {h : IH} {H : Hp} {Q : β → Hp → Prop}
theorem Run.imp (k : ∀ e ι' h' H', W e ι' h' H' → W' e ι' h' H') (r : Run W rel o ι H Q) : Run W' rel o ι H Q := by
  match o, r with
  | none, r => exact r
  | some (.ok _, _), r => exact r
  | some (.ex e, _), r => exact fun ι' H' R F => k _ _ _ _ (r ι' H' R F)
theorem Run.w0 (r : Run W0 rel o ι H Q) : Run W rel o ι H Q := r.imp fun _ _ _ _ z => z.elim
end
/-- what is wanted of an exception that leaves a def: its class, and its one field if it has one -/
def WX (mg : Str → Option Value) (E : XK) : ExW := fun e ι _ H => match e.args with
  | [] => ∀ C, mg e.cls = some (.ref C) → E (.ref C) none H
  | [(f, x)] => ∀ C v d, mg e.cls = some (.ref C) → RV ι H v x → H d = some (.xd [(f, v)]) → E (.ref C) (some d) H
  | _ => False
abbrev spX (mg : Str → Option Value) (n : Nat) (F : List IV → M IV) : Sp := spI (WX mg) n F
section
variable {P : Program} {w : World} {K : PySem.W.Frag} {mg : Str → Option Value} {base : Heap}
/-- a def that may raise -/
theorem def_okX {x qual : Str} {st : Stmt} {f : Addr} {fd : FuncData} {N ps : List Str} {k : Nat} {m : Env → M Fl} (F : Fun K x qual st f fd) (S : FnScope N ps (defScope st))
    (hb : ∀ (cdv : Value) (A : Around) (outer : List PySem.Env) (s : Shared) (H : Hp) (E : XK), Room k (A.deeper (PyProof.Rows.envOfC qual (defScope st) s.heap.objs.size f cdv)) → PSsI (cxOf (L2.CX P w) P w K mg base N qual (defScope st) f cdv A outer s H E) (WX mg E) (defBody st) m) :
    FnOk P w K mg base (L2.CX P w) (k + 1) f fd ps (spX mg ps.length (Fn N.length m)) := by
  refine F.okX S (fun vs H Q E q => q.1) fun cdv A outer s H vs Q E hr ⟨_, ι, h, xs, R, rs, r⟩ => ⟨_, hb cdv A outer s H E hr, fn_start R rs r⟩
def CallOkX (P : Program) (w : World) (K : PySem.W.Frag) (mg : Str → Option Value) (base : Heap) (x : Str) (k n : Nat) (F : List IV → M IV) : Prop :=
  ∃ f fd ps, FnOk P w K mg base (L2.CX P w) k f fd ps (spX mg n F) ∧ mg x = some (.ref f) ∧ PySem.W.keepIn K (.ref f) = true ∧ Binds K fd ps []
def CallOkKX (P : Program) (w : World) (K : PySem.W.Frag) (mg : Str → Option Value) (base : Heap) (x : Str) (k n : Nat) (F : List IV → M IV) (ks : List Str) (p : List Nat) : Prop :=
  ∃ f fd ps, FnOk P w K mg base (L2.CX P w) k f fd ps (spX mg n F) ∧ mg x = some (.ref f) ∧ PySem.W.keepIn K (.ref f) = true ∧ KwOk K fd ps ks p
end
/-- a call that lets exceptions through -/
def CallX (n : Nat) (F : List IV → M IV) (a : Env → M (List IV)) : Env → M IV := fun env => M.bind (a env) fun xs => if xs.length = n then F xs else stuck
section
variable {X : Cx} {W : ExW} {e : Expr} {es : List Expr} {ma : Env → M (List IV)} {pos p : Pos} {x : Str} {F : List IV → M IV} {k n : Nat}
/-- a call of a def that may raise, where it does not -/
theorem pei_callXn (C : CallOkX X.prog X.w X.K X.mg X.base x k n F) (hr : Room k X.A) (ha : PAI X W (e :: es) ma) (hg : Gl X x := by rfl) (hdb : (x == ("__debug__" : Str)) = false := by decide) (he : starEach (e :: es) X.env = (false, eval e X.env) :: starEach es X.env := by rfl)
    (hpl : (backTo pos (starEach es X.env)).any (·.1) = false := by rfl) : PEI X W (.Call (.Name x p) (e :: es) [] pos) (CallF n F ma) :=
  let ⟨_, _, _, FO, hm, hk, hb⟩ := C
  PE.weak (pe_call FO hr hg hm hk hb .nil passL ha hdb he hpl) fun σ H Q ⟨ι, h, env, R, S, r⟩ =>
    ⟨ι, h, env, R, S, (run_bind (rel1 := RVs) r).mono fun vs H1 ⟨ι1, h1, xs, R1, F1, rs, r1⟩ => by
      obtain ⟨hl, r1⟩ := run_if r1
      rw [List.append_nil]
      exact ⟨by rw [rs.length]; exact hl, ι1, h1, xs, R1, rs, (run_noex r1).w0⟩⟩
/-- .. in a def that lets it through -/
theorem pei_callX {E : XK} (C : CallOkX X.prog X.w X.K X.mg X.base x k n F) (hr : Room k X.A) (tk : Takes X (fun cls d _ H => E cls d H)) (ha : PAI X (WX X.mg E) (e :: es) ma) (hg : Gl X x := by rfl) (hdb : (x == ("__debug__" : Str)) = false := by decide) (he : starEach (e :: es) X.env = (false, eval e X.env) :: starEach es X.env := by rfl)
    (hpl : (backTo pos (starEach es X.env)).any (·.1) = false := by rfl) : PEI X (WX X.mg E) (.Call (.Name x p) (e :: es) [] pos) (CallX n F ma) :=
  let ⟨_, _, _, FO, hm, hk, hb⟩ := C
  PE.weak (pe_call (E := E) FO hr hg hm hk hb .nil (passes_call tk fun _ _ _ _ z => z) ha hdb he hpl) fun σ H Q ⟨ι, h, env, R, S, r⟩ =>
    ⟨ι, h, env, R, S, (run_bind (rel1 := RVs) r).mono fun vs H1 ⟨ι1, h1, xs, R1, F1, rs, r1⟩ => by
      obtain ⟨hl, r1⟩ := run_if r1
      rw [List.append_nil]
      exact ⟨by rw [rs.length]; exact hl, ι1, h1, xs, R1, rs, r1⟩⟩
/-- by keywords, where it does not raise -/
theorem pei_callKX {ks : List Str} {pm : List Nat} {kws : List Keyword} (C : CallOkKX X.prog X.w X.K X.mg X.base x k n F ks pm) (hr : Room k X.A) (hkw : PKI X W kws ma) (hg : Gl X x := by rfl) (hall : (backToKw pos (keywordEach kws X.env)).all (·.1.isSome) = true := by rfl) (hks : (backToKw pos (keywordEach kws X.env)).filterMap (·.1) = ks := by rfl)
    (hdb : (x == ("__debug__" : Str)) = false := by decide) (hpl : ((backTo pos (starEach [] X.env)).any (·.1) || (backToKw pos (keywordEach kws X.env)).any (·.1.isNone)) = false := by rfl) : PEI X W (.Call (.Name x p) [] kws pos) (CallK n F pm ma) := by
  obtain ⟨f, fd, ps, FO, hm, hk, hb⟩ := C
  refine ⟨fun pins s σ H Q I t => ?_⟩
  obtain ⟨ι, h, env, R, S, r⟩ := t
  refine PySem.wpAny_Call_Name_kw (ld_glob I hg hm ?_ hdb)
  refine PySem.W.callWith_KW0 (h₀ := X.base) I.ok.mod.kin hk hall ?_ hpl
  refine thn (hkw.run pos pins s σ H (fun zs H1 => spX X.mg n F (perm pm zs) H1 Q E0 ∧ zs.length = pm.length) I ⟨ι, h, env, R, S, (run_bind (rel1 := RVs) r).mono fun vs H1 ⟨ι1, h1, xs, R1, F1, rs, r1⟩ => ?_⟩) fun ws s2 ⟨zs, H2, I2, rz, q2, hz⟩ => ⟨I2.kIn, ?_⟩
  · obtain ⟨hl, r1⟩ := run_if r1
    exact ⟨⟨by rw [(rs.perm pm).length]; exact hl.1, ι1, h1, _, R1, rs.perm pm, (run_noex r1).w0⟩, by rw [rs.length]; exact hl.2⟩
  · rw [hks]
    have r2 := vals_perm rz pm
    have hl : (perm pm ws).length = ps.length := by rw [← r2.length]; exact FO.len _ _ _ _ q2
    refine wpAny_call (codeAny_mono (FO.run X.A X.stack s2 H2 ⟨[], ks.zip ws⟩ (perm pm ws) (perm pm zs) Q E0 hr I2.env0 (hb s2 ws I2.kIn (by rw [← rz.length]; exact hz)) r2 q2) fun r s' hq => ?_)
    cases r with
    | error e => exact passL pins σ H2 s2 e s' I2 hq
    | ok fl =>
      cases fl with
      | ret u => exact I2.after hq
      | next => exact False.elim hq
      | brk => exact False.elim hq
      | cont => exact False.elim hq
end
/-! ### an own class without fields -/
/-- what is known of the class that x names, over ValueError -/
structure Own (K : PySem.W.Frag) (mg : Str → Option Value) (x : Str) (C : Addr) : Prop where
  gC : mg x = some (.ref C)
  exc : PySem.W.excIn K C [.type "ValueError", .type "Exception", .type "BaseException", .type "object"] "ValueError.__new__" = true
  kC : PySem.W.keepIn K (.ref C) = true
  sb : PySem.W.subIn K (.ref C) (.type "BaseException") = some true
  ty : PySem.W.typeIn K (.ref C) = some (.type "type")
  te : PySem.W.exmOne K (.ref C) (.ref C) = some true
  is_ : ExcC K C
  ve : PySem.W.kitOne K (.ref C) (.type "ValueError") = some true
section
variable {X : Cx} {W : ExW} {x : Str} {C : Addr} {p pos pos' : Pos}
theorem pmk_bare (T : Own X.K X.mg x C) (hg : Gl X x) (hdb : (x == ("__debug__" : Str)) = false) : PMk X (.Call (.Name x p) [] [] pos) (fun _ H Q => Q (.ref C) none H) := fun pins s σ H Q I z => by
  refine wpAny_Call_Name_kw (ld_glob I hg T.gC ?_ hdb)
  refine PySem.W.callWith_K0 I.kIn T.kC ?_
  obtain ⟨_, _, _, _, _, _, _, _, _, _, _, _, _, _, _, _, _, hC, hN, hni, U⟩ := exc_obj I.kIn T.exc
  exact wpAny_call_exc_subT PySem.F.excBase_ValueError U hC hN hni (fun _ _ hm => mk_of I hm (raises_own T.sb T.ty) z (I.hok.gone hm.new)) (Nat.zero_le _)
def RaiseS (x : Str) : Env → M Fl := fun _ h => some (.ex ⟨x, []⟩, h)
theorem psi_raise0 {E : XK} (T : Own X.K X.mg x C) (hc : X.calm = true) (tk : Takes X (fun cls d _ H => E cls d H)) (hg : Gl X x := by rfl) (hdb : (x == ("__debug__" : Str)) = false := by decide) :
    PSI X (WX X.mg E) (.Raise (some (.Call (.Name x p) [] [] pos)) none pos') (RaiseS x) := PS.weak (ps_raise hc tk (pmk_bare T hg hdb)) fun D σ H ⟨ι, h, env, R, S, r⟩ => by
  have r' : ∀ ι' H', Rel ι' h H' → Fr ι H ι' H' → WX X.mg E ⟨x, []⟩ ι' h H' := r
  exact r' ι H R (Fr.refl _ _) C T.gC
end
/-! ### try -/
/-- a reading whose wish knows the slots -/
def tIs (Ws : L2.St → ExW) (m : Env → M IV) : TE := fun σ H Q => tI (Ws σ) m σ H Q
def PEIs (X : Cx) (Ws : L2.St → ExW) (e : Expr) (m : Env → M IV) : Prop := PE X e (tIs Ws m)
section
variable {X : Cx} {e a b c : Expr} {es : List Expr} {ma : Env → M (List IV)} {m n : Env → M IV} {t : Env → M Bool} {pos p : Pos} {x : Str} {F : List IV → M IV} {k nn : Nat} {Wk : L2.WX}
theorem peis_callX (C : CallOkX X.prog X.w X.K X.mg X.base x k nn F) (hr : Room k X.A) (tk : Takes X Wk) (ha : ∀ W, PAI X W (e :: es) ma) (hg : Gl X x := by rfl) (hdb : (x == ("__debug__" : Str)) = false := by decide) (he : starEach (e :: es) X.env = (false, eval e X.env) :: starEach es X.env := by rfl)
    (hpl : (backTo pos (starEach es X.env)).any (·.1) = false := by rfl) : PEIs X (fun σ => WX X.mg (WE Wk σ)) (.Call (.Name x p) (e :: es) [] pos) (CallX nn F ma) := by
  obtain ⟨_, _, _, FO, hm, hk, hb⟩ := C
  have ha' : PA X (e :: es) (fun σ H Q => tIA (WX X.mg (WE Wk σ)) ma σ H Q) := ⟨fun ps pins s σ H Q I q => (ha _).run ps pins s σ H Q I q⟩
  refine PE.weak (pe_callS (E := WE Wk) FO hr hg hm hk hb (fun σ => passAt tk σ) ha' hdb he hpl) fun σ H Q ⟨ι, h, env, R, S, r⟩ => ?_
  exact ⟨ι, h, env, R, S, (run_bind (rel1 := RVs) r).mono fun vs H1 ⟨ι1, h1, xs, R1, F1, rs, r1⟩ => by
    obtain ⟨hl, r1⟩ := run_if r1
    exact ⟨by rw [rs.length]; exact hl, ι1, h1, xs, R1, rs, r1⟩⟩
theorem peis_ifE {Ws : L2.St → ExW} (hc : ∀ W, PTI X W c t) (ha : PEIs X Ws a m) (hb : PEIs X Ws b n) : PEIs X Ws (.IfExp c a b pos) (IfE t m n) := by
  have hc' : PT X c (fun σ H Q => tIT (Ws σ) t σ H Q) := ⟨fun pins s σ H Q I q => (hc _).run pins s σ H Q I q⟩
  refine PE.weak (pe_ifExp hc' ha hb) fun σ H Q z => ?_
  obtain ⟨ι, h, env, R, S, r⟩ := tT_bind (k := fun b env => if b = true then m env else n env) (show tI (Ws σ) (IfE t m n) σ H Q from z)
  exact ⟨ι, h, env, R, S, r.mono fun b H1 ⟨ι1, h1, env1, R1, S1, r1⟩ => by
    cases b with
    | true => exact iteT ⟨ι1, h1, env1, R1, S1, r1⟩
    | false => exact iteF ⟨ι1, h1, env1, R1, S1, r1⟩⟩
end
/-- try: v = m / except x as n: c = mk  (v, n, c in slots iv, i, j) -/
def TryS (iv i j : Nat) (x : Str) (m mk : Env → M IV) : Env → M Fl := fun env h => match m env h with
  | some (.ok y, h1) => some (.ok (.nx (env.set iv (some y))), h1)
  | some (.ex e, h1) => if e.cls = x ∧ e.args.isEmpty = true then AsgS mk (TgN j) (env.set i none) h1 else none
  | none => none
end Iv
namespace Iv
open PySem L2 PyProof.Rows
variable [KL]
/-- the class that x names is an own one over ValueError, without fields -/
def OwnX (K : PySem.W.Frag) (mg : Str → Option Value) (x : Str) : Prop := ∃ C, Own K mg x C
section
variable {X : Cx} {W : ExW} {e : Expr} {es : List Expr} {ma : Env → M (List IV)} {pos p pos' : Pos} {x : Str} {F : List IV → M IV} {k n : Nat}
theorem psi_raiseE {E : XK} (T : OwnX X.K X.mg x) (hc : X.calm = true) (tk : Takes X (fun cls d _ H => E cls d H)) (hg : Gl X x := by rfl) (hdb : (x == ("__debug__" : Str)) = false := by decide) :
    PSI X (WX X.mg E) (.Raise (some (.Call (.Name x p) [] [] pos)) none pos') (RaiseS x) := let ⟨_, T⟩ := T; psi_raise0 T hc tk hg hdb
/-- as CallD, of a def that may raise, where it does not -/
theorem pei_callDX (C : CallOkX X.prog X.w X.K X.mg X.base x k n F) (hr : Room k X.A) (ha : PAI X W (e :: es) ma) (hg : Gl X x := by rfl) (hdb : (x == ("__debug__" : Str)) = false := by decide) (he : starEach (e :: es) X.env = (false, eval e X.env) :: starEach es X.env := by rfl)
    (hpl : (backTo pos (starEach es X.env)).any (·.1) = false := by rfl) : PEI X W (.Call (.Name x p) (e :: es) [] pos) (CallD n F ma) :=
  let ⟨_, _, _, FO, hm, hk, hb⟩ := C
  PE.weak (pe_call FO hr hg hm hk hb .nil passL ha hdb he hpl) fun σ H Q ⟨ι, h, env, R, S, r⟩ =>
    ⟨ι, h, env, R, S, (run_bind (rel1 := RVs) r).mono fun vs H1 ⟨ι1, h1, xs, R1, F1, rs, r1⟩ => by
      rw [List.append_nil]
      by_cases hp : pureIs xs = true
      · rw [if_pos hp] at r1
        obtain ⟨q0, ι2, h2, ys, q1, q2, q3⟩ := callP_run (E := E0) R1 rs r1
        exact ⟨q0, ι2, h2, ys, q1, q2, q3.w0⟩
      · rw [if_neg hp] at r1
        obtain ⟨hl, r2⟩ := run_if r1
        exact ⟨by rw [rs.length]; exact hl, ι1, h1, xs, R1, rs, (run_noex r2).w0⟩⟩
end
end Iv
set_option Elab.async false
set_option linter.all false
set_option maxRecDepth 100000
set_option maxHeartbeats 2000000
set_option autoImplicit false
namespace Iv
open PySem L2 PyProof.Rows
variable [KL]
section
variable {ι : List Addr} {H : Hp} {σ : L2.St} {env : Env}
theorem set_get {α : Type} {l : List α} {i j : Nat} {a : α} (h : i ≠ j) : (l.set i a)[j]? = l[j]? := List.getElem?_set_ne h
/-- behind an except suite: what stood in its slot is gone -/
theorem RSt.behind {i j : Nat} {va vl : V} {x : IV} (S : RSt ι H σ env) (hij : i ≠ j) (rv : RV ι H vl x) : RSt ι H (((σ.set i (some va)).set j (some vl)).set i none) ((env.set i none).set j (some x)) := by
  refine ⟨by simp [S.1], fun k y e => ?_⟩
  by_cases hk : k = j
  · subst hk
    have hl : k < env.length := by have := (List.getElem?_eq_some_iff.mp e).1; simpa using this
    rw [List.getElem?_set_self (by simpa using hl)] at e
    cases e
    refine ⟨vl, ?_, rv⟩
    rw [set_get hij, List.getElem?_set_self (by rw [List.length_set, S.1]; exact hl)]
  · rw [set_get (Ne.symm hk)] at e
    by_cases hi : k = i
    · subst hi
      have hl : k < env.length := by have := (List.getElem?_eq_some_iff.mp e).1; simpa using this
      rw [List.getElem?_set_self hl] at e
      cases e
    · rw [set_get (Ne.symm hi)] at e
      obtain ⟨v, e1, r1⟩ := S.2 k y e
      exact ⟨v, by rw [set_get (Ne.symm hi), set_get (Ne.symm hk), set_get (Ne.symm hi)]; exact e1, r1⟩
end
theorem ty_VE {X : Cx} {p : Pos} (hm : X.mg "ValueError" = none) (hg : Gl X "ValueError" := by rfl) : PE X (.Name "ValueError" p) (tC (V.ty "ValueError")) := pe_bltn (u := .type "ValueError") hg hm (by decide +kernel) rfl
section
variable {X : Cx} {W : ExW} {x v n c s : Str} {C : Addr} {e : Expr} {m : Env → M IV} {pos pos' np pv pe pc ps p1 p2 p3 p4 p5 p6 : Pos}
/-- the suite: c = ['..', isinstance(n, ValueError)] -/
def ts2 (C : Addr) (i j : Nat) (s : Str) : Addr → Value → Option Addr → TS := fun a cls d D σ H => cls = .ref C ∧ d = none ∧ (∃ σ0 : L2.St, σ = σ0.set i (some (.ref a))) ∧ ∀ l, H l = none → D.nx (σ.set j (some (.ref l))) (upd H l (.lst [.str s, .bl true]))
theorem psi_try2 (iv i j : Nat) {ks : Nat} (T : Own X.K X.mg x C) (hN : X.N.Nodup) (hmI : X.mg "isinstance" = none) (hmV : X.mg "ValueError" = none)
    (he : ∀ (Wk : L2.WX) (pn : List (Addr × Obj)) (xe : Value → Shared → Prop), Takes (X.tr pn xe) Wk → PEIs (X.tr pn xe) (fun σ => WX X.mg (WE Wk σ)) e m)
    (hs : X.stack = X.env :: X.outer := by rfl) (hf : X.env.frame = some X.env.locals := by rfl) (hiv : X.N[iv]? = some v := by rfl) (hi : X.N[i]? = some n := by rfl) (hj : X.N[j]? = some c := by rfl) (hij : i ≠ j := by decide)
    (hlv : X.env.scope.names.lookup v = some .local := by rfl) (hln : X.env.scope.names.lookup n = some .local := by rfl) (hlc : X.env.scope.names.lookup c = some .local := by rfl) (hkn : X.env.kindOf n = some .local := by rfl)
    (hg : Gl X x := by rfl) (hgI : Gl X "isinstance" := by rfl) (hgV : Gl X "ValueError" := by rfl) (hdb : (x == ("__debug__" : Str)) = false := by decide) (hdn : (n == ("__debug__" : Str)) = false := by decide) (hcn : (n == ("__classdict__" : Str)) = false := by decide)
    (hsw : swapsWith e (some (.Name v pv)) pe.line X.env = pure false := by rfl) (hsw2 : swapsWith (.List [.Constant (.str s) ks ps, .Call (.Name "isinstance" p1) [.Name n p2, .Name "ValueError" p3] [] p4] p5) (some (.Name c pc)) p6.line X.env = pure false := by rfl)
    (hst : starEach [.Constant (.str s) ks ps, .Call (.Name "isinstance" p1) [.Name n p2, .Name "ValueError" p3] [] p4] X.env = (false, eval (.Constant (.str s) ks ps) X.env) :: starEach [.Call (.Name "isinstance" p1) [.Name n p2, .Name "ValueError" p3] [] p4] X.env := by rfl)
    (hst2 : starEach [.Call (.Name "isinstance" p1) [.Name n p2, .Name "ValueError" p3] [] p4] X.env = (false, eval (.Call (.Name "isinstance" p1) [.Name n p2, .Name "ValueError" p3] [] p4) X.env) :: starEach [] X.env := by rfl)
    (hst3 : starEach [.Name n p2, .Name "ValueError" p3] X.env = (false, eval (.Name n p2) X.env) :: starEach [.Name "ValueError" p3] X.env := by rfl)
    (hst4 : starEach [.Name "ValueError" p3] X.env = (false, eval (.Name "ValueError" p3) X.env) :: starEach [] X.env := by rfl)
    (hpl : (backTo p4 (starEach [.Name "ValueError" p3] X.env)).any (·.1) = false := by rfl) :
    PSI X W (.Try [.Assign [.Name v pv] e pe] [.ExceptHandler (some (.Name x np)) (some n) [.Assign [.Name c pc] (.List [.Constant (.str s) ks ps, .Call (.Name "isinstance" p1) [.Name n p2, .Name "ValueError" p3] [] p4] p5) p6] pos'] [] [] pos)
      (TryS iv i j x m (Lst (Cons (Cst (.str s)) (Cons (Cst (.bl true)) Nil)))) := by
  refine PS.weak (ps_try_as (i := i) (c := .ref C) (tb := fun Wk => tAsg (tIs (fun σ => WX X.mg (WE Wk σ)) m) (gName iv)) (ts := ts2 C i j s) hs hf hN hi hkn ⟨hg, hdb, .inl T.gC⟩ takes0
    (fun Wk pn xe tk _ => pss_one (ps_set (X := X.tr pn xe) hN hiv (.inl hlv) (he Wk pn xe tk) hsw (.inr hlv)))
    (fun a oe cls d pn hz hfs => ⟨fun pins s' σ H D I ⟨e1, e2, ⟨σ0, e3⟩, q⟩ => ?_⟩)) fun D σ H ⟨ι, h, env, R, S, r⟩ => ?_
  · subst e1; subst e2
    have hl : i < σ0.length := by
      have h1 := I.len
      rw [e3, List.length_set] at h1
      rw [h1]; exact (List.getElem?_eq_some_iff.mp hi).1
    have hget : σ[i]? = some (some (.ref a)) := by rw [e3, List.getElem?_set_self hl]
    refine (pss_one (ps_set (X := X.suite a ((a, oe) :: pn)) (i := j) hN hj (.inl hlc) (pe_lst (pa_cons pe_str (pa_cons (pe_callB (call_isE T.is_ hz hfs) hgI hmI (by decide +kernel) (pa_cons (pe_var (i := i) hi (.inl hln) hdn hcn) (pa_cons (ty_VE hmV hgV) pa_nil hst4) hst3) (by decide) (by decide) hst3 hpl) pa_nil hst2) hst)) hsw2 (.inr hlc))).run pins s' σ H D I ?_
    exact ⟨.ref a, hget, V.ty "ValueError", .type "ValueError", true, rfl, fun u r => r, T.ve, (by show 2 ≤ sizeLine; rw [sizeLine_eq]; decide), fun l hl => q l hl⟩
  · show tI (WX X.mg (WE (wAs X.K (.ref C) i (ts2 C i j s) (fun _ _ _ _ => False) D) σ)) m σ H fun y H1 => D.nx (σ.set iv (some y)) H1
    refine ⟨ι, h, env, R, S, ?_⟩
    have r0 : Run W RFl (TryS iv i j x m (Lst (Cons (Cst (.str s)) (Cons (Cst (.bl true)) Nil))) env h) ι H (D2Q D) := r
    unfold TryS at r0
    generalize m env h = o at r0 ⊢
    match o, r0 with
    | none, r0 => exact r0
    | some (.ok y, h1), r0 =>
      intro ι1 H1 w R1 F1 rw
      exact r0 ι1 H1 (.nx (σ.set iv (some w))) R1 F1 (.nx ((S.mono R F1).set rw))
    | some (.ex ⟨cls, args⟩, h1), r0 =>
      intro ι1 H1 R1 F1
      have r1 : Run W RFl (if cls = x ∧ args.isEmpty = true then AsgS (Lst (Cons (Cst (.str s)) (Cons (Cst (.bl true)) Nil))) (TgN j) (env.set i none) h1 else none) ι H (D2Q D) := r0
      split at r1
      · rename_i hc
        obtain ⟨rfl, ha⟩ := hc
        cases args with
        | cons _ _ => cases ha
        | nil =>
          intro C' hC'
          have ec := T.gC.symm.trans hC'
          cases ec
          have em : AsgS (Lst (Cons (Cst (.str s)) (Cons (Cst (.bl true)) Nil))) (TgN j) (env.set i none) h1 = some (.ok (.nx ((env.set i none).set j (some (.ref h1.length)))), h1 ++ [.lst [.str s, .bl true]]) := by
            have el : 2 ≤ lim := by rw [lim_eq]; decide
            have q : Lst (Cons (Cst (.str s)) (Cons (Cst (.bl true)) Nil)) (env.set i none) h1 = some (.ok (.ref h1.length), h1 ++ [.lst [.str s, .bl true]]) := by
              show mkL [.str s, .bl true] h1 = _
              unfold mkL
              rw [if_pos (show ([IV.str s, IV.bl true]).length ≤ lim from el)]
            unfold AsgS M.bind
            simp only [q]
            rfl
          rw [em] at r1
          refine ⟨true, T.te, fun _ a ha => ⟨rfl, rfl, ⟨σ, rfl⟩, fun l hl => ?_⟩, fun z => nomatch z⟩
          have P := R1.push (u := .lst [.str s, .bl true]) hl ⟨[.str s, .bl true], upd_same, .cons (.str s) (.cons (.bl true) .nil)⟩
          have F2 : Fr ι1 H1 (ι1 ++ [l]) (upd H1 l (.lst [.str s, .bl true])) := fr_push hl
          refine r1 (ι1 ++ [l]) _ (.nx _) P (F1.trans F2) (.nx (((S.mono R F1).mono R1 F2).behind hij (.ref ?_)))
          rw [← R1.len, List.getElem?_append_right (Nat.le_refl _), Nat.sub_self]; rfl
      · exact r1.elim
theorem psi_try2E (iv i j : Nat) {ks : Nat} (T : OwnX X.K X.mg x) (hN : X.N.Nodup) (hmI : X.mg "isinstance" = none) (hmV : X.mg "ValueError" = none)
    (he : ∀ (Wk : L2.WX) (pn : List (Addr × Obj)) (xe : Value → Shared → Prop), Takes (X.tr pn xe) Wk → PEIs (X.tr pn xe) (fun σ => WX X.mg (WE Wk σ)) e m)
    (hs : X.stack = X.env :: X.outer := by rfl) (hf : X.env.frame = some X.env.locals := by rfl) (hiv : X.N[iv]? = some v := by rfl) (hi : X.N[i]? = some n := by rfl) (hj : X.N[j]? = some c := by rfl) (hij : i ≠ j := by decide)
    (hlv : X.env.scope.names.lookup v = some .local := by rfl) (hln : X.env.scope.names.lookup n = some .local := by rfl) (hlc : X.env.scope.names.lookup c = some .local := by rfl) (hkn : X.env.kindOf n = some .local := by rfl)
    (hg : Gl X x := by rfl) (hgI : Gl X "isinstance" := by rfl) (hgV : Gl X "ValueError" := by rfl) (hdb : (x == ("__debug__" : Str)) = false := by decide) (hdn : (n == ("__debug__" : Str)) = false := by decide) (hcn : (n == ("__classdict__" : Str)) = false := by decide)
    (hsw : swapsWith e (some (.Name v pv)) pe.line X.env = pure false := by rfl) (hsw2 : swapsWith (.List [.Constant (.str s) ks ps, .Call (.Name "isinstance" p1) [.Name n p2, .Name "ValueError" p3] [] p4] p5) (some (.Name c pc)) p6.line X.env = pure false := by rfl)
    (hst : starEach [.Constant (.str s) ks ps, .Call (.Name "isinstance" p1) [.Name n p2, .Name "ValueError" p3] [] p4] X.env = (false, eval (.Constant (.str s) ks ps) X.env) :: starEach [.Call (.Name "isinstance" p1) [.Name n p2, .Name "ValueError" p3] [] p4] X.env := by rfl)
    (hst2 : starEach [.Call (.Name "isinstance" p1) [.Name n p2, .Name "ValueError" p3] [] p4] X.env = (false, eval (.Call (.Name "isinstance" p1) [.Name n p2, .Name "ValueError" p3] [] p4) X.env) :: starEach [] X.env := by rfl)
    (hst3 : starEach [.Name n p2, .Name "ValueError" p3] X.env = (false, eval (.Name n p2) X.env) :: starEach [.Name "ValueError" p3] X.env := by rfl)
    (hst4 : starEach [.Name "ValueError" p3] X.env = (false, eval (.Name "ValueError" p3) X.env) :: starEach [] X.env := by rfl)
    (hpl : (backTo p4 (starEach [.Name "ValueError" p3] X.env)).any (·.1) = false := by rfl) :
    PSI X W (.Try [.Assign [.Name v pv] e pe] [.ExceptHandler (some (.Name x np)) (some n) [.Assign [.Name c pc] (.List [.Constant (.str s) ks ps, .Call (.Name "isinstance" p1) [.Name n p2, .Name "ValueError" p3] [] p4] p5) p6] pos'] [] [] pos)
      (TryS iv i j x m (Lst (Cons (Cst (.str s)) (Cons (Cst (.bl true)) Nil)))) :=
  let ⟨_, T⟩ := T; psi_try2 iv i j T hN hmI hmV he hs hf hiv hi hj hij hlv hln hlc hkn hg hgI hgV hdb hdn hcn hsw hsw2 hst hst2 hst3 hst4 hpl
end
end Iv
namespace Iv
open PySem L2 PyProof.Rows
variable [KL]
theorem callKX_of {P : Program} {w : World} {K : PySem.W.Frag} {mg : Str → Option Value} {base : Heap} {x : Str} {st : Stmt} {ps ks : List Str} {p : List Nat} {k n : Nat} {F : List IV → M IV} (T : TopFn K mg x st ps) (hk : TopK K mg x st ps ks p)
    (h : ∀ f fd, Fun K x x st f fd → FnOk P w K mg base (L2.CX P w) k f fd ps (spX mg n F)) : CallOkKX P w K mg base x k n F ks p :=
  let ⟨f, fd, Fn, m, _⟩ := T; ⟨f, fd, ps, h f fd Fn, m, Fn.kp, hk f fd Fn⟩
end Iv
namespace Iv
open PySem L2 PyProof.Rows
/-- an own class, by what the head shows of it -/
theorem own_of {K : PySem.W.Frag} {h : Heap} {mg : Str → Option Value} (X : K.In h) (G : h.Ns mainGlobals mg) {x : Str} {C : Addr} (a : PySem.W.nsIn K mainGlobals x = some (some (.ref C)))
    (xc : PySem.W.excIn K C [.type "ValueError", .type "Exception", .type "BaseException", .type "object"] "ValueError.__new__" = true) (kp : PySem.W.keepIn K (.ref C) = true) (sb : PySem.W.subIn K (.ref C) (.type "BaseException") = some true) (ty : PySem.W.typeIn K (.ref C) = some (.type "type"))
    (su : PySem.W.subIn K (.ref C) (.ref C) = some true) (hg : PySem.W.findIn K (.ref C) "__getattribute__" = some (some (.builtin "BaseException.__getattribute__"))) (hk : PySem.W.findIn K (.ref C) "__getattr__" = some none) (hd : PySem.W.hasDictIn K C = true)
    (ha : PySem.W.findIn K (.ref C) "__class__" = some (some (.builtin "object.__class__"))) (hn : PySem.W.specialIn K (.builtin "object.__class__") "__get__" = some (some (.builtin "getset_descriptor.__get__"))) (ht : PySem.W.takesIn K (.builtin "object.__class__") = some true)
    (hm : PySem.W.mroIn K C (.type "object") = some true) (ve : PySem.W.subIn K (.ref C) (.type "ValueError") = some true) : OwnX K mg x :=
  ⟨C, PySem.W.mg_of X G a, xc, kp, sb, ty, PySem.W.exm_ref sb hd ty su, ⟨hg, hk, sb, hd, ha, hn, ht, hm⟩, by
    have km : PySem.W.kitMeta "ValueError" = true := by decide +kernel
    show (if (Value.ref C == Value.type "ValueError") = true then some true else if PySem.W.kitMeta "ValueError" = true then PySem.W.subIn K (.ref C) (.type "ValueError") else none) = some true
    rw [if_pos km, ve]
    split <;> rfl⟩
end Iv
set_option Elab.async false
set_option linter.all false
set_option maxRecDepth 100000
set_option maxHeartbeats 2000000
set_option autoImplicit false
/-! d.get(k, x) -/
namespace Iv
open PySem L2 PyProof.Rows
variable [KL]
def chkD : IV → M Unit
  | .ref n => fun h => match h[n]? with
    | some (.dic _) => some (.ok (), h)
    | some (.fdc _) => some (.ok (), h)
    | _ => none
  | _ => stuck
def getI : IV → IV → IV → M IV
  | .ref n, y, z => fun h => match h[n]?, keyI y with
    | some (.dic kvs), some k => some (.ok ((valI kvs k).getD z), h)
    | some (.fdc kvs), some k => some (.ok ((valI kvs k).getD z), h)
    | _, _ => none
  | _, _, _ => stuck
def GetE (mo ma mb : Env → M IV) : Env → M IV := fun env => M.bind (mo env) fun x => M.bind (chkD x) fun _ => M.bind (ma env) fun y => M.bind (mb env) fun z => getI x y z
section
variable {X : Cx} {W : ExW} {e f o : Expr} {ma mb mo : Env → M IV} {apos pos : Pos}
theorem chkD_ok {ι : List Addr} {h : IH} {H : Hp} {v : V} {y : IV} {k : Unit → M IV} {Q : VK} (R : Rel ι h H) (rv : RV ι H v y) (r : Run W RV (M.bind (chkD y) k h) ι H Q) : ∃ a, v = .ref a ∧ IsD H a ∧ Run W RV (k () h) ι H Q := by
  cases rv with
  | @ref n a ea =>
    unfold M.bind chkD at r
    cases q : h[n]? with
    | none => simp only [q] at r; exact r.elim
    | some ob =>
      cases ob with
      | lst _ => simp only [q] at r; exact r.elim
      | dic kvs =>
        simp only [q] at r
        obtain ⟨a', ks, q1, _, q2, rk⟩ := R.dic (.ref ea) q
        cases q1
        exact ⟨_, rfl, .inl ⟨ks, .inl q2⟩, r⟩
      | fdc kvs =>
        simp only [q] at r
        obtain ⟨a', o, ks, q1, _, q2, rk⟩ := R.fdc (.ref ea) q
        cases q1
        exact ⟨_, rfl, .inl ⟨ks, .inr ⟨o, q2⟩⟩, r⟩
  | _ => exact r.elim
theorem getI_ok {ι : List Addr} {h : IH} {H : Hp} {v w u : V} {x y z : IV} {Q : VK} (R : Rel ι h H) (rv : RV ι H v x) (rw : RV ι H w y) (ru : RV ι H u z) (r : Run W RV (getI x y z h) ι H Q) : ∃ a o, v = .ref a ∧ DGet H a w o ∧ Q (o.getD u) H := by
  cases rv with
  | @ref n a ea =>
    have r' : Run W RV (match h[n]?, keyI y with
      | some (.dic kvs), some k => some (Out.ok ((valI kvs k).getD z), h)
      | some (.fdc kvs), some k => some (.ok ((valI kvs k).getD z), h)
      | _, _ => none) ι H Q := r
    split at r'
    · rename_i kvs kk e1 e2
      obtain ⟨a', ks, q1, _, q2, rk⟩ := R.dic (.ref ea) e1
      cases q1
      refine ⟨_, valV ks kk, rfl, by rw [key_ok rw e2]; exact DGet.k q2, ?_⟩
      rcases rk.val kk with ⟨z1, z2⟩ | ⟨u1, x1, z1, z2, ru1⟩
      · rw [z2] at r'; rw [z1]; exact run_pure (x := z) r' R ru
      · rw [z2] at r'; rw [z1]; exact run_pure (x := x1) r' R ru1
    · rename_i kvs kk e1 e2
      obtain ⟨a', ob, ks, q1, _, q2, rk⟩ := R.fdc (.ref ea) e1
      cases q1
      refine ⟨_, valV ks kk, rfl, by rw [key_ok rw e2]; exact .inl ⟨ks, kk, .inr ⟨ob, q2⟩, rfl, rfl⟩, ?_⟩
      rcases rk.val kk with ⟨z1, z2⟩ | ⟨u1, x1, z1, z2, ru1⟩
      · rw [z2] at r'; rw [z1]; exact run_pure (x := z) r' R ru
      · rw [z2] at r'; rw [z1]; exact run_pure (x := x1) r' R ru1
    · exact r'.elim
  | _ => exact r.elim
theorem pei_get (hu : X.A.units + 65 < cLine) (ho : PEI X W o mo) (ha : PEI X W e ma) (hb : PEI X W f mb) (m : M2 X o "get" apos e f pos := by exact ⟨rfl, rfl, rfl, rfl⟩) : PEI X W (.Call (.Attribute o "get" apos) [e, f] [] pos) (GetE mo ma mb) :=
  PE.weak (pe_dget2 (by omega) ho ha hb m) fun σ H Q ⟨ι, h, env, R, S, r⟩ => by
    refine ⟨ι, h, env, R, S, (run_bind (rel1 := RV) r).mono fun v H1 ⟨ι1, h1, x, R1, F1, rv, r1⟩ => ?_⟩
    obtain ⟨a, ea, d, r1⟩ := chkD_ok R1 rv r1
    refine ⟨a, ea, d, ?_⟩
    refine ⟨ι1, h1, env, R1, S.mono R F1, (run_bind (rel1 := RV) r1).mono fun w H2 ⟨ι2, h2, y, R2, F2, rw, r2⟩ => ?_⟩
    refine ⟨ι2, h2, env, R2, (S.mono R F1).mono R1 F2, (run_bind (rel1 := RV) r2).mono fun u H3 ⟨ι3, h3, z, R3, F3, ru, r3⟩ => ?_⟩
    obtain ⟨a2, o, e2, d2, q⟩ := getI_ok R3 (R2.mono F3 (R1.mono F2 rv)) (R2.mono F3 rw) ru r3
    cases ea
    cases e2
    exact ⟨o, d2, q⟩
/-- d.get(k) -/
def GetE1 (mo ma : Env → M IV) : Env → M IV := fun env => M.bind (mo env) fun x => M.bind (chkD x) fun _ => M.bind (ma env) fun y => getI x y .non
theorem pei_get1 (hu : X.A.units + 65 < cLine) (ho : PEI X W o mo) (ha : PEI X W e ma) (m : M1 X o "get" apos e pos := by exact ⟨rfl, rfl, rfl, rfl⟩) : PEI X W (.Call (.Attribute o "get" apos) [e] [] pos) (GetE1 mo ma) :=
  PE.weak (pe_dget1 (by omega) ho ha m) fun σ H Q ⟨ι, h, env, R, S, r⟩ => by
    refine ⟨ι, h, env, R, S, (run_bind (rel1 := RV) r).mono fun v H1 ⟨ι1, h1, x, R1, F1, rv, r1⟩ => ?_⟩
    obtain ⟨a, ea, d, r1⟩ := chkD_ok R1 rv r1
    refine ⟨a, ea, d, ?_⟩
    refine ⟨ι1, h1, env, R1, S.mono R F1, (run_bind (rel1 := RV) r1).mono fun w H2 ⟨ι2, h2, y, R2, F2, rw, r2⟩ => ?_⟩
    obtain ⟨a2, o, e2, d2, q⟩ := getI_ok R2 (R1.mono F2 rv) rw .non r2
    cases ea
    cases e2
    exact ⟨o, d2, q⟩
end
end Iv
set_option Elab.async false
set_option linter.all false
set_option maxRecDepth 100000
set_option maxHeartbeats 2000000
set_option autoImplicit false
/-! min(.., default=..) -/
namespace Iv
open PySem L2 PyProof.Rows
variable [KL]
variable {X : Cx} {W : ExW} {e e2 o : Expr} {es : List Expr} {ma : Env → M (List IV)} {m n mo : Env → M IV} {pos p apos : Pos} {ι : List Addr} {h : IH} {H : Hp}
def minDM : List IV → IV → M IV
  | [.ref n], d => fun h => match h[n]? with
    | some (.lst xs) => match ints? xs with
      | some [] => some (.ok d, h)
      | some (i :: is) => some (.ok (.int (minL (i :: is))), h)
      | none => none
    | _ => none
  | _, _ => stuck
theorem minL_fold (n : Int) (r : List Int) : r.foldl min n = minL (n :: r) := by
  have f : (fun a b : Int => if b < a then b else a) = min := by
    funext a b
    rcases Int.lt_or_le b a with h | h
    · rw [if_pos h]; omega
    · rw [if_neg (by omega)]; omega
  unfold minL
  rw [f, List.foldl_cons]
  show _ = r.foldl min (min n n)
  rw [Int.min_self]
def rMinDf (K : PySem.W.Frag) : List V → List V → Hp → VK → Prop := fun xs zs H Q => ∃ (a : Addr) (ns : List Int) (d : V), xs = [.ref a] ∧ zs = [d] ∧ SqL K H a (ns.map V.int) ∧ (ns = [] → Q d H) ∧ ∀ n r, ns = n :: r → Q (.int (minL (n :: r))) H
theorem call_minDf (hc : X.calm = true) (hu : X.A.units + 65 < cLine) : CallRK X (.builtin "min") ["default"] (rMinDf X.K) := by
  intro pins s σ H xs zs us ws Q I r1 r2 hh
  obtain ⟨a, ns, d, rfl, rfl, hs, q0, q1⟩ := hh
  obtain ⟨its, rv, hl, _⟩ := I.list hs
  rw [Vals.ref1 r1]
  cases r2 with
  | cons rd rn =>
    rename_i dv _
    cases rn
    obtain ⟨as, ra⟩ := reads_ints s.heap rv
    have ra' : ReadsAll s.heap its.toArray.toList (ns.map PyData.int) as := by simpa using ra
    show wpAny _ _ (call (.builtin "min") [.ref a] [(Str.ofString "default", dv)]) _ _ _
    refine PySem.W.min_list_default (I.ok.hd hc) hl.isList ra' ?_ ?_ (fun e h' tk k => ⟨d, H, I.kept k, rd, q0 (List.map_eq_nil_iff.mp e)⟩) fun y ys i v h' tk bs e hi r k => ?_
    · refine ⟨fun x hx z hz => ?_, fun x hx => ?_⟩
      · obtain ⟨i, _, rfl⟩ := List.mem_map.mp hx
        obtain ⟨j, _, rfl⟩ := List.mem_map.mp hz
        simp [PySem.W.alike]
      · obtain ⟨i, _, rfl⟩ := List.mem_map.mp hx
        exact fun z => nomatch z
    · rw [depth_ints]; omega
    · cases ns with
      | nil => cases e
      | cons n nr =>
        rw [List.map_cons] at e
        injection e with e1 e2
        subst e1; subst e2
        rw [PySem.W.minD_ints, minL_fold] at r
        cases r with
        | int _ t => exact ⟨.int _, H, I.kept k, ⟨t, rfl⟩, q1 n nr rfl⟩
def MinDf (a : Env → M (List IV)) (d : Env → M IV) : Env → M IV := fun env => M.bind (a env) fun xs => M.bind (d env) fun y => minDM xs y
theorem pei_minDf (hc : X.calm = true) (hu : X.A.units + 65 < cLine) (hm : X.mg "min" = none) (ha : PAI X W [e] ma) (hd : PEI X W e2 n) {kpos : Pos} (hg : Gl X "min" := by rfl)
    (he : backTo pos (starEach [e] X.env) = (false, eval e X.env) :: backTo pos (starEach [] X.env) := by rfl) (hpl : (backTo pos (starEach [e] X.env)).any (·.1) = false := by rfl)
    (hall : (backToKw pos (keywordEach [⟨some ("default" : Str), e2, kpos⟩] X.env)).all (·.1.isSome) = true := by rfl) (hnone : (backToKw pos (keywordEach [⟨some ("default" : Str), e2, kpos⟩] X.env)).any (·.1.isNone) = false := by rfl) (hks : (backToKw pos (keywordEach [⟨some ("default" : Str), e2, kpos⟩] X.env)).filterMap (·.1) = [("default" : Str)] := by rfl) :
    PEI X W (.Call (.Name "min" p) [e] [⟨some ("default" : Str), e2, kpos⟩] pos) (MinDf ma n) := by
  refine PE.weak (pe_callBK (call_minDf hc hu) hg hm (by decide +kernel) ha (pki_cons hd pki_nil) (by decide) (by decide) he hpl hall hnone hks) fun σ H Q ⟨ι, h, env, R, S, r⟩ => ?_
  refine ⟨ι, h, env, R, S, (run_bind (rel1 := RVs) r).mono fun vs H1 ⟨ι1, h1, xs, R1, F1, rs, r1⟩ => ?_⟩
  refine ⟨ι1, h1, env, R1, S.mono R F1, ?_⟩
  have r2 : Run W RV (M.bind (n env) (fun y => minDM xs y) h1) ι1 H1 Q := r1
  have r3 : Run W RVs (Cons n Nil env h1) ι1 H1 fun zs H2 => ∃ ι2 h2 y v, Rel ι2 h2 H2 ∧ Fr ι1 H1 ι2 H2 ∧ zs = [v] ∧ RV ι2 H2 v y ∧ Run W RV (minDM xs y h2) ι2 H2 Q := by
    have q := run_bind (rel1 := RV) r2
    unfold Cons
    unfold M.bind
    generalize n env h1 = o at q ⊢
    match o, q with
    | none, q => exact q
    | some (.ex _, _), q => exact q
    | some (.ok y, h2), q =>
      intro ι2 H2 zs R2 F2 rz
      cases rz with
      | cons rv rn =>
        cases rn
        obtain ⟨ι3, h3, y3, R3, F3, rv3, r4⟩ := q ι2 H2 _ R2 F2 rv
        exact ⟨ι3, h3, y3, _, R3, F3, rfl, rv3, r4⟩
  refine r3.mono fun zs H2 ⟨ι2, h2, y, v, R2, F2, ez, rv, r4⟩ => ?_
  subst ez
  have rs2 := R1.monos F2 rs
  cases rs2 with
  | nil => exact r4.elim
  | @cons w x _ _ rx rr =>
    cases rr with
    | cons _ _ => cases rx <;> exact r4.elim
    | nil =>
      cases rx with
      | @ref k a ea =>
        have r5 : Run W RV (match h2[k]? with
          | some (.lst xs) => match ints? xs with
            | some [] => some (.ok y, h2)
            | some (i :: is) => some (.ok (.int (minL (i :: is))), h2)
            | none => none
          | _ => none) ι2 H2 Q := r4
        split at r5
        · rename_i ys e1
          obtain ⟨a', vs', z1, _, z2, rs3⟩ := R2.lst (.ref ea) e1
          cases z1
          split at r5
          · rename_i e3
            have := ints?_eq e3
            subst this
            have ev := rs3.ints
            subst ev
            exact ⟨_, [], v, rfl, rfl, sq_of z2, fun _ => run_pure (x := y) r5 R2 rv, fun _ _ z => nomatch z⟩
          · rename_i i is e3
            have := ints?_eq e3
            subst this
            have ev := rs3.ints
            subst ev
            exact ⟨_, i :: is, v, rfl, rfl, sq_of z2, (fun z => nomatch z), fun n' r' z => by cases z; exact run_pure (x := IV.int _) r5 R2 (.int _)⟩
          · exact r5.elim
        · exact r5.elim
      | _ => exact r4.elim
end Iv
set_option Elab.async false
set_option linter.all false
set_option maxRecDepth 100000
set_option maxHeartbeats 2000000
set_option autoImplicit false
/-! objects of own classes of errors as values: X(), isinstance of them -/
namespace Iv
open PySem L2 PyProof.Rows
variable [KL]
/-- what is known of such a class -/
structure ExF (K : PySem.W.Frag) (D : Addr) : Prop where
  is_ : ExcC K D
  tup : PySem.W.kitOne K (.ref D) (.type "tuple") = some false
  str : PySem.W.kitOne K (.ref D) (.type "str") = some false
/-- what the written part allows -/
structure KLOk (K : PySem.W.Frag) : Prop where
  l : ∀ a vs H, KL.p a vs → SqL K H a vs
  x : ∀ D, KL.ex D ↔ ExF K D
def OwnV (K : PySem.W.Frag) (mg : Str → Option Value) (x : Str) : Prop := ∃ C, Own K mg x C ∧ ExF K C
def NewX : Env → M IV := fun _ h => some (.ok .exo, h)
section
variable {X : Cx} {W : ExW} {x : Str} {e c1 : Expr} {m : Env → M IV} {p pos : Pos}
theorem pei_bare (T : OwnV X.K X.mg x) (hk : KLOk X.K) (hg : Gl X x := by rfl) (hdb : (x == ("__debug__" : Str)) = false := by decide) : PEI X W (.Call (.Name x p) [] [] pos) NewX := ⟨fun pins s σ H Q I ⟨ι, h, env, R, S, r⟩ => by
  obtain ⟨C, T, F⟩ := T
  refine wpAny_Call_Name_kw (ld_glob I hg T.gC ?_ hdb)
  refine PySem.W.callWith_K0 I.kIn T.kC ?_
  obtain ⟨_, _, _, _, _, _, _, _, _, _, _, _, _, _, _, _, _, hC, hN, hni, U⟩ := exc_obj I.kIn T.exc
  refine wpAny_call_exc_subT PySem.F.excBase_ValueError U hC hN hni (fun h' e hm => ?_) (Nat.zero_le _)
  have hn : H e = none := I.hok.gone hm.new
  obtain ⟨t, h1, h2, h3⟩ := hm.there
  have I2 : Inv X pins σ (upd H e (ExO (.ref C) e)) _ := I.laidN (t' := s.toks) hm.keeps hm.new hn (exO_ok h1 ⟨rfl, rfl⟩ rfl rfl rfl (by show 4 < 6; decide))
  exact ⟨.ref e, _, I2, rfl, r ι _ (.ref e) (R.new hn) (fr_new hn) (.exo upd_same (R.fresh_out hn) ((hk.x C).mpr F))⟩⟩
/-- isinstance of such an object -/
def rIsX (K : PySem.W.Frag) : List V → Hp → VK → Prop := fun xs H Q => ∃ a c D u b, xs = [.ref a, c] ∧ ClsV c u ∧ H a = some (ExO (.ref D) a) ∧ ExcC K D ∧ PySem.W.kitOne K (.ref D) u = some b ∧ Q (.bl b) H
theorem call_isX : CallR X (.builtin "isinstance") (rIsX X.K) := by
  intro pins s σ H vs us Q I r hh
  obtain ⟨a, c, D, u, b, rfl, hc, ha, F, hb, q⟩ := hh
  match us, r with
  | [w, z], .cons rx (.cons rc .nil) =>
    have ew : w = .ref a := rx
    have ez : z = u := by
      cases hc with
      | ty n => exact rc
      | own C => exact rc
    subst ew; subst ez
    have ok := I.hok _ _ ha
    unfold ExO at ok
    simp only [ObjOk] at ok
    obtain ⟨⟨oe, fs, g1, g2, g3, _⟩, _⟩ := ok
    have hat : PySem.W.InstAt s.heap a oe D none := ⟨g1, g2.1, by unfold PySem.W.notCls; rw [g3], by rw [g2.2]; trivial⟩
    refine PySem.W.kia_one (PySem.W.handS_kitx_exc (ox := oe) F.hg F.hk F.hs F.hd F.ha F.hn F.ht F.hm) I.kIn hat hb (by intro e; cases e) fun tk => ⟨.bl b, H, I.kept (fun _ _ e => e), rfl, q⟩
def rIsU (K : PySem.W.Frag) : List V → Hp → VK → Prop := fun xs H Q => rIsi K xs H Q ∨ rIsX K xs H Q
theorem call_isU : CallR X (.builtin "isinstance") (rIsU X.K) := fun pins s σ H xs us Q I r hh => hh.elim (fun z => call_isi pins s σ H xs us Q I r z) fun z => call_isX pins s σ H xs us Q I r z
def isXI (t : Ty) : IV → M IV
  | .exo => fun h => if t = .tup ∨ t = .str then some (.ok (.bl false), h) else none
  | x => fun h => match tyI h x with
    | some u => some (.ok (.bl (u.isA t)), h)
    | none => none
def IsiX (t : Ty) (m : Env → M IV) : Env → M IV := fun env => M.bind (m env) (isXI t)
theorem pei_isiX (t : Ty) (hk : KLOk X.K) (hm : X.mg "isinstance" = none) (h1 : PE X c1 (tC (V.ty t.name))) (he : PEI X W e m) (hg : Gl X "isinstance" := by rfl)
    (hs : starEach [e, c1] X.env = (false, eval e X.env) :: starEach [c1] X.env := by rfl) (hs1 : starEach [c1] X.env = (false, eval c1 X.env) :: starEach [] X.env := by rfl) (hpl : (backTo pos (starEach [c1] X.env)).any (·.1) = false := by rfl) : PEI X W (.Call (.Name "isinstance" p) [e, c1] [] pos) (IsiX t m) := by
  refine PE.weak (pe_callB call_isU hg hm (by decide +kernel) (pa_cons he (pa_cons h1 pa_nil hs1) hs) (by decide) (by decide) hs hpl) fun σ H Q ⟨ι, h, env, R, S, r⟩ => ?_
  refine ⟨ι, h, env, R, S, (run_bind (rel1 := RV) r).mono fun v H1 ⟨ι1, h1, y, R1, F1, rv, r1⟩ => ?_⟩
  have base : ∀ u, tyI h1 y = some u → Run W RV (some (.ok (.bl (u.isA t)), h1)) ι1 H1 Q → rIsU X.K [v, V.ty t.name] H1 Q := fun u q r2 => .inl ⟨v, _, _, _, u.isA t, rfl, .ty _, ty_ok R1 rv q, kit_ty (kit_isA u t), run_pure (x := IV.bl (u.isA t)) r2 R1 (.bl _)⟩
  have go : y ≠ .exo → rIsU X.K [v, V.ty t.name] H1 Q := fun ne => by
    have e : isXI t y h1 = match tyI h1 y with
      | some u => some (.ok (.bl (u.isA t)), h1)
      | none => none := by cases y <;> first | rfl | exact absurd rfl ne
    rw [e] at r1
    cases q : tyI h1 y with
    | none => rw [q] at r1; exact r1.elim
    | some u => rw [q] at r1; exact base u q r1
  cases rv with
  | exo ea hn hx =>
    have r2 : Run W RV (if t = .tup ∨ t = .str then some (.ok (.bl false), h1) else none) ι1 H1 Q := r1
    split at r2
    · rename_i ht
      have F := (hk.x _).mp hx
      refine .inr ⟨_, _, _, .type t.name, false, rfl, .ty _, ea, F.is_, ?_, run_pure (x := IV.bl false) r2 R1 (.bl _)⟩
      rcases ht with rfl | rfl
      · exact F.tup
      · exact F.str
    · exact r2.elim
  | _ => exact go (fun z => nomatch z)
end
end Iv
namespace Iv
open PySem L2 PyProof.Rows
theorem ownV_of {K : PySem.W.Frag} {mg : Str → Option Value} {x : Str} (T : OwnX K mg x) (nt : ∀ C, mg x = some (.ref C) → PySem.W.subIn K (.ref C) (.type "tuple") = some false ∧ PySem.W.subIn K (.ref C) (.type "str") = some false) : OwnV K mg x := by
  obtain ⟨C, T⟩ := T
  obtain ⟨n1, n2⟩ := nt C T.gC
  have one : ∀ n : String, PySem.W.kitMeta n = true → PySem.W.subIn K (.ref C) (.type n) = some false → PySem.W.kitOne K (.ref C) (.type n) = some false := fun n km h => by
    show (if (Value.ref C == Value.type n) = true then some true else if PySem.W.kitMeta n = true then PySem.W.subIn K (.ref C) (.type n) else none) = some false
    rw [if_pos km, h]
    rfl
  exact ⟨C, T, T.is_, one _ (by decide +kernel) n1, one _ (by decide +kernel) n2⟩
theorem ownV_mk {K : PySem.W.Frag} {h : Heap} {mg : Str → Option Value} (X : K.In h) (G : h.Ns mainGlobals mg) {x : Str} {C : Addr} (T : OwnX K mg x) (a : PySem.W.nsIn K mainGlobals x = some (some (.ref C)))
    (tu : PySem.W.subIn K (.ref C) (.type "tuple") = some false) (st : PySem.W.subIn K (.ref C) (.type "str") = some false) : OwnV K mg x :=
  ownV_of T fun C' h => by
    have := (PySem.W.mg_of X G a).symm.trans h
    cases this; exact ⟨tu, st⟩
end Iv
namespace Iv
open PySem L2 PyProof.Rows
variable [KL]
/-! list(text) -/
section
variable {X : Cx} {W : ExW} {e : Expr} {ma : Env → M (List IV)} {p pos : Pos}
theorem call_listS (hc : X.calm = true) : CallR X (.type "list") (fun xs H Q => ∃ s : Str, xs = [.str s] ∧ s.length ≤ lim ∧ ∀ l, H l = none → Q (.ref l) (upd H l (.lst (signsV s)))) := by
  intro pins s σ H vs us Q I r hh
  obtain ⟨x, rfl, hl, q⟩ := hh
  match us, r with
  | [w], .cons ru .nil =>
    obtain ⟨t, rfl⟩ := ru
    have hl2 : x.cps.size ≤ 100000 := by have := hl; rw [lim_eq] at this; exact this
    have nn : s.heap.get? s.heap.objs.size = none := by simp [Heap.get?]
    refine PySem.call_list_str (I.ok.hd hc) x t (fun h' tk acc c k g ia => ?_) (Nat.le_trans hl2 (by rw [sizeLine_eq]; decide))
    have hn : H s.heap.objs.size = none := I.hok.gone nn
    have hv : Vals (signsV x) acc.toList := vals_signs (x := x) (by rw [Array.length_toList, Array.length_toList]; exact ia.1) fun j v e => by
      obtain ⟨c, u, e1, e2⟩ := ia.2 j v (by simpa using e)
      exact ⟨c, u, by simpa using e1, e2⟩
    refine ⟨.ref _, _, I.laidN (t' := tk) (o := .lst (signsV x)) k nn hn ?_, rfl, q _ hn⟩
    refine ⟨?_, acc.toList, c, hv, ?_⟩
    · unfold signsV
      rw [List.length_map, Array.length_toList]
      exact Nat.le_trans hl2 (by rw [sizeLine_eq]; decide)
    · simpa using g
def listStrM : List IV → M IV
  | [.str s] => if s.length ≤ lim then fun h => some (.ok (.ref h.length), h ++ [.lst (s.cps.toList.map fun c => .str ⟨#[c]⟩)]) else stuck
  | _ => stuck
theorem ri_listStr : RIL W (fun xs H Q => ∃ s : Str, xs = [.str s] ∧ s.length ≤ lim ∧ ∀ l, H l = none → Q (.ref l) (upd H l (.lst (signsV s)))) listStrM := by
  intro ι h H vs xs Q R rs r
  cases rs with
  | nil => exact r.elim
  | @cons v x _ _ rv rs =>
    cases rs with
    | cons _ _ => cases rv <;> exact r.elim
    | nil =>
      cases rv with
      | str s =>
        have r' : Run W RV ((if s.length ≤ lim then (fun h => some (.ok (.ref h.length), h ++ [Iv.IO.lst (s.cps.toList.map fun c => IV.str ⟨#[c]⟩)])) else stuck : M IV) h) ι H Q := r
        obtain ⟨hl, r2⟩ := run_if r'
        refine ⟨s, rfl, hl, fun l hn => ?_⟩
        exact r2 (ι ++ [l]) _ (.ref l) (R.push (u := .lst _) hn ⟨_, upd_same, RVs.signs s⟩) (fr_push hn) (.ref (by rw [← R.len, List.getElem?_append_right (Nat.le_refl _), Nat.sub_self]; rfl))
      | _ => exact r.elim
theorem pei_listStr (hc : X.calm = true) (hm : X.mg "list" = none) (ha : PAI X W [e] ma) (hg : Gl X "list" := by rfl) (he : starEach [e] X.env = (false, eval e X.env) :: starEach [] X.env := by rfl) : PEI X W (.Call (.Name "list" p) [e] [] pos) (CallB listStrM ma) :=
  pei_callT ri_listStr (call_listS hc) hm (by decide +kernel) ha hg (by decide) (by decide) he
end
end Iv
namespace Iv
open PySem L2 PyProof.Rows
/-! tuple(dict) -/
theorem code_tuple_new_dict {prog : Program} {w : World} {A : Around} {E : Value → Shared → Prop} {s : Shared} {d : Addr} {n : Nat} {P : Nat → Value → Prop} {OK : Heap → Prop} {Q₁ : Value → Shared → Prop}
    (Sr : W.KdlSrc prog w "dict" d d n P OK) (hh : A.handled = none) (ok : OK s.heap) (hn : n ≤ sizeLine)
    (k : ∀ (h' : Heap) (tk : Nat) (acc : Array Value), (∀ (b : Addr) (o : Obj), s.heap.get? b = some o → h'.get? b = some o) → ItemsOf P acc n →
      Q₁ (.ref h'.objs.size) { heap := h'.push { cls := .type "tuple", data := .seq acc }, gens := s.gens, drawn := s.drawn, toks := tk, os := s.os }) :
    codeAny (model prog w) A (.call (.builtin "tuple.__new__") ⟨[.type "tuple", .ref d], []⟩) (wants Q₁ E) s := by
  refine codeAny_of_tree ?_
  refine wpAny_bind (wpAny_of_eq (F.newCall_tuple_1 _) ?_)
  refine wpAny_pure ?_
  refine ⟨plainId_quiet F.plain_tuple_new _, ?_⟩
  refine codeAny_builtin F.entry_tuple_new ?_
  rw [Around.under_plainId F.plain_tuple_new]
  unfold Builtin.«tuple.__new__»
  dsimp only
  refine wpAny_bind (wpAny_of_eq (a := true) rfl ?_)
  refine wpAny_ite_false rfl ?_
  refine wpAny_bind (wpAny_of_eq sub_tuple_self ?_)
  refine wpAny_ite_false rfl ?_
  refine wpAny_ite_false (by decide +kernel) ?_
  refine wpAny_bind (wpAny_of_eq madeHere_tuple ?_)
  refine wpAny_bind (wpAny_of_eq init_tuple_lookup ?_)
  refine wpAny_ite_true (by decide +kernel) ?_
  refine wpAny_bind (wpAny_of_eq (a := ()) rfl ?_)
  refine wpAny_bind (wpAny_of_eq (a := ()) rfl ?_)
  refine wpAny_ite_true (by decide +kernel) ?_
  refine wpAny_bind ?_
  unfold Builtin.Tuple.tupleIsExact
  refine wpAny_bind (wpAny_typeOf (Sr.type s ok) ?_)
  refine wpAny_pure ?_
  refine wpAny_ite_false (by decide +kernel) ?_
  refine wpAny_bind (W.kdu_collect Sr hh ok hn fun h' tk acc keep ia => ?_)
  refine wpAny_bind (wpAny_pure ?_)
  refine wpAny_bind (wpAny_newObj_type ?_ (by show acc.toList.toArray.size ≤ sizeLine; simp; rw [ia.1]; exact hn))
  exact wpAny_pure (by have := k h' tk acc keep ia; simpa using this)
theorem call_tuple_dict {prog : Program} {w : World} {A : Around} {E : Value → Shared → Prop} {s : Shared} {d : Addr} {n : Nat} {P : Nat → Value → Prop} {OK : Heap → Prop} {Q : Value → Shared → Prop}
    (Sr : W.KdlSrc prog w "dict" d d n P OK) (hh : A.handled = none) (ok : OK s.heap) (hn : n ≤ sizeLine)
    (k : ∀ (h' : Heap) (tk : Nat) (acc : Array Value), (∀ (b : Addr) (o : Obj), s.heap.get? b = some o → h'.get? b = some o) → ItemsOf P acc n →
      Q (.ref h'.objs.size) { heap := h'.push { cls := .type "tuple", data := .seq acc }, gens := s.gens, drawn := s.drawn, toks := tk, os := s.os }) :
    wpAny (model prog w) A (call (.type "tuple") [.ref d]) Q E s := by
  refine callType_codes F.called_tuple (F.typeCall_tuple_1 _) F.entry_object_init (code_tuple_new_dict (Q₁ := fun obj s1 => s1.TypeIs obj "tuple" ∧ Q obj s1) Sr hh ok hn fun h' tk acc k1 k2 => ?_) fun obj s1 q => ⟨q.1, F.args_object_init_2 _ _, ?_⟩
  · exact ⟨⟨_, Heap.get?_push_size _ rfl, rfl⟩, k h' tk acc k1 k2⟩
  · exact object_init_meets (Slot.lookup F.called_tuple.init) F.called_tuple.made (by decide +kernel) _ _ _ _ _ ⟨q.1, rfl, q.2⟩
def rTupD : List V → Hp → VK → Prop := fun xs H Q => ∃ p kvs, xs = [.ref p] ∧ H p = some (.dK kvs) ∧ ∀ q, H q = none → Q (.ref q) (upd H q (.tup (kvs.map fun kv => kV kv.1)))
theorem call_tupleD {X : Cx} (hc : X.calm = true) : CallR X (.type "tuple") rTupD := by
  intro pins s σ H xs us Q I r hh
  obtain ⟨p, kvs, rfl, e, q⟩ := hh
  rw [Vals.ref1 r]
  have ok := I.hok _ _ e
  simp only [ObjOk] at ok
  obtain ⟨hl, hsys, vs, kv, hd⟩ := ok
  obtain ⟨ep, hda⟩ := hd.dictAt
  have hlen : vs.length = kvs.length := (Paired.length kv).symm
  refine call_tuple_dict (PySem.W.kdl_dict (knd := mixKind X.prog X.w) (kvs := vs) (ep := ep) hsys) (I.ok.hd hc) hda (by omega) fun h' tk acc keep ia => ?_
  have I1 : Inv X pins σ H { s with heap := h', toks := tk } := I.kept keep
  have ks := kv.keys
  have hv : Vals (kvs.map fun kv => kV kv.1) acc.toList := vals_of_at (by have := ia.1; rw [List.length_map, ← hlen, ← this]; rfl) fun j x u ex eu => by
    obtain ⟨k, y, e1, e2⟩ := ia.2 j u (by simpa using eu)
    rw [List.getElem?_map] at ex
    have : (kvs.map (·.1))[j]? = (vs.map (·.1))[j]? := by rw [ks]
    rw [List.getElem?_map, List.getElem?_map, e1] at this
    cases q2 : kvs[j]? with
    | none => rw [q2] at ex; cases ex
    | some z =>
      rw [q2] at ex this
      cases ex
      have : z.1 = k := Option.some.inj this
      show L2.RelV (kV z.1) u
      rw [this]
      exact keyIs_rel e2
  refine ⟨.ref _, _, I1.laid (t' := tk) (o := .tup (kvs.map fun kv => kV kv.1)) (fun b ob z => Heap.get?_push_of_some _ z) (Nat.le_refl _) ?_, rfl, q _ (I1.hok.fresh (Nat.le_refl _))⟩
  refine ⟨?_, acc.toList, hv, ?_⟩
  · rw [List.length_map]; exact hl
  · exact ⟨_, Heap.get?_push_size _ rfl, rfl, 0, by simp⟩
variable [KL]
def tupDM : List IV → M IV
  | [.ref n] => fun h => match h[n]? with
    | some (.dic kvs) => some (.ok (.tup (kvs.map fun kv => match kv.1 with | .inl i => .int i | .inr s => .str s)), h)
    | _ => none
  | _ => stuck
section
variable {X : Cx} {W : ExW} {e : Expr} {ma : Env → M (List IV)} {p pos : Pos}
theorem ri_tupD : RIL W rTupD tupDM := by
  intro ι h H vs xs Q R rs r
  cases rs with
  | nil => exact r.elim
  | @cons v x _ _ rv rs =>
    cases rs with
    | cons _ _ => cases rv <;> exact r.elim
    | nil =>
      cases rv with
      | @ref n a ea =>
        have r' : Run W RV (match h[n]? with
          | some (.dic kvs) => some (.ok (.tup (kvs.map fun kv => match kv.1 with | .inl i => IV.int i | .inr s => .str s)), h)
          | _ => none) ι H Q := r
        split at r'
        · rename_i kvs q
          obtain ⟨a', ks, q1, _, q2, r1⟩ := R.dic (.ref ea) q
          cases q1
          refine ⟨_, ks, rfl, q2, fun t ht => ?_⟩
          exact r' ι _ (.ref t) (R.new ht) (fr_new ht) (.tup upd_same (R.monos (fr_new ht) r1.keys))
        · exact r'.elim
      | _ => exact r.elim
theorem pei_tupD (hc : X.calm = true) (hm : X.mg "tuple" = none) (ha : PAI X W [e] ma) (hg : Gl X "tuple" := by rfl) (he : starEach [e] X.env = (false, eval e X.env) :: starEach [] X.env := by rfl) : PEI X W (.Call (.Name "tuple" p) [e] [] pos) (CallB tupDM ma) :=
  pei_callT ri_tupD (call_tupleD hc) hm (by decide +kernel) ha hg (by decide) (by decide) he
end
end Iv
set_option Elab.async false
set_option linter.all false
set_option maxRecDepth 100000
set_option maxHeartbeats 2000000
set_option autoImplicit false
/-! min of rows; list(range(a, b)) -/
namespace Iv
open PySem L2 PyProof.Rows
variable [KL]
def rMinT (K : PySem.W.Frag) : List V → Hp → VK → Prop := fun vs H Q => ∃ (a : Addr) (xs : List V) (d0 : PyData) (r : List PyData), vs = [.ref a] ∧ SqL K H a xs ∧ DpAll K H xs (d0 :: r) ∧ PySem.W.AllAlike (d0 :: r) ∧ (∀ d ∈ d0 :: r, d ≠ PyData.none) ∧ PyData.depthAll (d0 :: r) ≤ 60 ∧
  ∀ (i : Nat) (x : V), xs[i]? = some x → (d0 :: r)[i]? = some (PySem.W.minD d0 r) → Q x H
theorem dp_get {X : Cx} {pins : List (Addr × Obj)} {σ : L2.St} {H : Hp} {s : Shared} (I : Inv X pins σ H s) : ∀ {xs : List V} {ds : List PyData} {us : List Value}, DpAll X.K H xs ds → Vals xs us → ∀ (i : Nat) (u : Value), us[i]? = some u → ∃ x d as, xs[i]? = some x ∧ ds[i]? = some d ∧ RelV x u ∧ Reads s.heap u d as
  | _, _, _, .nil, .nil, i, u, e => by simp at e
  | _, _, _, .cons a r, .cons b t, 0, u, e => by
    simp at e
    subst e
    obtain ⟨as, q⟩ := Dp.reads I _ _ _ a b
    exact ⟨_, _, as, rfl, rfl, b, q⟩
  | _, _, _, .cons a r, .cons b t, i + 1, u, e => dp_get I r t i u (by simpa using e)
theorem dp_all {X : Cx} {pins : List (Addr × Obj)} {σ : L2.St} {H : Hp} {s : Shared} (I : Inv X pins σ H s) : ∀ {xs : List V} {ds : List PyData} {us : List Value}, DpAll X.K H xs ds → Vals xs us → ∃ as, ReadsAll s.heap us ds as
  | _, _, _, .nil, .nil => ⟨_, .nil⟩
  | _, _, _, .cons a r, .cons b t => by
    obtain ⟨as, q⟩ := Dp.reads I _ _ _ a b
    obtain ⟨bs, q2⟩ := dp_all I r t
    exact ⟨_, .cons q q2⟩
section
variable {X : Cx} {W : ExW} {e e2 : Expr} {ma : Env → M (List IV)} {pos p pos2 p2 : Pos} {ι : List Addr} {h : IH} {H : Hp}
theorem cr_minT (hc : X.calm = true) (hu : X.A.units + 65 < cLine) : CallR X (.builtin "min") (rMinT X.K) := by
  intro pins s σ H vs us Q I rr hh
  obtain ⟨a, xs, d0, r, rfl, hs, hd, hal, hn, hdep, q⟩ := hh
  obtain ⟨its, rv, hl, hz⟩ := I.list hs
  rw [Vals.ref1 rr]
  obtain ⟨as, ra⟩ := dp_all I hd rv
  have ra' : ReadsAll s.heap its.toArray.toList (d0 :: r) as := by simpa using ra
  refine PySem.W.min_list_data (I.ok.hd hc) hl.isList ra' ⟨fun x hx y hy => hal x hx y hy, hn⟩ (by omega) fun i v h' tk bs hv hr keep => ?_
  obtain ⟨x, d, as2, e1, e2, e3, e4⟩ := dp_get I hd rv i v (by simpa using hv)
  have := (PySem.W.reads_keeps keep e4).unique _ _ hr
  exact ⟨x, H, I.kept keep, e3, q i x e1 (by rw [e2, this.1])⟩
/-- the least of pairs -/
def minP (p : IV × PyData) (l : List (IV × PyData)) : IV × PyData := l.foldl (fun a y => if PySem.W.dataLt y.2 a.2 = true then y else a) p
theorem minP_snd : ∀ (l : List (IV × PyData)) (p : IV × PyData), (minP p l).2 = PySem.W.minD p.2 (l.map (·.2))
  | [], p => rfl
  | y :: l, p => by
    show (minP (if PySem.W.dataLt y.2 p.2 = true then y else p) l).2 = PySem.W.minD (if PySem.W.dataLt y.2 p.2 = true then y.2 else p.2) (l.map (·.2))
    rw [minP_snd l]
    split <;> rfl
theorem minP_mem : ∀ (l : List (IV × PyData)) (p : IV × PyData), minP p l ∈ p :: l
  | [], p => by simp [minP]
  | y :: l, p => by
    show minP (if PySem.W.dataLt y.2 p.2 = true then y else p) l ∈ p :: y :: l
    have := minP_mem l (if PySem.W.dataLt y.2 p.2 = true then y else p)
    rcases List.mem_cons.mp this with e | e
    · rw [e]; split <;> simp
    · exact List.mem_cons_of_mem _ (List.mem_cons_of_mem _ e)
theorem enc_inj {h : IH} : ∀ (k : Nat) (x y : IV) (d : PyData), pureI x = true → pureI y = true → encH h k x = some d → encH h k y = some d → x = y
  | 0, _, _, _, _, _, e, _ => by cases e
  | k + 1, x, y, d, px, py, ex, ey => by
    have all : ∀ (xs ys : List IV) (ds : List PyData), pureIs xs = true → pureIs ys = true → xs.mapM (encH h k) = some ds → ys.mapM (encH h k) = some ds → xs = ys := by
      intro xs
      induction xs with
      | nil =>
        intro ys ds _ _ e1 e2
        cases e1
        cases ys with
        | nil => rfl
        | cons y ys =>
          rw [List.mapM_cons] at e2
          cases q : encH h k y with
          | none => rw [q] at e2; cases e2
          | some d => rw [q] at e2; cases q2 : ys.mapM (encH h k) with
            | none => rw [q2] at e2; cases e2
            | some _ => rw [q2] at e2; cases e2
      | cons x xs ih =>
        intro ys ds p1 p2 e1 e2
        rw [List.mapM_cons] at e1
        cases q : encH h k x with
        | none => rw [q] at e1; cases e1
        | some d1 =>
          rw [q] at e1
          cases q2 : xs.mapM (encH h k) with
          | none => rw [q2] at e1; cases e1
          | some ds1 =>
            rw [q2] at e1
            cases e1
            cases ys with
            | nil => cases e2
            | cons y ys =>
              rw [List.mapM_cons] at e2
              cases r : encH h k y with
              | none => rw [r] at e2; cases e2
              | some d2 =>
                rw [r] at e2
                cases r2 : ys.mapM (encH h k) with
                | none => rw [r2] at e2; cases e2
                | some ds2 =>
                  rw [r2] at e2
                  cases e2
                  rw [pureIs, Bool.and_eq_true] at p1 p2
                  rw [enc_inj k x y _ p1.1 p2.1 q r, ih ys _ p1.2 p2.2 q2 r2]
    have tup : ∀ (xs : List IV) (d : PyData), encH h (k + 1) (.tup xs) = some d → ∃ ds, xs.mapM (encH h k) = some ds ∧ d = .tuple ds := fun xs d e => by
      unfold encH at e
      cases q : xs.mapM (encH h k) with
      | none => rw [q] at e; cases e
      | some ds => rw [q] at e; cases e; exact ⟨ds, rfl, rfl⟩
    cases x with
    | non => cases ex; cases y with
      | non => rfl
      | tup ys => obtain ⟨_, _, z⟩ := tup ys _ ey; cases z
      | fl _ => simp [pureI] at py
      | kl _ => simp [pureI] at py
      | ref _ => simp [pureI] at py
      | exo => simp [pureI] at py
      | _ => cases ey
    | bl b => cases ex; cases y with
      | bl c => cases ey; rfl
      | tup ys => obtain ⟨_, _, z⟩ := tup ys _ ey; cases z
      | fl _ => simp [pureI] at py
      | kl _ => simp [pureI] at py
      | ref _ => simp [pureI] at py
      | exo => simp [pureI] at py
      | _ => cases ey
    | int b => cases ex; cases y with
      | int c => cases ey; rfl
      | tup ys => obtain ⟨_, _, z⟩ := tup ys _ ey; cases z
      | fl _ => simp [pureI] at py
      | kl _ => simp [pureI] at py
      | ref _ => simp [pureI] at py
      | exo => simp [pureI] at py
      | _ => cases ey
    | str b => cases ex; cases y with
      | str c => cases ey; rfl
      | tup ys => obtain ⟨_, _, z⟩ := tup ys _ ey; cases z
      | fl _ => simp [pureI] at py
      | kl _ => simp [pureI] at py
      | ref _ => simp [pureI] at py
      | exo => simp [pureI] at py
      | _ => cases ey
    | tup xs =>
      obtain ⟨ds, e1, rfl⟩ := tup xs _ ex
      cases y with
      | tup ys =>
        obtain ⟨ds2, e2, z⟩ := tup ys _ ey
        cases z
        rw [all xs ys _ (by simpa [pureI] using px) (by simpa [pureI] using py) e1 e2]
      | fl _ => simp [pureI] at py
      | kl _ => simp [pureI] at py
      | ref _ => simp [pureI] at py
      | exo => simp [pureI] at py
      | _ => cases ey
    | fl _ => simp [pureI] at px
    | kl _ => simp [pureI] at px
    | ref _ => simp [pureI] at px
    | exo => simp [pureI] at px
def notNone : PyData → Bool
  | .none => false
  | _ => true
def minTM : List IV → M IV
  | [.ref n] => fun h => match h[n]? with
    | some (.lst (x :: xs)) => match encH h 66 x, xs.mapM (encH h 66) with
      | some d, some ds => if pureIs (x :: xs) = true ∧ alikeB (d :: ds) = true ∧ (d :: ds).all notNone = true ∧ decide (PyData.depthAll (d :: ds) ≤ depLim) = true then some (.ok (minP (x, d) (xs.zip ds)).1, h) else none
      | _, _ => none
    | _ => none
  | _ => stuck
theorem pures_at : ∀ {xs : List IV} {i : Nat} {x : IV}, pureIs xs = true → xs[i]? = some x → pureI x = true
  | [], i, x, _, e => by simp at e
  | y :: ys, 0, x, p, e => by
    rw [pureIs, Bool.and_eq_true] at p
    simp at e; subst e; exact p.1
  | y :: ys, i + 1, x, p, e => by
    rw [pureIs, Bool.and_eq_true] at p
    exact pures_at p.2 (by simpa using e)
theorem rvs_at : ∀ {vs : List V} {xs : List IV} {i : Nat} {v : V}, RVs ι H vs xs → vs[i]? = some v → ∃ x, xs[i]? = some x ∧ RV ι H v x
  | _, _, i, v, .nil, e => by simp at e
  | _, _, 0, v, .cons a r, e => by simp at e; subst e; exact ⟨_, rfl, a⟩
  | _, _, i + 1, v, .cons a r, e => rvs_at (i := i) r (by simpa using e)
theorem enc_at {h : IH} : ∀ {xs : List IV} {ds : List PyData} {i : Nat} {x : IV} {d : PyData}, xs.mapM (encH h 66) = some ds → xs[i]? = some x → ds[i]? = some d → encH h 66 x = some d
  | [], ds, i, x, d, e, e1, _ => by simp at e1
  | y :: ys, ds, i, x, d, e, e1, e2 => by
    rw [List.mapM_cons] at e
    cases q : encH h 66 y with
    | none => rw [q] at e; cases e
    | some d1 =>
      rw [q] at e
      cases q2 : ys.mapM (encH h 66) with
      | none => rw [q2] at e; cases e
      | some ds1 =>
        rw [q2] at e; cases e
        cases i with
        | zero => simp at e1 e2; subst e1; subst e2; exact q
        | succ i => exact enc_at q2 (by simpa using e1) (by simpa using e2)
theorem ri_minT : RIL W (rMinT X.K) minTM := by
  intro ι h H vs xs Q R rs r
  cases rs with
  | nil => exact r.elim
  | @cons v x _ _ rv rs =>
    cases rs with
    | cons _ _ => cases rv <;> exact r.elim
    | nil =>
      cases rv with
      | @ref n a ea =>
        have r' : Run W RV (match h[n]? with
          | some (.lst (x :: xs)) => match encH h 66 x, xs.mapM (encH h 66) with
            | some d, some ds => if pureIs (x :: xs) = true ∧ alikeB (d :: ds) = true ∧ (d :: ds).all notNone = true ∧ decide (PyData.depthAll (d :: ds) ≤ depLim) = true then some (.ok (minP (x, d) (xs.zip ds)).1, h) else none
            | _, _ => none
          | _ => none) ι H Q := r
        split at r'
        · rename_i x xs e1
          obtain ⟨a', vs, q1, _, q2, rs2⟩ := R.lst (.ref ea) e1
          cases q1
          split at r'
          · rename_i d ds ed eds
            split at r'
            · rename_i hc
              obtain ⟨c1, c2, c3, c4⟩ := hc
              have em : (x :: xs).mapM (encH h 66) = some (d :: ds) := by rw [List.mapM_cons, ed, eds]; rfl
              have hd := mapM_all (K := X.K) R rs2 em
              have c5 := of_decide_eq_true c4
              have c6 : PyData.depthAll (d :: ds) ≤ 60 := by unfold depLim at c5; exact c5
              refine ⟨_, vs, d, ds, rfl, sq_of q2, hd, alikeB_ok c2, fun z hz => ?_, c6, fun i v ev edi => ?_⟩
              · have := List.all_eq_true.mp c3 z hz
                intro q; subst q; cases this
              · obtain ⟨y, ey, ry⟩ := rvs_at rs2 ev
                have e3 := enc_at em ey edi
                have ms := minP_snd (xs.zip ds) (x, d)
                have hlen : xs.length = ds.length := by
                  have a1 := dpAll_len hd
                  have a2 := rs2.length
                  simp only [List.length_cons] at a1 a2; omega
                have mz : (xs.zip ds).map (·.2) = ds := by rw [List.map_snd_zip]; omega
                rw [mz] at ms
                have mm := minP_mem (xs.zip ds) (x, d)
                have ez : (x, d) :: xs.zip ds = (x :: xs).zip (d :: ds) := rfl
                rw [ez] at mm
                obtain ⟨j, hj, ej⟩ := List.getElem_of_mem mm
                have ej2 : ((x :: xs).zip (d :: ds))[j]? = some (minP (x, d) (xs.zip ds)) := by rw [List.getElem?_eq_getElem hj, ej]
                rw [List.getElem?_zip_eq_some] at ej2
                have e4 := enc_at em ej2.1 ej2.2
                rw [ms] at e4
                have := enc_inj 66 y _ _ (pures_at c1 ey) (pures_at c1 ej2.1) e3 e4
                subst this
                exact run_pure (x := (minP (x, d) (xs.zip ds)).1) r' R ry
            · exact r'.elim
          · exact r'.elim
        · exact r'.elim
      | _ => exact r.elim
theorem pei_minT (hc : X.calm = true) (hu : X.A.units + 65 < cLine) (hm : X.mg "min" = none) (ha : PAI X W [e] ma) (hg : Gl X "min" := by rfl) (he : starEach [e] X.env = (false, eval e X.env) :: starEach [] X.env := by rfl) : PEI X W (.Call (.Name "min" p) [e] [] pos) (CallB minTM ma) :=
  pei_callB ri_minT (cr_minT hc hu) hm (by decide +kernel) ha hg (by decide) (by decide) he
/-- list(range(a, b)) -/
def intsR (i j : Int) : List IV := (List.range (j - i).toNat).map fun k => .int (i + (k : Nat))
def ListRg (m n : Env → M IV) : Env → M IV := fun env => M.bind (m env) fun x => M.bind (n env) fun y => match x, y with
  | .int i, .int j => fun h => if (-rngLim ≤ i ∧ i < rngLim) ∧ (-rngLim ≤ j ∧ j < rngLim) ∧ (j - i).toNat ≤ lim then some (.ok (.ref h.length), h ++ [.lst (intsR i j)]) else none
  | _, _ => stuck
theorem rgV_rv {H : Hp} (i j : Int) : RVs ι H (rgV i j) (intsR i j) := by
  unfold rgV intsR
  generalize List.range (j - i).toNat = l
  induction l with
  | nil => exact .nil
  | cons a l ih => exact .cons (.int _) ih
variable {m n : Env → M IV}
theorem pei_listRg (hc : X.calm = true) (hm : X.mg "list" = none) (hm2 : X.mg "range" = none) (ha : PEI X W e m) (hb : PEI X W e2 n) (hg : Gl X "list" := by rfl) (hg2 : Gl X "range" := by rfl)
    (hs0 : starEach [.Call (.Name "range" p2) [e, e2] [] pos2] X.env = (false, eval (.Call (.Name "range" p2) [e, e2] [] pos2) X.env) :: starEach [] X.env := by rfl)
    (hs : starEach [e, e2] X.env = (false, eval e X.env) :: starEach [e2] X.env := by rfl) (hs2 : starEach [e2] X.env = (false, eval e2 X.env) :: starEach [] X.env := by rfl) (hpl : (backTo pos2 (starEach [e2] X.env)).any (·.1) = false := by rfl) :
    PEI X W (.Call (.Name "list" p) [.Call (.Name "range" p2) [e, e2] [] pos2] [] pos) (ListRg m n) := by
  refine PE.weak (pe_listRg hc hg hm (prg_2 hg2 hm2 ha hb hs hs2 hpl) hs0) fun σ H Q ⟨ι, h, env, R, S, r⟩ => ?_
  refine ⟨ι, h, env, R, S, (run_bind (rel1 := RV) r).mono fun v H1 ⟨ι1, h1, x, R1, F1, rv, r1⟩ => ?_⟩
  refine ⟨ι1, h1, env, R1, S.mono R F1, (run_bind (rel1 := RV) r1).mono fun v2 H2 ⟨ι2, h2, y, R2, F2, rv2, r2⟩ => ?_⟩
  cases rv with
  | int i =>
    cases rv2 with
    | int j =>
      have r3 : Run W RV (if (-rngLim ≤ i ∧ i < rngLim) ∧ (-rngLim ≤ j ∧ j < rngLim) ∧ (j - i).toNat ≤ lim then some (.ok (.ref h2.length), h2 ++ [.lst (intsR i j)]) else none) ι2 H2 Q := r2
      split at r3
      · rename_i hb
        have b1 : -(2 ^ 62 : Int) ≤ i := by have := hb.1.1; unfold rngLim at this; omega
        have b2 : i < (2 ^ 62 : Int) := by have := hb.1.2; unfold rngLim at this; omega
        have b3 : -(2 ^ 62 : Int) ≤ j := by have := hb.2.1.1; unfold rngLim at this; omega
        have b4 : j < (2 ^ 62 : Int) := by have := hb.2.1.2; unfold rngLim at this; omega
        have b5 : (j - i).toNat ≤ 2 ^ 24 := by have := hb.2.2; rw [lim_eq] at this; omega
        refine ⟨i, j, rfl, rfl, ⟨b1, b2, b3, b4, b5⟩, fun q hq => ?_⟩
        exact r3 (ι2 ++ [q]) _ (.ref q) (R2.push (u := .lst _) hq ⟨_, upd_same, rgV_rv i j⟩) (fr_push hq) (.ref (by rw [← R2.len, List.getElem?_append_right (Nat.le_refl _), Nat.sub_self]; rfl))
      · exact r3.elim
    | _ => exact r2.elim
  | _ => cases rv2 <;> exact r2.elim
end
end Iv
set_option Elab.async false
set_option linter.all false
set_option maxRecDepth 100000
set_option maxHeartbeats 1000000
set_option autoImplicit false
/-! sorted, so that the kernel computes it -/
namespace Iv
open PySem L2
section
variable {α : Type} (le : α → α → Bool)
def mrgF : Nat → List α → List α → List α
  | 0, _, _ => []
  | _ + 1, [], ys => ys
  | _ + 1, x :: xs, [] => x :: xs
  | k + 1, x :: xs, y :: ys => if le x y = true then x :: mrgF k xs (y :: ys) else y :: mrgF k (x :: xs) ys
theorem mrgF_eq : ∀ (k : Nat) (xs ys : List α), xs.length + ys.length < k → mrgF le k xs ys = List.merge xs ys le
  | 0, _, _, h => by omega
  | _ + 1, [], ys, _ => by unfold mrgF; simp
  | _ + 1, x :: xs, [], _ => by unfold mrgF; simp
  | k + 1, x :: xs, y :: ys, h => by
    unfold mrgF
    rw [List.length_cons, List.length_cons] at h
    rw [List.cons_merge_cons, mrgF_eq k xs (y :: ys) (by rw [List.length_cons]; omega), mrgF_eq k (x :: xs) ys (by rw [List.length_cons]; omega)]
def msF : Nat → List α → List α
  | 0, _ => []
  | _ + 1, [] => []
  | _ + 1, [a] => [a]
  | k + 1, a :: b :: xs => mrgF le (xs.length + 3) (msF k ((a :: b :: xs).take ((xs.length + 3) / 2))) (msF k ((a :: b :: xs).drop ((xs.length + 3) / 2)))
theorem msF_eq : ∀ (k : Nat) (xs : List α), xs.length < k → msF le k xs = xs.mergeSort le
  | 0, _, h => by omega
  | _ + 1, [], _ => by unfold msF; simp
  | _ + 1, [a], _ => by unfold msF; simp
  | k + 1, a :: b :: xs, h => by
    unfold msF
    rw [List.length_cons, List.length_cons] at h
    have l1 : ((a :: b :: xs).take ((xs.length + 3) / 2)).length ≤ (xs.length + 3) / 2 := by rw [List.length_take]; omega
    have l2 : ((a :: b :: xs).drop ((xs.length + 3) / 2)).length = xs.length + 2 - (xs.length + 3) / 2 := by rw [List.length_drop]; rfl
    rw [msF_eq k _ (by omega), msF_eq k _ (by omega), mrgF_eq]
    · conv => rhs; unfold List.mergeSort
      simp [List.MergeSort.Internal.splitInTwo_fst, List.MergeSort.Internal.splitInTwo_snd]
    · rw [List.length_mergeSort, List.length_mergeSort, List.length_take, List.length_drop, List.length_cons, List.length_cons]; omega
end
def sortN : List IV → M IV
  | [x] => fun h => match lstI h x with
    | some xs => match xs.mapM (encH h 66) with
      | some ds => if alikeB ds = true ∧ sortableB ds = true ∧ (ds.all fun d => decide (d.depth ≤ depLim)) = true then mkL ((msF (PySem.W.dataLe false fun p => p.2) ((xs.zip ds).length + 1) (xs.zip ds)).map (·.1)) h else none
      | none => none
    | none => none
  | _ => stuck
theorem sortN_eq : sortM = sortN := by
  funext l h
  match l with
  | [] => rfl
  | [x] =>
    unfold sortM sortN
    simp only [msF_eq _ _ _ (Nat.lt_succ_self _)]
    all_goals (cases lstI h x <;> try rfl)
    all_goals (rename_i xs; cases q : List.mapM (encH h 66) xs <;> simp only [q])
  | _ :: _ :: _ => rfl
end Iv
set_option Elab.async false
set_option linter.all false
set_option maxRecDepth 100000
set_option maxHeartbeats 600000
set_option autoImplicit false
/-! sorted of a list of tuples that begins with an empty one -/
namespace Iv
open PySem PySem.Calls PySem.W PySem.SeqAt PyProof.Rows
section
variable {prog : Program} {w : World} {A : Around} {E : Value → Shared → Prop} {s : Shared}
theorem se_call_lt {Q : Value → Shared → Prop} {l b : Addr} {items items2 : Array Value} {e r : Nat → Bool} (hl : s.heap.IsTuple l items) (hb : s.heap.IsTuple b items2)
    (he : ∀ j (h1 : j < items.size) (h2 : j < items2.size), EqAt A.in1 s items[j] items2[j] (e j)) (hr : ∀ j (h1 : j < items.size) (h2 : j < items2.size), e j = false → RcLt A.in1 s items[j] items2[j] (r j))
    (h : Q (.bool (firstLt e r (decide (items.size < items2.size)) (List.range (min items.size items2.size)))) s) : wpAny (model prog w) A (call (.builtin "tuple.__lt__") [.ref l, .ref b]) Q E s := by
  obtain ⟨⟨cls, dd, data, sl⟩, ho, hc, n, hd⟩ := id hl
  obtain ⟨⟨cls2, dd2, data2, sl2⟩, ho2, hc2, n2, hd2⟩ := id hb
  simp only at hc hd hc2 hd2
  subst hc hd hc2 hd2
  exact call_meets F.slot_tuple_lt ⟨_, ho, rfl⟩ F.entry_tuple_lt (F.args_tuple_lt_2 _ _) (tuple_ltAt l b items items2 n n2 dd dd2 sl sl2 e r) ⟨ho, ho2, he, hr, h⟩
theorem se_oneLt {xs ys : List PyData} {a b : Value} {as bs : List Addr} {Q : Bool → Shared → Prop} (ra : Reads s.heap a (.tuple xs) as) (rb : Reads s.heap b (.tuple ys) bs) (h : alike (.tuple xs) (.tuple ys) = true)
    (hu : A.units + min (PyData.tuple xs).depth (PyData.tuple ys).depth < cLine) (hq : Q (dataLt (.tuple xs) (.tuple ys)) s) : wpAny (model prog w) A (oneLt' true a b) Q E s := by
  have hal : alikeAll xs ys = true := by simpa [alike] using h
  cases ra with
  | @tuple l o vs n _ as₁ h1 h2 h3 h4 =>
    cases rb with
    | @tuple l' o' vs' n' _ bs₁ k1 k2 k3 k4 =>
      have n1 : vs.size = xs.length := by simpa using ReadsAll.length _ _ _ h4
      have n2 : vs'.size = ys.length := by simpa using ReadsAll.length _ _ _ k4
      rw [dataLt_tuple, ← firstLt_toks xs ys hal, ← n1, ← n2] at hq
      rw [oneLt'_eq]
      simp only [if_true]
      refine wpAny_bind (wpAny_cRoomFor (room_here hu) ?_)
      refine wpAny_bind (wpAny_callSpecialIfBound?_slot (T := "tuple") ⟨_, h1, h2⟩ F.slot_tuple_lt (se_call_lt (e := pairEq xs ys) (r := fun j => dataLt (xs.getD j .none) (ys.getD j .none)) ⟨_, h1, h2, _, h3⟩ ⟨_, k1, k2, _, k3⟩ (fun j j1 j2 => ?_) (fun j j1 j2 hj => ?_) ?_))
      · have := eqAt_alikeAll xs ys A.in1 s vs.toList vs'.toList _ _ h4 k4 hal (room_in hu) j (by simpa using j1) (by simpa using j2)
        simpa using this
      · have := rcLt_alikeAll xs ys A.in1 s vs.toList vs'.toList _ _ h4 k4 hal (room_in hu) j (by simpa using j1) (by simpa using j2) hj
        simpa using this
      · exact wpAny_truthy_bool hq
end
section
variable {M : Model} {A : Around} {E : Value → Shared → Prop} {s : Shared}
theorem se_mapM {f : Value → Sem (Option Value)} {P : Value → Option Value → Prop} (hf : ∀ v r, P v r → ∀ (Q' : Option Value → Shared → Prop), Q' r s → wpAny M A (f v) Q' E s) : ∀ {vs : List Value} {rs : List (Option Value)} {Q : List (Option Value) → Shared → Prop}, EachIs P vs rs → Q rs s → wpAny M A (vs.mapM f) Q E s
  | _, _, _, .nil, h => by rw [List.mapM_nil]; exact wpAny_pure h
  | _, _, Q, .cons (as := vs) (bs := rs) (b := r) (a := v) p t, h => by
    rw [List.mapM_cons]
    exact wpAny_bind (hf v r p _ (wpAny_bind (se_mapM hf (Q := fun bs s' => wpAny M A (pure (r :: bs)) Q E s') t (wpAny_pure h))))
theorem se_first {v : Value} {xs : List PyData} {as : List Addr} (r : Reads s.heap v (.tuple xs) as) : ∃ f : Option Value, (xs = [] → f = none) ∧ ∀ (Q' : Option Value → Shared → Prop), Q' f s → wpAny M A (firstOfTuple' v) Q' E s := by
  cases r with
  | @tuple a o vs n _ as₁ h1 h2 h3 h4 =>
    refine ⟨vs[0]?, fun e => ?_, fun Q' hq => ?_⟩
    · subst e
      have n1 : vs.size = ([] : List PyData).length := by simpa using ReadsAll.length _ _ _ h4
      simp at n1 ⊢
      omega
    · rw [kas_first_eq]
      refine wpAny_bind (Looks.here (show Looks M s.heap (typeOf (.ref a)) o.cls from (Looks.ld h1).andThen .now) ?_)
      rw [h2, if_neg (by first | decide | simp)]
      exact wpAny_bind (listItems_at h1 h3 (wpAny_pure hq))
theorem se_firsts : ∀ {vs : List Value} {ds : List PyData}, EachIs (fun v d => ∃ as, Reads s.heap v d as) vs ds → (∀ d ∈ ds, ∃ xs, d = .tuple xs) → ∃ rs : List (Option Value), EachIs (fun v f => ∀ (Q' : Option Value → Shared → Prop), Q' f s → wpAny M A (firstOfTuple' v) Q' E s) vs rs ∧ (ds.head? = some (.tuple []) → rs.head? = some none)
  | _, _, .nil, _ => ⟨[], .nil, fun h => by cases h⟩
  | _, _, .cons (b := d) ⟨as, r⟩ t, ht => by
    obtain ⟨xs, rfl⟩ := ht d (List.mem_cons_self ..)
    obtain ⟨f, f1, f2⟩ := se_first (M := M) (A := A) (E := E) r
    obtain ⟨rs, e, _⟩ := se_firsts t fun d hd => ht d (List.mem_cons_of_mem _ hd)
    refine ⟨f :: rs, .cons f2 e, fun h => ?_⟩
    rw [List.head?_cons] at h ⊢
    injection h with h
    injection h with h
    rw [f1 h]
theorem se_kind {vs : List Value} {ds : List PyData} {Q : SortKind → Shared → Prop} (e : EachIs (fun v d => ∃ as, Reads s.heap v d as) vs ds) (ht : ∀ d ∈ ds, ∃ xs, d = .tuple xs) (h0 : ds.head? = some (.tuple [])) (h : Q oneType' s) : wpAny M A (keyKind' vs.toArray) Q E s := by
  obtain ⟨rs, e1, e2⟩ := se_firsts (M := M) (A := A) (E := E) e ht
  have e2 := e2 h0
  obtain ⟨rr, rfl⟩ : ∃ rr, rs = none :: rr := by
    cases rs with
    | nil => cases e2
    | cons r rr => rw [List.head?_cons] at e2; injection e2 with e2; exact ⟨rr, by rw [e2]⟩
  rw [keyKind'_eq, List.mapM_toArray, map_eq_pure_bind]
  refine wpAny_bind (wpAny_bind (se_mapM (P := fun v f => ∀ (Q' : Option Value → Shared → Prop), Q' f s → wpAny M A (firstOfTuple' v) Q' E s) (fun v r p => p) e1 (wpAny_pure ?_)))
  rw [if_neg (by simp), if_neg (by simp)]
  rw [oneTypeOnly'_eq, List.mapM_toArray, map_eq_pure_bind]
  refine wpAny_bind (wpAny_bind (wpAny_bind (kas_mapM (r := Value.type "tuple") _ (fun v hv Q' hq => ?_) (wpAny_pure ?_))))
  · obtain ⟨d, hd, as, r⟩ := e.left v hv
    obtain ⟨xs, rfl⟩ := ht d hd
    exact (looks_reads r).here hq
  · have hl : vs ≠ [] := by
      rintro rfl
      cases e1
    obtain ⟨v, vr, rfl⟩ : ∃ v vr, vs = v :: vr := by
      cases vs with
      | nil => exact absurd rfl hl
      | cons v vr => exact ⟨v, vr, rfl⟩
    have hall : ((List.map (fun _ => Value.type "tuple") (v :: vr)).toArray.all fun x => x == Value.type "tuple") = true := by
      simp only [List.all_toArray, List.all_map, List.all_eq_true]
      intro _ _
      rfl
    have h0 : (List.map (fun _ => Value.type "tuple") (v :: vr)).toArray[0]? = some (Value.type "tuple") := by simp
    rw [h0]
    simp only [hall, if_true]
    exact wpAny_pure (wpAny_pure h)
end
section
variable {prog : Program} {w : World} {A : Around} {E : Value → Shared → Prop} {s : Shared}
theorem se_sortsAt {vs : List Value} {ds : List PyData} (e : EachIs (fun v d => ∃ as, Reads s.heap v d as) vs ds) (hal : AllAlike ds) (ht : ∀ d ∈ ds, ∃ xs, d = .tuple xs) (h0 : ds.head? = some (.tuple [])) (hu : ∀ d, d ∈ ds → A.units + d.depth < cLine) : SortsAt prog w A s (dataKind s.heap ds) vs := by
  have room : ∀ {d d' : PyData}, d ∈ ds → A.units + min d.depth d'.depth < cLine := fun {d d'} hd => Nat.lt_of_le_of_lt (Nat.add_le_add_left (Nat.min_le_left _ _) _) (hu d hd)
  refine ⟨fun v hv => ?_, oneType', ?_, fun _ E Q hq => se_kind e ht h0 hq⟩
  · obtain ⟨d, hd, as, r⟩ := e.left v hv
    exact ⟨_, dataKind_some hal hd r⟩
  · intro E x y a b Q ha hb hq
    obtain ⟨d, as, hd, ra, rfl⟩ := dataKind_inv ha
    obtain ⟨d', as', hd', rb, rfl⟩ := dataKind_inv hb
    obtain ⟨xs, rfl⟩ := ht d hd
    obtain ⟨ys, rfl⟩ := ht d' hd'
    rw [keyLt'_oneType]
    exact se_oneLt ra rb (hal _ hd _ hd') (room hd) hq
theorem se_sorted {β : Type} {vs : List Value} {bs : List β} {enc : β → PyData} {R : Value → β → Prop} {l : Addr} {Q : Value → Shared → Prop} (hl : s.heap.IsList l vs.toArray) (e : EachIs R vs bs) (er : EachIs (fun v b => ∃ as, Reads s.heap v (enc b) as) vs bs) (hal : AllAlike (bs.map enc)) (ht : ∀ d ∈ bs.map enc, ∃ xs, d = .tuple xs) (h0 : (bs.map enc).head? = some (.tuple [])) (hL : bs.length ≤ sizeLine)
    (hu : ∀ b, b ∈ bs → A.units + 2 + (enc b).depth < cLine) (h : ∀ out, out.length = bs.length → EachIs R out (bs.mergeSort (dataLe false enc)) → Q (.ref (s.heap.objs.size + 1)) { s with heap := sortedAll s.heap vs (List.toArray out) }) :
    wpAny (model prog w) A (call (.builtin "sorted") [.ref l]) Q E s := by
  have er' : EachIs (fun v b => ∃ as, Reads (sortingHeap (copyHeap s.heap vs) (s.heap.objs.size + 1) vs) v (enc b) as) vs bs := er.mono fun _ _ ⟨as, r⟩ => ⟨as, PyProof.Rows.Reads.keeps (fun _ _ => sorting_copy_old) r⟩
  exact sorted_vals hl (se_sortsAt (s := { s with heap := sortingHeap (copyHeap s.heap vs) (s.heap.objs.size + 1) vs }) (each_map (R := fun v d => ∃ as, Reads (sortingHeap (copyHeap s.heap vs) (s.heap.objs.size + 1) vs) v d as) enc er') hal ht h0 (bound_map hu)) (by rw [e.length]; exact hL)
    (h _ (by rw [sortVals_length false rfl]; exact e.length) (sortVals_data false e er' hal))
end
end Iv
namespace Iv
open PySem L2
variable [KL]
def isTupB : PyData → Bool
  | .tuple _ => true
  | _ => false
def emptB (ds : List PyData) : Bool := (match ds with | .tuple [] :: _ => true | _ => false) && ds.all isTupB
theorem emptB_ok {ds : List PyData} (e : emptB ds = true) : ds.head? = some (.tuple []) ∧ ∀ d ∈ ds, ∃ xs, d = .tuple xs := by
  unfold emptB at e
  rw [Bool.and_eq_true] at e
  refine ⟨?_, fun d hd => ?_⟩
  · have e := e.1
    split at e
    · rfl
    · cases e
  · have := List.all_eq_true.mp e.2 d hd
    cases d <;> first | exact ⟨_, rfl⟩ | cases this
def sortE : List IV → M IV
  | [x] => fun h => match lstI h x with
    | some xs => match xs.mapM (encH h 66) with
      | some ds => if alikeB ds = true ∧ emptB ds = true ∧ (ds.all fun d => decide (d.depth ≤ depLim)) = true then mkL (((xs.zip ds).mergeSort (PySem.W.dataLe false fun p => p.2)).map (·.1)) h else none
      | none => none
    | none => none
  | _ => stuck
def rSortE (K : PySem.W.Frag) : List V → Hp → VK → Prop := fun vs H Q => ∃ (a : Addr) (xs : List V) (ds : List PyData), vs = [.ref a] ∧ SqL K H a xs ∧ DpAll K H xs ds ∧ PySem.W.AllAlike ds ∧ (ds.head? = some (.tuple []) ∧ ∀ d ∈ ds, ∃ xs, d = .tuple xs) ∧ (∀ d ∈ ds, d.depth ≤ 60) ∧
  ∀ p, H p = none → Q (.ref p) (upd H p (.lst (((xs.zip ds).mergeSort (PySem.W.dataLe false fun p => p.2)).map (·.1))))
section
variable {X : Cx} {W : ExW} {e e2 : Expr} {ma : Env → M (List IV)} {pos p : Pos} {ι : List Addr} {h : IH} {H : Hp}
theorem cr_sortE (hu : X.A.units + 65 < cLine) : CallR X (.builtin "sorted") (rSortE X.K) := by
  intro pins s σ H vs us Q I r h
  obtain ⟨a, xs, ds, rfl, hs, hd, hal, hso, hdep, q⟩ := h
  obtain ⟨its, rv, hl, hz⟩ := I.list hs
  rw [Vals.ref1 r]
  obtain ⟨e1, e2⟩ := each_pairs I hd rv
  have hlen := dpAll_len hd
  have hm : (xs.zip ds).map (fun p => p.2) = ds := by
    rw [List.map_snd_zip]; omega
  have hL : (xs.zip ds).length ≤ sizeLine := by
    rw [List.length_zip, ← hlen, Nat.min_self]
    have := rv.length
    omega
  refine se_sorted (bs := xs.zip ds) (enc := fun p => p.2) hl.isList e1 e2 (by rw [hm]; exact hal) (by rw [hm]; exact hso.2) (by rw [hm]; exact hso.1) hL (fun b hb => ?_) fun out ho h2 => ?_
  · have h3 := hdep b.2 (by rw [← hm]; exact List.mem_map_of_mem hb)
    omega
  · obtain ⟨ep, he'⟩ := PyProof.Rows.sortedAll_at s.heap its (List.toArray out)
    refine ⟨.ref _, upd H (s.heap.objs.size + 1) (.lst (((xs.zip ds).mergeSort (PySem.W.dataLe false fun p => p.2)).map (·.1))), I.laid (t' := s.toks) (fun _ _ => PyProof.Rows.sortedAll_old) (Nat.le_succ _) ⟨?_, out, ep, vals_of h2, he'⟩, rfl, q _ (I.hok.fresh (Nat.le_succ _))⟩
    rw [List.length_map, List.length_mergeSort]; exact hL
theorem ri_sortE : RIL W (rSortE X.K) sortE := by
  intro ι h H vs xs Q R rs r0
  cases rs with
  | nil => exact r0.elim
  | @cons v x _ _ rv rs =>
    cases rs with
    | cons _ _ => exact r0.elim
    | nil =>
      have r' : Run W RV (match lstI h x with
        | some xs => match xs.mapM (encH h 66) with
          | some ds => if alikeB ds = true ∧ emptB ds = true ∧ (ds.all fun d => decide (d.depth ≤ depLim)) = true then mkL (((xs.zip ds).mergeSort (PySem.W.dataLe false fun p => p.2)).map (·.1)) h else none
          | none => none
        | none => none) ι H Q := r0
      split at r'
      · rename_i ys e1
        split at r'
        · rename_i ds e2
          split at r'
          · rename_i hc
            obtain ⟨a, ws, q1, r1, q2⟩ := lst_ok (K := X.K) R rv e1
            subst q1
            refine ⟨a, ws, ds, rfl, q2, mapM_all R r1 e2, alikeB_ok hc.1, emptB_ok hc.2.1, fun d hd => ?_, (new_lst R (r1.sorted ds) r').2⟩
            have := of_decide_eq_true (List.all_eq_true.mp hc.2.2 d hd)
            unfold depLim at this
            exact this
          · exact r'.elim
        · exact r'.elim
      · exact r'.elim
theorem pei_sortE (hu : X.A.units + 65 < cLine) (hm : X.mg "sorted" = none) (ha : PAI X W [e] ma) (hg : Gl X "sorted" := by rfl) (he : starEach [e] X.env = (false, eval e X.env) :: starEach [] X.env := by rfl) : PEI X W (.Call (.Name "sorted" p) [e] [] pos) (CallB sortE ma) :=
  pei_callB ri_sortE (cr_sortE hu) hm (by decide +kernel) ha hg (by decide) (by decide) he
end
end Iv
set_option autoImplicit true
set_option Elab.async false
set_option linter.all false
set_option maxRecDepth 100000
set_option maxHeartbeats 4000000
namespace K28
open PySem L2 Iv
def topS (i : Nat) : Stmt := PySem.Challenge.pw_anylatency_k28_fewest_made_quick.main.body.getD i (.Pass ⟨0, 0, 0, 0⟩)
structure Exs (K : PySem.W.Frag) (mg : Str → Option Value) : Prop where
  mk ::
  NoOrder : OwnX K mg "NoOrder"
structure Blt (mg : Str → Option Value) : Prop where
  ValueError : mg "ValueError" = none
  abs : mg "abs" = none
  all : mg "all" = none
  bool : mg "bool" = none
  dict : mg "dict" = none
  enumerate : mg "enumerate" = none
  int : mg "int" = none
  isinstance : mg "isinstance" = none
  len : mg "len" = none
  list : mg "list" = none
  max : mg "max" = none
  min : mg "min" = none
  range : mg "range" = none
  sorted : mg "sorted" = none
  str : mg "str" = none
  tuple : mg "tuple" = none
  zip : mg "zip" = none
@[irreducible] def LN : Nat := 100000
abbrev s_tupled : Stmt := topS 3
abbrev N_tupled : List Str := ["value", "part"]
def b_tupled (G : List IV → M IV) : Iv.Env → M Fl :=
    (SeqS (IfS (Tru (Isi [.lst, .tup] (Var 0))) (RetS (CallB tupleM (Cons (LcE LN (Iter (Var 0)) (.n 1) YesT (CallF 1 G (Cons (Var 1) Nil)) [1]) Nil))) NextS)
    (RetS (Var 0)))
def F_tupled : Nat → List IV → M IV
  | 0 => fun _ => stuck
  | k + 1 => Fn 2 (b_tupled (F_tupled k))
abbrev s_is_name : Stmt := topS 4
abbrev N_is_name : List Str := ["thing"]
def b_is_name : Iv.Env → M Fl :=
    (SeqS (IfS (NotT (Tru (Isi [.str] (Var 0)))) (RetS (Cst (.bl false))) NextS)
    (RetS (AndV (Chain leI leI (Cst (.int 1)) (CallB lenM (Cons (Var 0) Nil)) (Cst (.int 8))) (AndV (Mth chkS (tstB Txt.isascii) (Var 0) Nil) (AndV (Mth chkS (tstB Txt.isalpha) (Var 0) Nil) (Mth chkS (tstB Txt.islower) (Var 0) Nil))))))
def F_is_name : List IV → M IV := Fn 1 b_is_name
abbrev s_is_tuple_of : Stmt := topS 5
abbrev N_is_tuple_of : List Str := ["thing", "many"]
def b_is_tuple_of : Iv.Env → M Fl :=
    (RetS (AndV (Isi [.tup] (Var 0)) (Bin eqI (CallB lenM (Cons (Var 0) Nil)) (Var 1))))
def F_is_tuple_of : List IV → M IV := Fn 2 b_is_tuple_of
abbrev s_reads_by_name : Stmt := topS 6
abbrev N_reads_by_name : List Str := ["rows", "row"]
def b_reads_by_name : Iv.Env → M Fl :=
    (RetS (DcE LN (Iter (Var 0)) (.n 1) YesT (Bin ixM (Var 1) (Cst (.int 0))) (Bin ixM (Var 1) (Cst (.int 1))) [1]))
def F_reads_by_name : List IV → M IV := Fn 2 b_reads_by_name
abbrev s_readers_by_name : Stmt := topS 7
abbrev N_readers_by_name : List Str := ["reads", "readers", "name", "one"]
def b_readers_by_name : Iv.Env → M Fl :=
    (SeqS (lockM 0 (AsgS (DcE LN (Iter (Var 0)) (.n 2) YesT (Var 2) (Lst Nil) [2]) (TgN 1)))
    (SeqS (lockM 0 (ForS LN (Iter (Var 0)) (TgN 2) (ForS LN (Iter (Bin ixM (Var 0) (Var 2))) (TgN 3) (DropS (Mth chkL appM (Bin ixM (Var 1) (Var 3)) (Cons (Var 2) Nil))))))
    (RetS (Var 1))))
def F_readers_by_name : List IV → M IV := Fn 4 b_readers_by_name
abbrev s_is_order_of : Stmt := topS 8
abbrev N_is_order_of : List Str := ["reads", "thing", "laid", "name", "one"]
def b_is_order_of : Iv.Env → M Fl :=
    (SeqS (IfS (NotT (Tru (CallF 2 F_is_tuple_of (Cons (Var 1) (Cons (CallB lenM (Cons (Var 0) Nil)) Nil))))) (RetS (Cst (.bl false))) NextS)
    (SeqS (AsgS DNew (TgN 2))
    (SeqS (ForS LN (Iter (Var 1)) (TgN 3) (SeqS (IfS (OrT (NotT (Tru (CallF 1 F_is_name (Cons (Var 3) Nil)))) (OrT (Tst (Bin (inM true) (Var 3) (Var 0))) (Tst (Bin (inM false) (Var 3) (Var 2))))) (RetS (Cst (.bl false))) NextS)
    (SeqS (IfS (NotT (Tru (CallB allI (Cons (LcE LN (Iter (Bin ixM (Var 0) (Var 3))) (.n 4) YesT (Bin (inM false) (Var 4) (Var 2)) [4]) Nil)))) (RetS (Cst (.bl false))) NextS)
    (AsgS (Cst (.bl true)) (TgSub (Var 2) (Var 3))))))
    (RetS (Cst (.bl true))))))
def F_is_order_of : List IV → M IV := Fn 5 b_is_order_of
abbrev s_told_order : Stmt := topS 9
abbrev N_told_order : List Str := ["block", "order", "told"]
def b_told_order : Iv.Env → M Fl :=
    (SeqS (AsgS (CallF 1 (F_tupled 16) (Cons (Var 1) Nil)) (TgN 2))
    (SeqS (IfS (NotT (Tru (CallF 2 F_is_order_of (Cons (CallF 1 F_reads_by_name (Cons (Bin ixM (Var 0) (Cst (.int 0))) Nil)) (Cons (Var 2) Nil))))) (RaiseS "NoOrder") NextS)
    (RetS (Var 2))))
def F_told_order : List IV → M IV := Fn 3 b_told_order
abbrev s_awaited_in : Stmt := topS 11
abbrev N_awaited_in : List Str := ["block", "rows", "live", "readers", "row"]
def b_awaited_in : Iv.Env → M Fl :=
    (SeqS (AsgS (CallF 1 (F_tupled 16) (Cons (Var 0) Nil)) (TgUn 2 (TgCons (TgN 1) (TgCons (TgN 2) TgNil))))
    (SeqS (AsgS (CallF 1 F_readers_by_name (Cons (CallF 1 F_reads_by_name (Cons (Var 1) Nil)) Nil)) (TgN 3))
    (RetS (CallB tupleM (Cons (LcE LN (Iter (Var 1)) (.n 4) (AndT (Tru (Bin ixM (Var 4) (Cst (.int 2)))) (OrT (Tru (Bin ixM (Var 3) (Bin ixM (Var 4) (Cst (.int 0))))) (Tst (Bin (inM false) (Bin ixM (Var 4) (Cst (.int 0))) (Var 2))))) (Bin ixM (Var 4) (Cst (.int 0))) [4]) Nil)))))
def F_awaited_in : List IV → M IV := Fn 5 b_awaited_in
abbrev s__firsts_by : Stmt := topS 14
abbrev N__firsts_by : List Str := ["order", "readers", "places", "name", "one", "place"]
def b__firsts_by : Iv.Env → M Fl :=
    (SeqS (AsgS (DcE LN (IterA enumM (Cons (Var 0) Nil)) (.t [5, 3]) YesT (Var 3) (Var 5) [5, 3]) (TgN 2))
    (RetS (lockM 1 (DcE LN (Iter (Var 1)) (.n 3) YesT (Var 3) (MinDf (Cons (LcE LN (Iter (Bin ixM (Var 1) (Var 3))) (.n 4) YesT (Bin ixM (Var 2) (Var 4)) [4]) Nil) (CallB lenM (Cons (Var 0) Nil))) [3]))))
def F__firsts_by : List IV → M IV := Fn 6 b__firsts_by
abbrev s_first_readers : Stmt := topS 13
abbrev N_first_readers : List Str := ["block", "order", "told"]
def b_first_readers : Iv.Env → M Fl :=
    (SeqS (AsgS (CallF 1 (F_tupled 16) (Cons (Var 0) Nil)) (TgN 0))
    (SeqS (AsgS (CallX 2 F_told_order (Cons (Var 0) (Cons (Var 1) Nil))) (TgN 2))
    (RetS (CallF 2 F__firsts_by (Cons (Var 2) (Cons (CallF 1 F_readers_by_name (Cons (CallF 1 F_reads_by_name (Cons (Bin ixM (Var 0) (Cst (.int 0))) Nil)) Nil)) Nil))))))
def F_first_readers : List IV → M IV := Fn 3 b_first_readers
abbrev s__waits_by : Stmt := topS 16
abbrev N__waits_by : List Str := ["order", "firsts", "awaited", "places", "name", "place"]
def b__waits_by : Iv.Env → M Fl :=
    (SeqS (AsgS (DcE LN (IterA enumM (Cons (Var 0) Nil)) (.t [5, 4]) YesT (Var 4) (Var 5) [5, 4]) (TgN 3))
    (RetS (DcE LN (Iter (Var 2)) (.n 4) YesT (Var 4) (Tup (Cons (Bin ixM (Var 3) (Var 4)) (Cons (Bin ixM (Var 1) (Var 4)) Nil))) [4])))
def F__waits_by : List IV → M IV := Fn 6 b__waits_by
abbrev s_waits_in : Stmt := topS 15
abbrev N_waits_in : List Str := ["block", "order"]
def b_waits_in : Iv.Env → M Fl :=
    (RetS (CallF 3 F__waits_by (Cons (Var 1) (Cons (CallX 2 F_first_readers (Cons (Var 0) (Cons (Var 1) Nil))) (Cons (CallF 1 F_awaited_in (Cons (Var 0) Nil)) Nil)))))
def F_waits_in : List IV → M IV := Fn 2 b_waits_in
abbrev s_stalls_in : Stmt := topS 17
abbrev N_stalls_in : List Str := ["latencies", "name", "number"]
def b_stalls_in : Iv.Env → M Fl :=
    (RetS (DcE LN (Iter (CallF 1 (F_tupled 16) (Cons (Var 0) Nil))) (.t [1, 2]) YesT (Var 1) (Bin subI (Var 2) (Cst (.int 1))) [1, 2]))
def F_stalls_in : List IV → M IV := Fn 3 b_stalls_in
abbrev s_end_by : Stmt := topS 18
abbrev N_end_by : List Str := ["many", "waits", "stalls", "ticks", "place", "comes", "name"]
def b_end_by : Iv.Env → M Fl :=
    (SeqS (AsgS (Lst (Cons (Cst (.int 0)) Nil)) (TgN 3))
    (SeqS (ForS LN (IterA rng2 (Cons (Cst (.int 1)) (Cons (Bin addI (Var 0) (Cst (.int 1))) Nil))) (TgN 4) (SeqS (lockM 1 (AsgS (LcE LN (Iter (Var 1)) (.n 6) (Tst (Bin eqI (Bin ixM (Bin ixM (Var 1) (Var 6)) (Cst (.int 1))) (Var 4))) (Bin addI (Bin addI (Bin ixM (Var 3) (Bin ixM (Bin ixM (Var 1) (Var 6)) (Cst (.int 0)))) (Bin ixM (Var 2) (Var 6))) (Cst (.int 1))) [6]) (TgN 5)))
    (DropS (Mth chkL appM (Var 3) (Cons (CallB maxI (Cons (Bin addI (Lst (Cons (Bin addI (Bin ixM (Var 3) (Un negI (Cst (.int 1)))) (Cst (.int 1))) Nil)) (Var 5)) Nil)) Nil)))))
    (RetS (Bin ixM (Var 3) (Un negI (Cst (.int 1)))))))
def F_end_by : List IV → M IV := Fn 7 b_end_by
abbrev s__all_sets : Stmt := topS 21
abbrev N__all_sets : List Str := ["names", "found", "name", "some"]
def b__all_sets : Iv.Env → M Fl :=
    (SeqS (AsgS (Lst (Cons (Tup Nil) Nil)) (TgN 1))
    (SeqS (ForS LN (Iter (Var 0)) (TgN 2) (AsgS (Bin addI (Var 1) (LcE LN (Iter (Var 1)) (.n 3) YesT (Bin addI (Var 3) (Tup (Cons (Var 2) Nil))) [3])) (TgN 1)))
    (RetS (Var 1))))
def F__all_sets : List IV → M IV := Fn 4 b__all_sets
abbrev s_fewest_quick : Stmt := topS 20
abbrev N_fewest_quick : List Str := ["block", "order", "latencies", "end", "waits", "stalls", "found", "some", "left", "name"]
def b_fewest_quick : Iv.Env → M Fl :=
    (SeqS (AsgS (CallX 2 F_waits_in (Cons (Var 0) (Cons (Var 1) Nil))) (TgN 4))
    (SeqS (AsgS (CallF 1 F_stalls_in (Cons (Var 2) Nil)) (TgN 5))
    (SeqS (AsgS (Lst Nil) (TgN 6))
    (SeqS (ForS LN (Iter (CallF 1 F__all_sets (Cons (lockM 4 (LcE LN (Iter (Var 4)) (.n 9) (Tst (Bin gtI (Bin ixM (Var 5) (Var 9)) (Cst (.int 0)))) (Var 9) [9])) Nil))) (TgN 7) (SeqS (lockM 4 (AsgS (DcE LN (Iter (Var 4)) (.n 9) YesT (Var 9) (IfE (Tst (Bin (inM false) (Var 9) (Var 7))) (Cst (.int 0)) (Bin ixM (Var 5) (Var 9))) [9]) (TgN 8)))
    (IfS (Tst (Bin leI (CallF 3 F_end_by (Cons (CallB lenM (Cons (Var 1) Nil)) (Cons (Var 4) (Cons (Var 8) Nil)))) (Var 3))) (DropS (Mth chkL appM (Var 6) (Cons (Tup (Cons (CallB lenM (Cons (Var 7) Nil)) (Cons (Var 7) Nil))) Nil))) NextS)))
    (RetS (IfE (Tru (Var 6)) (Bin ixM (CallB minTM (Cons (Var 6) Nil)) (Cst (.int 1))) (Cst .non)))))))
def F_fewest_quick : List IV → M IV := Fn 10 b_fewest_quick
abbrev s__law_box : Stmt := topS 23
abbrev N__law_box : List Str := ["_law_script", "_law_k", "_law_cell"]
def b__law_box : Iv.Env → M Fl :=
    (SeqS (AsgS (IfE (Tst (Bin ltI (Var 1) (CallB lenM (Cons (Var 0) Nil)))) (Bin ixM (Var 0) (Var 1)) (Cst (.int 0))) (TgN 2))
    (RetS (Lst (Cons (Bin mulI (CallB absM (Cons (Var 2) Nil)) (CallB intM (Cons (Bin geI (CallB absM (Cons (Var 2) Nil)) (Bin powI (Cst (.int 10)) (Cst (.int 18)))) Nil))) (Cons (Bin addI (Bin addI (Bin modI (CallB intM (Cons (Var 2) Nil)) (Cst (.int 2305843009213693951))) (Bin mulI (Cst (.int 39373)) (Var 1))) (Cst (.int 1052928))) (Cons (Cst (.int 0)) Nil))))))
def F__law_box : List IV → M IV := Fn 3 b__law_box
abbrev s__law_take : Stmt := topS 24
abbrev N__law_take : List Str := ["_law_tub", "_law_under", "_law_drawn", "_law_once", "_law_odd", "_law_twice"]
def b__law_take : Iv.Env → M Fl :=
    (SeqS (IfS (Tst (Bin gtI (Bin ixM (Var 0) (Cst (.int 0))) (Cst (.int 0)))) (SeqS (AsgS (Bin modI (CallB intM (Cons (Bin ixM (Var 0) (Cst (.int 0))) Nil)) (Var 1)) (TgN 2))
    (SeqS (AsgS (Bin divI (Bin ixM (Var 0) (Cst (.int 0))) (Var 1)) (TgSub (Var 0) (Cst (.int 0))))
    (RetS (Var 2)))) NextS)
    (SeqS (AsgS (Bin addI (Bin ixM (Var 0) (Cst (.int 2))) (Cst (.int 1))) (TgSub (Var 0) (Cst (.int 2))))
    (SeqS (AsgS (Bin modI (CallB intM (Cons (Bin mulI (Bin addI (Bin ixM (Var 0) (Cst (.int 1))) (Bin mulI (Cst (.int 48271)) (Bin ixM (Var 0) (Cst (.int 2))))) (Bin addI (Cst (.int 39373)) (Bin ixM (Var 0) (Cst (.int 2))))) Nil)) (Cst (.int 2147483647))) (TgN 3))
    (SeqS (AsgS (Bin addI (Bin modI (CallB intM (Cons (Var 3) Nil)) (Cst (.int 40009))) (Cst (.int 7))) (TgN 4))
    (SeqS (AsgS (Bin modI (CallB intM (Cons (Bin mulI (Bin addI (Bin addI (Var 3) (Bin ixM (Var 0) (Cst (.int 2)))) (Bin divI (Bin ixM (Var 0) (Cst (.int 1))) (Cst (.int 1000003)))) (Var 4)) Nil)) (Cst (.int 2147483629))) (TgN 5))
    (RetS (Bin modI (CallB intM (Cons (Bin divI (Bin modI (CallB intM (Cons (Bin addI (Bin mulI (Var 5) (Cst (.int 48271))) (Var 3)) Nil)) (Cst (.int 2147483587))) (Cst (.int 64))) Nil)) (Var 1))))))))
def F__law_take : List IV → M IV := Fn 6 b__law_take
abbrev s__law_cells : Stmt := topS 25
abbrev N__law_cells : List Str := ["_law_script", "_law_top", "_law_cells_here", "_law_k", "_law_cell", "_law_spot"]
def b__law_cells : Iv.Env → M Fl :=
    (SeqS (AsgS (OrV (CallB listM (Cons (Sl (Var 0) NoO (SoO (Var 1))) Nil)) (Lst (Cons (Cst (.int 0)) Nil))) (TgN 2))
    (SeqS (ForS LN (IterA enumM (Cons (Sl (Var 0) (SoO (Var 1)) (SoO (Cst (.int 63)))) Nil)) (TgUn 2 (TgCons (TgN 3) (TgCons (TgN 4) TgNil))) (SeqS (AsgS (Bin modI (CallB intM (Cons (Var 3) Nil)) (Var 1)) (TgN 5))
    (AsgS (Bin addI (Bin ixM (Var 2) (Var 5)) (Bin mulI (Var 4) (Bin addI (Var 3) (Cst (.int 2))))) (TgSub (Var 2) (Var 5)))))
    (RetS (Var 2))))
def F__law_cells : List IV → M IV := Fn 6 b__law_cells
abbrev s__law_of : Stmt := topS 26
abbrev N__law_of : List Str := ["_law_tub", "_law_few_so"]
def b__law_of : Iv.Env → M Fl :=
    (RetS (Bin ixM (Var 1) (CallF 2 F__law_take (Cons (Var 0) (Cons (CallB lenM (Cons (Var 1) Nil)) Nil)))))
def F__law_of : List IV → M IV := Fn 2 b__law_of
abbrev s__law_pick : Stmt := topS 27
abbrev N__law_pick : List Str := ["_law_tub", "_law_few_so", "_law_much_so", "_law_left", "_law_found", "_law_turn"]
def b__law_pick : Iv.Env → M Fl :=
    (SeqS (ParS 3 4 (Cons (CallB listM (Cons (Var 1) Nil)) (Cons (Lst Nil) Nil)))
    (SeqS (ForS LN (IterA rng1 (Cons (CallB min2 (Cons (Var 2) (Cons (CallB lenM (Cons (Var 3) Nil)) Nil))) Nil)) (TgN 5) (DropS (Mth chkL appM (Var 4) (Cons (Mth chkL popAtM (Var 3) (Cons (CallF 2 F__law_take (Cons (Var 0) (Cons (CallB lenM (Cons (Var 3) Nil)) Nil))) Nil)) Nil))))
    (RetS (Var 4))))
def F__law_pick : List IV → M IV := Fn 6 b__law_pick
abbrev s__law_same : Stmt := topS 28
abbrev N__law_same : List Str := ["_law_got", "_law_due", "_law_like", "_law_its", "_law_mine"]
def b__law_same (G : List IV → M IV) : Iv.Env → M Fl :=
    (SeqS (IfS (Tru (Isi [.lst, .tup] (Var 1))) (SeqS (IfS (Tst (Bin neI (Isi [.lst] (Var 0)) (Isi [.lst] (Var 1)))) (RetS (Cst (.bl false))) NextS)
    (SeqS (IfS (Tst (Bin neI (Isi [.tup] (Var 0)) (Isi [.tup] (Var 1)))) (RetS (Cst (.bl false))) NextS)
    (RetS (AndV (Bin eqI (CallB lenM (Cons (Var 0) Nil)) (CallB lenM (Cons (Var 1) Nil))) (CallB allI (Cons (LcE LN (IterA zipM (Cons (Var 0) (Cons (Var 1) Nil))) (.t [4, 3]) YesT (CallF 2 G (Cons (Var 4) (Cons (Var 3) Nil))) [4, 3]) Nil)))))) NextS)
    (SeqS (IfS (OrT (Tst (Un isN (Var 1))) (Tru (Isi [.bl, .str] (Var 1)))) (SeqS (AsgS (AndV (Bin eqI (Isi [.bl] (Var 0)) (Isi [.bl] (Var 1))) (Bin eqI (Un isN (Var 0)) (Un isN (Var 1)))) (TgN 2))
    (RetS (AndV (Var 2) (Bin eqI (Var 0) (Var 1))))) NextS)
    (RetS (AndV (Isi [.int] (Var 0)) (AndV (NotV (Isi [.bl] (Var 0))) (Bin eqI (Var 0) (Var 1)))))))
def F__law_same : Nat → List IV → M IV
  | 0 => fun _ => stuck
  | k + 1 => Fn 5 (b__law_same (F__law_same k))
abbrev s__law_lists : Stmt := topS 29
abbrev N__law_lists : List Str := ["_law_matter", "_law_bit"]
def b__law_lists (G : List IV → M IV) : Iv.Env → M Fl :=
    (RetS (IfE (Tru (Isi [.lst, .tup] (Var 0))) (LcE LN (Iter (Var 0)) (.n 1) YesT (CallF 1 G (Cons (Var 1) Nil)) [1]) (Var 0)))
def F__law_lists : Nat → List IV → M IV
  | 0 => fun _ => stuck
  | k + 1 => Fn 2 (b__law_lists (F__law_lists k))
abbrev s__law_block : Stmt := topS 30
abbrev N__law_block : List Str := ["_law_tub", "_law_many_so", "_law_pool_so", "_law_line_so", "_law_found", "_law_k", "_law_tag", "_law_few_so", "_law_live_so"]
def b__law_block : Iv.Env → M Fl :=
    (SeqS (AsgS (Lst (Cons (Cst (.str "a")) (Cons (Cst (.str "b")) (Cons (Cst (.str "c")) (Cons (Cst (.str "d")) (Cons (Cst (.str "ab")) (Cons (Cst (.str "load")) (Cons (Cst (.str "use")) (Cons (Cst (.str "zzzzzzzz")) (Cons (Cst (.str "x")) (Cons (Cst (.str "y")) Nil))))))))))) (TgN 2))
    (SeqS (ParS 3 4 (Cons (CallF 3 F__law_pick (Cons (Var 0) (Cons (Var 2) (Cons (Var 1) Nil)))) (Cons (Lst Nil) Nil)))
    (SeqS (ForS LN (IterA enumM (Cons (Var 3) Nil)) (TgUn 2 (TgCons (TgN 5) (TgCons (TgN 6) TgNil))) (SeqS (AsgS (CallF 3 F__law_pick (Cons (Var 0) (Cons (Sl (Var 3) NoO (SoO (Var 5))) (Cons (CallF 2 F__law_of (Cons (Var 0) (Cons (Lst (Cons (Cst (.int 0)) (Cons (Cst (.int 1)) (Cons (Cst (.int 1)) (Cons (Cst (.int 1)) (Cons (Cst (.int 2)) Nil)))))) Nil))) Nil)))) (TgN 7))
    (DropS (Mth chkL appM (Var 4) (Cons (Tup (Cons (Var 6) (Cons (CallB tupleM (Cons (CallB sortM (Cons (Var 7) Nil)) Nil)) (Cons (Bin ltI (CallF 2 F__law_take (Cons (Var 0) (Cons (Cst (.int 5)) Nil))) (Cst (.int 3))) Nil)))) Nil)))))
    (SeqS (AsgS (CallB tupleM (Cons (CallB sortM (Cons (LcE LN (Iter (Var 3)) (.n 6) (Tst (Bin eqI (CallF 2 F__law_take (Cons (Var 0) (Cons (Cst (.int 4)) Nil))) (Cst (.int 0)))) (Var 6) [6]) Nil)) Nil)) (TgN 8))
    (RetS (Tup (Cons (CallB tupleM (Cons (CallB sortM (Cons (Var 4) Nil)) Nil)) (Cons (Var 8) Nil))))))))
def F__law_block : List IV → M IV := Fn 9 b__law_block
abbrev s__law_inside : Stmt := topS 32
abbrev N__law_inside : List Str := ["_law_some_so", "_law_lot_so", "_law_tag"]
def b__law_inside : Iv.Env → M Fl :=
    (RetS (Bin eqI (LcE LN (Iter (Var 0)) (.n 2) (Tst (Bin (inM true) (Var 2) (Var 1))) (Var 2) [2]) (Lst Nil)))
def F__law_inside : List IV → M IV := Fn 3 b__law_inside
abbrev s__law_order : Stmt := topS 31
abbrev N__law_order : List Str := ["_law_tub", "_law_block_so", "_law_found", "_law_turn", "_law_free_so", "_law_own"]
def b__law_order : Iv.Env → M Fl :=
    (SeqS (AsgS (Tup Nil) (TgN 2))
    (SeqS (ForS LN (IterA rng1 (Cons (CallB lenM (Cons (Bin ixM (Var 1) (Cst (.int 0))) Nil)) Nil)) (TgN 3) (SeqS (AsgS (LcE LN (Iter (Bin ixM (Var 1) (Cst (.int 0)))) (.n 5) (AndT (Tst (Bin (inM true) (Bin ixM (Var 5) (Cst (.int 0))) (Var 2))) (Tru (CallF 2 F__law_inside (Cons (Bin ixM (Var 5) (Cst (.int 1))) (Cons (Var 2) Nil))))) (Bin ixM (Var 5) (Cst (.int 0))) [5]) (TgN 4))
    (AsgS (Bin addI (Var 2) (Tup (Cons (CallF 2 F__law_of (Cons (Var 0) (Cons (Var 4) Nil))) Nil))) (TgN 2))))
    (RetS (Var 2))))
def F__law_order : List IV → M IV := Fn 6 b__law_order
abbrev s__law_end : Stmt := topS 33
abbrev N__law_end : List Str := ["_law_block_so", "_law_line_so", "_law_lasts_so", "_law_reads_so", "_law_ready_so", "_law_now", "_law_tag", "_law_own"]
def b__law_end : Iv.Env → M Fl :=
    (SeqS (AsgS (Tup (Cons (CallB dictM (Cons (LcE LN (Iter (Bin ixM (Var 0) (Cst (.int 0)))) (.n 7) YesT (Sl (Var 7) NoO (SoO (Cst (.int 2)))) [7]) Nil)) (Cons DNew (Cons (Un negI (Cst (.int 1))) Nil)))) (TgUn 3 (TgCons (TgN 3) (TgCons (TgN 4) (TgCons (TgN 5) TgNil)))))
    (SeqS (ForS LN (Iter (Var 1)) (TgN 6) (SeqS (AsgS (CallB maxI (Cons (Bin addI (Lst (Cons (Bin addI (Var 5) (Cst (.int 1))) Nil)) (LcE LN (Iter (Bin ixM (Var 3) (Var 6))) (.n 7) YesT (Bin ixM (Var 4) (Var 7)) [7])) Nil)) (TgN 5))
    (AsgS (Bin addI (Var 5) (GetE (Var 2) (Var 6) (Cst (.int 1)))) (TgSub (Var 4) (Var 6)))))
    (RetS (CallB maxI (Cons (Bin addI (Lst (Cons (Bin addI (Var 5) (Cst (.int 1))) Nil)) (LcE LN (Iter (Bin ixM (Var 0) (Cst (.int 1)))) (.n 6) YesT (Bin ixM (Var 4) (Var 6)) [6])) Nil)))))
def F__law_end : List IV → M IV := Fn 8 b__law_end
abbrev s__law_slow : Stmt := topS 34
abbrev N__law_slow : List Str := ["_law_block_so", "_law_own"]
def b__law_slow : Iv.Env → M Fl :=
    (RetS (CallB tupleM (Cons (LcE LN (Iter (Bin ixM (Var 0) (Cst (.int 0)))) (.n 1) (Tru (Bin ixM (Var 1) (Cst (.int 2)))) (Bin ixM (Var 1) (Cst (.int 0))) [1]) Nil)))
def F__law_slow : List IV → M IV := Fn 2 b__law_slow
abbrev s__law_sets : Stmt := topS 35
abbrev N__law_sets : List Str := ["_law_tags", "_law_found", "_law_tag", "_law_own"]
def b__law_sets : Iv.Env → M Fl :=
    (SeqS (AsgS (Lst (Cons (Tup Nil) Nil)) (TgN 1))
    (SeqS (ForS LN (Iter (Var 0)) (TgN 2) (AsgS (Bin addI (Var 1) (LcE LN (Iter (Var 1)) (.n 3) YesT (Bin addI (Var 3) (Tup (Cons (Var 2) Nil))) [3])) (TgN 1)))
    (RetS (CallB sortE (Cons (Var 1) Nil)))))
def F__law_sets : List IV → M IV := Fn 4 b__law_sets
abbrev s__law_lasts : Stmt := topS 36
abbrev N__law_lasts : List Str := ["_law_tub", "_law_block_so", "_law_most_so", "_law_tag"]
def b__law_lasts : Iv.Env → M Fl :=
    (RetS (CallB tupleM (Cons (LcE LN (Iter (CallF 1 F__law_slow (Cons (Var 1) Nil))) (.n 3) YesT (Tup (Cons (Var 3) (Cons (Bin addI (Cst (.int 1)) (CallF 2 F__law_take (Cons (Var 0) (Cons (Var 2) Nil)))) Nil))) [3]) Nil)))
def F__law_lasts : List IV → M IV := Fn 4 b__law_lasts
abbrev s__law_kit : Stmt := topS 37
abbrev N__law_kit : List Str := ["_law_rows_so"]
def b__law_kit : Iv.Env → M Fl :=
    (SeqS (AsgS (Tup (Cons (Tup (Cons (Cst (.str "a")) (Cons (Tup Nil) (Cons (Cst (.bl true)) Nil)))) (Cons (Tup (Cons (Cst (.str "b")) (Cons (Tup Nil) (Cons (Cst (.bl true)) Nil)))) (Cons (Tup (Cons (Cst (.str "c")) (Cons (Tup (Cons (Cst (.str "a")) (Cons (Cst (.str "b")) Nil))) (Cons (Cst (.bl false)) Nil)))) (Cons (Tup (Cons (Cst (.str "d")) (Cons (Tup (Cons (Cst (.str "c")) Nil)) (Cons (Cst (.bl true)) Nil)))) (Cons (Tup (Cons (Cst (.str "e")) (Cons (Tup Nil) (Cons (Cst (.bl true)) Nil)))) Nil)))))) (TgN 0))
    (RetS (Tup (Cons (Tup (Cons (Var 0) (Cons (Tup (Cons (Cst (.str "d")) Nil)) Nil))) (Cons (CallB tupStrM (Cons (Cst (.str "abcde")) Nil)) (Cons (CallB tupStrM (Cons (Cst (.str "beacd")) Nil)) Nil))))))
def F__law_kit : List IV → M IV := Fn 1 b__law_kit
abbrev s__law_heard : Stmt := topS 38
abbrev N__law_heard : List Str := ["_law_kit_here", "_law_line_so", "_law_lasts_so", "_law_tick_so", "_law_caught", "_law_said", "error"]
def b__law_heard : Iv.Env → M Fl :=
    (SeqS (AsgS (Tup (Cons (Cst .non) (Cons (Cst .non) Nil))) (TgUn 2 (TgCons (TgN 4) (TgCons (TgN 5) TgNil))))
    (SeqS (TryS 5 6 4 "NoOrder" (CallX 4 F_fewest_quick (Cons (Var 0) (Cons (Var 1) (Cons (Var 2) (Cons (Var 3) Nil))))) (Lst (Cons (Cst (.str "order")) (Cons (Cst (.bl true)) Nil))))
    (RetS (IfE (Tst (Un isN (Var 4))) (Var 5) (Var 4)))))
def F__law_heard : List IV → M IV := Fn 7 b__law_heard
abbrev s__law_by_hand_right : Stmt := topS 39
abbrev N__law_by_hand_right : List Str := ["_law_kit_here", "_law_line_so", "_law_back_so", "_law_lasts_so", "_law_far", "_law_got", "_law_due", "_law_tags", "_law_chain_so", "_law_near", "_law_great_so", "_law_two_so", "_law_soft", "_law_k", "_law_own", "_law_tag", "_law_tick_so"]
def b__law_by_hand_right : Iv.Env → M Fl :=
    (SeqS (AsgS (CallF 0 F__law_kit Nil) (TgUn 3 (TgCons (TgN 0) (TgCons (TgN 1) (TgCons (TgN 2) TgNil)))))
    (SeqS (AsgS (Tup (Cons (Tup (Cons (Tup (Cons (Cst (.str "a")) (Cons (Cst (.int 4)) Nil))) (Cons (Tup (Cons (Cst (.str "b")) (Cons (Cst (.int 6)) Nil))) (Cons (Tup (Cons (Cst (.str "d")) (Cons (Cst (.int 3)) Nil))) (Cons (Tup (Cons (Cst (.str "e")) (Cons (Cst (.int 9)) Nil))) Nil))))) (Cons (Bin powI (Cst (.int 10)) (Cst (.int 40))) Nil))) (TgUn 2 (TgCons (TgN 3) (TgCons (TgN 4) TgNil))))
    (SeqS (AsgS (Lst (Cons (LcE LN (Iter (Tup (Cons (Cst (.int 12)) (Cons (Cst (.int 11)) (Cons (Cst (.int 10)) (Cons (Cst (.int 9)) (Cons (Cst (.int 8)) (Cons (Cst (.int 7)) (Cons (Cst (.int 6)) (Cons (Cst (.int 5)) (Cons (Cst (.int 4)) (Cons (Un negI (Cst (.int 1))) Nil)))))))))))) (.n 16) YesT (CallD 4 F_fewest_quick (Cons (Var 0) (Cons (Var 1) (Cons (Var 3) (Cons (Var 16) Nil))))) [16]) Nil)) (TgN 5))
    (SeqS (AsgS (Lst (Cons (Lst (Cons (Tup Nil) (Cons (Tup Nil) (Cons (Tup (Cons (Cst (.str "b")) Nil)) (Cons (Tup (Cons (Cst (.str "b")) Nil)) (Cons (Tup (Cons (Cst (.str "b")) Nil)) (Cons (Tup (Cons (Cst (.str "a")) (Cons (Cst (.str "b")) Nil))) (Cons (Tup (Cons (Cst (.str "a")) (Cons (Cst (.str "b")) Nil))) (Cons (Tup (Cons (Cst (.str "a")) (Cons (Cst (.str "b")) (Cons (Cst (.str "d")) Nil)))) (Cons (Cst .non) (Cons (Cst .non) Nil))))))))))) Nil)) (TgN 6))
    (SeqS (AsgS (Bin addI (Var 5) (Lst (Cons (LcE LN (Iter (Tup (Cons (Cst (.int 10)) (Cons (Cst (.int 9)) (Cons (Cst (.int 8)) (Cons (Cst (.int 7)) (Cons (Cst (.int 5)) Nil))))))) (.n 16) YesT (CallD 4 F_fewest_quick (Cons (Var 0) (Cons (Var 2) (Cons (Var 3) (Cons (Var 16) Nil))))) [16]) Nil))) (TgN 5))
    (SeqS (AsgS (Bin addI (Var 6) (Lst (Cons (Lst (Cons (Tup Nil) (Cons (Tup (Cons (Cst (.str "d")) Nil)) (Cons (Tup (Cons (Cst (.str "d")) Nil)) (Cons (Tup (Cons (Cst (.str "a")) (Cons (Cst (.str "b")) Nil))) (Cons (Tup (Cons (Cst (.str "a")) (Cons (Cst (.str "b")) (Cons (Cst (.str "d")) Nil)))) Nil)))))) Nil))) (TgN 6))
    (SeqS (AsgS (CallB tupStrM (Cons (Cst (.str "abcdefgh")) Nil)) (TgN 7))
    (SeqS (AsgS (Tup (Cons (CallB tupleM (Cons (LcE LN (IterA enumM (Cons (Var 7) Nil)) (.t [13, 15]) YesT (Tup (Cons (Var 15) (Cons (CallB tupleM (Cons (Sl (Var 7) (SoO (CallB max2 (Cons (Bin subI (Var 13) (Cst (.int 1))) (Cons (Cst (.int 0)) Nil)))) (SoO (Var 13))) Nil)) (Cons (Cst (.bl true)) Nil)))) [13, 15]) Nil)) (Cons (Tup (Cons (Cst (.str "h")) Nil)) Nil))) (TgN 8))
    (SeqS (AsgS (Bin subI (Var 4) (Cst (.int 10))) (TgN 9))
    (SeqS (AsgS (CallB tupleM (Cons (LcE LN (Iter (Var 7)) (.n 15) YesT (Tup (Cons (Var 15) (Cons (Var 9) Nil))) [15]) Nil)) (TgN 10))
    (SeqS (AsgS (Bin addI (Var 5) (Lst (Cons (LcE LN (Iter (Tup (Cons (Cst (.int 8)) (Cons (Cst (.int 7)) (Cons (Var 9) (Cons (Bin addI (Var 9) (Cst (.int 6))) (Cons (Bin addI (Var 9) (Cst (.int 7))) Nil))))))) (.n 16) YesT (CallD 4 F_fewest_quick (Cons (Var 8) (Cons (Var 7) (Cons (Var 10) (Cons (Var 16) Nil))))) [16]) Nil))) (TgN 5))
    (SeqS (AsgS (Bin addI (Var 6) (Lst (Cons (Lst (Cons (Var 7) (Cons (Cst .non) (Cons (Var 7) (Cons (Var 7) (Cons (CallB tupStrM (Cons (Cst (.str "abcdefg")) Nil)) Nil)))))) Nil))) (TgN 6))
    (SeqS (AsgS (Tup (Cons (Tup (Cons (Tup (Cons (Cst (.str "a")) (Cons (Tup Nil) (Cons (Cst (.bl true)) Nil)))) (Cons (Tup (Cons (Cst (.str "b")) (Cons (Tup (Cons (Cst (.str "a")) Nil)) (Cons (Cst (.bl true)) Nil)))) (Cons (Tup (Cons (Cst (.str "c")) (Cons (Tup (Cons (Cst (.str "b")) Nil)) (Cons (Cst (.bl false)) Nil)))) Nil)))) (Cons (Tup Nil) Nil))) (TgN 11))
    (SeqS (AsgS (Bin addI (Var 5) (Lst (Cons (CallD 4 F_fewest_quick (Cons (Var 11) (Cons (CallB tupStrM (Cons (Cst (.str "abc")) Nil)) (Cons (Tup (Cons (Tup (Cons (Cst (.str "a")) (Cons (Cst (.int 3)) Nil))) (Cons (Tup (Cons (Cst (.str "b")) (Cons (Cst (.int 9)) Nil))) Nil))) (Cons (Cst (.int 6)) Nil))))) Nil))) (TgN 5))
    (SeqS (AsgS (Bin addI (Var 5) (Lst (Cons (CallD 4 F_fewest_quick (Cons (Var 11) (Cons (CallB tupStrM (Cons (Cst (.str "abc")) Nil)) (Cons (Tup (Cons (Tup (Cons (Cst (.str "a")) (Cons (Cst (.int 5)) Nil))) (Cons (Tup (Cons (Cst (.str "b")) (Cons (Cst (.int 5)) Nil))) Nil))) (Cons (Cst (.int 8)) Nil))))) Nil))) (TgN 5))
    (SeqS (AsgS (Bin addI (Var 5) (Lst (Cons (CallD 4 F_fewest_quick (Cons (Var 11) (Cons (CallB tupStrM (Cons (Cst (.str "abc")) Nil)) (Cons (Tup (Cons (Tup (Cons (Cst (.str "a")) (Cons (Var 4) Nil))) (Cons (Tup (Cons (Cst (.str "b")) (Cons (Cst (.int 2)) Nil))) Nil))) (Cons (Cst (.int 4)) Nil))))) Nil))) (TgN 5))
    (SeqS (AsgS (Bin addI (Var 5) (Lst (Cons (CallD 4 F_fewest_quick (Cons (Tup (Cons (Tup Nil) (Cons (Tup Nil) Nil))) (Cons (Tup Nil) (Cons (Tup Nil) (Cons (Cst (.int 0)) Nil))))) Nil))) (TgN 5))
    (SeqS (AsgS (Bin addI (Var 6) (Lst (Cons (Tup (Cons (Cst (.str "b")) Nil)) (Cons (Tup (Cons (Cst (.str "a")) Nil)) (Cons (Tup (Cons (Cst (.str "a")) Nil)) (Cons (Tup Nil) Nil)))))) (TgN 6))
    (SeqS (AsgS (Bin addI (Var 5) (Lst (Cons (CallD 4 F_fewest_quick (Cons (Var 0) (Cons (Var 1) (Cons (Var 3) (Cons (Var 4) Nil))))) (Cons (CallD 4 F_fewest_quick (Cons (Var 0) (Cons (Var 1) (Cons (Var 3) (Cons (Un negI (Var 4)) Nil))))) Nil)))) (TgN 5))
    (SeqS (AsgS (Bin addI (Var 5) (LcE LN (Iter (Tup (Cons (Un negI (Cst (.int 1))) (Cons (Cst (.int 11)) Nil)))) (.n 14) YesT (CallF 4 F__law_heard (Cons (Var 0) (Cons (CallB tupStrM (Cons (Cst (.str "acbde")) Nil)) (Cons (Var 3) (Cons (Var 14) Nil))))) [14])) (TgN 5))
    (SeqS (AsgS (Bin addI (Var 6) (Lst (Cons (Tup Nil) (Cons (Cst .non) (Cons (Lst (Cons (Cst (.str "order")) (Cons (Cst (.bl true)) Nil))) (Cons (Lst (Cons (Cst (.str "order")) (Cons (Cst (.bl true)) Nil))) Nil)))))) (TgN 6))
    (SeqS (AsgS (Lst (Cons (CallF 1 (F__law_lists 16) (Cons (Var 0) Nil)) (Cons (CallB listM (Cons (Var 1) Nil)) (Cons (CallF 1 (F__law_lists 16) (Cons (Var 3) Nil)) Nil)))) (TgN 12))
    (SeqS (DropS (Mth chkL appM (Var 5) (Cons (CallK 4 F_fewest_quick [3, 2, 1, 0] (Cons (Cst (.int 7)) (Cons (Bin ixM (Var 12) (Cst (.int 2))) (Cons (Bin ixM (Var 12) (Cst (.int 1))) (Cons (Bin ixM (Var 12) (Cst (.int 0))) Nil))))) Nil)))
    (RetS (CallF 2 (F__law_same 16) (Cons (Var 5) (Cons (Bin addI (Var 6) (Lst (Cons (Tup (Cons (Cst (.str "a")) (Cons (Cst (.str "b")) Nil))) Nil))) Nil)))))))))))))))))))))))))))
def F__law_by_hand_right : List IV → M IV := Fn 17 b__law_by_hand_right
abbrev s__law_right : Stmt := topS 40
abbrev N__law_right : List Str := ["_law_tub", "_law_turn", "_law_kit_here", "_law_line_so", "_law_lasts_so", "_law_ends_so", "_law_own", "_law_quick_so", "_law_every", "_law_tick_so", "_law_few_so", "_law_much", "_law_tag"]
def b__law_right : Iv.Env → M Fl :=
    (SeqS (ForS LN (IterA rng1 (Cons (Cst (.int 5)) Nil)) (TgN 1) (SeqS (AsgS (CallF 2 F__law_block (Cons (Var 0) (Cons (Bin addI (Cst (.int 1)) (CallF 2 F__law_take (Cons (Var 0) (Cons (Cst (.int 6)) Nil)))) Nil))) (TgN 2))
    (SeqS (ParS 3 4 (Cons (CallF 2 F__law_order (Cons (Var 0) (Cons (Var 2) Nil))) (Cons (CallF 3 F__law_lasts (Cons (Var 0) (Cons (Var 2) (Cons (Cst (.int 5)) Nil)))) Nil)))
    (SeqS (AsgS (Lst Nil) (TgN 5))
    (SeqS (ForS LN (Iter (CallF 1 F__law_sets (Cons (CallF 1 F__law_slow (Cons (Var 2) Nil)) Nil))) (TgN 6) (SeqS (AsgS (CallB dictM (Cons (LcE LN (Iter (Var 4)) (.t [12, 11]) YesT (Tup (Cons (Var 12) (Cons (IfE (Tst (Bin (inM false) (Var 12) (Var 6))) (Cst (.int 1)) (Var 11)) Nil))) [12, 11]) Nil)) (TgN 7))
    (DropS (Mth chkL appM (Var 5) (Cons (Tup (Cons (CallB lenM (Cons (Var 6) Nil)) (Cons (Var 6) (Cons (CallF 3 F__law_end (Cons (Var 2) (Cons (Var 3) (Cons (Var 7) Nil)))) Nil)))) Nil)))))
    (SeqS (AsgS (ListRg (Bin subI (CallB lenM (Cons (Var 3) Nil)) (Cst (.int 1))) (Bin addI (CallB maxI (Cons (LcE LN (Iter (Var 5)) (.n 6) YesT (Bin ixM (Var 6) (Cst (.int 2))) [6]) Nil)) (Cst (.int 2)))) (TgN 8))
    (ForS LN (Iter (CallF 3 F__law_pick (Cons (Var 0) (Cons (Var 8) (Cons (Cst (.int 6)) Nil))))) (TgN 9) (SeqS (AsgS (LcE LN (Iter (CallB sortM (Cons (Var 5) Nil))) (.n 6) (Tst (Bin leI (Bin ixM (Var 6) (Cst (.int 2))) (Var 9))) (Sl (Var 6) NoO (SoO (Cst (.int 2)))) [6]) (TgN 10))
    (IfS (NotT (Tru (CallF 2 (F__law_same 16) (Cons (CallD 4 F_fewest_quick (Cons (Var 2) (Cons (Var 3) (Cons (Var 4) (Cons (Var 9) Nil))))) (Cons (IfE (Tst (Bin neI (Var 10) (Lst Nil))) (Bin ixM (Bin ixM (Var 10) (Cst (.int 0))) (Cst (.int 1))) (Cst .non)) Nil))))) (RetS (Cst (.bl false))) NextS)))))))))
    (RetS (Cst (.bl true))))
def F__law_right : List IV → M IV := Fn 13 b__law_right
abbrev s_law : Stmt := topS 41
abbrev N_law : List Str := ["_law_script", "_law_cells_here", "_law_k"]
def b_law : Iv.Env → M Fl :=
    (SeqS (IfS (NotT (Tru (CallP 0 F__law_by_hand_right Nil))) (RetS (Cst (.bl false))) NextS)
    (SeqS (AsgS (CallF 2 F__law_cells (Cons (Var 0) (Cons (Cst (.int 2)) Nil))) (TgN 1))
    (RetS (CallB allI (Cons (LcE LN (IterA rng1 (Cons (CallB lenM (Cons (Var 1) Nil)) Nil)) (.n 2) YesT (CallF 1 F__law_right (Cons (CallF 2 F__law_box (Cons (Var 1) (Cons (Var 2) Nil))) Nil)) [2]) Nil)))))
def F_law : List IV → M IV := Fn 3 b_law
variable [KL]
section
variable {P : Program} {w : World} {K : PySem.W.Frag} {mg : Str → Option Value} {base : Heap}
/-- the callees -/
theorem sc_tupled : FnScope N_tupled ["value"] (defScope s_tupled) := ⟨rfl, rfl, rfl, by decide +kernel, rfl, by decide +kernel, by decide +kernel⟩
structure Cs_tupled (P : Program) (w : World) (K : PySem.W.Frag) (mg : Str → Option Value) (base : Heap) : Prop where
  mk ::
theorem ok_tupled (hkl : KLOk K) (Z : Exs K mg) (B : Blt mg) (T : TopFn K mg "tupled" s_tupled ["value"]) (C : Cs_tupled P w K mg base) : ∀ k, CallOk P w K mg base "tupled" (k + 1) 1 (F_tupled k)
  | 0 => top_stuck _ T
  | k + 1 => by
    have CG := ok_tupled hkl Z B T C k
    exact top_ok (k := k + 1) T sc_tupled (fun f cdv A outer s H E hr => by
      have hu := Room.hu hr
      have nd := sc_tupled.nd
      exact (pssi_cons (psi_if (pti_tru (pei_isi2 .lst .tup B.isinstance (ty_lst B.list) (ty_tup B.tuple) (pei_var 0))) (pssi_one (psi_ret (pei_tuple B.tuple (pai_cons (pei_lc LN (p := (.n 1)) [("part", 1)] rfl nd (pii_seq (pei_var 0)) (by show blkC N_tupled (defScope s_tupled) _ _ = true; decide +kernel) (fun _ _ _ _ _ => (pg_name (i := 1) nd rfl (by first | exact Or.inl rfl | exact Or.inr rfl))) (fun _ _ _ _ _ => ptsi_nil) (fun _ _ _ _ _ => (pei_callC CG hr (pai_cons (pei_var 1) pai_nil)))) pai_nil)))) pssi_nil)
        (pssi_one (psi_ret (pei_var 0)))))
theorem sc_is_name : FnScope N_is_name ["thing"] (defScope s_is_name) := ⟨rfl, rfl, rfl, by decide +kernel, rfl, by decide +kernel, by decide +kernel⟩
structure Cs_is_name (P : Program) (w : World) (K : PySem.W.Frag) (mg : Str → Option Value) (base : Heap) : Prop where
  mk ::
theorem fn_is_name (hkl : KLOk K) (Z : Exs K mg) (B : Blt mg) (C : Cs_is_name P w K mg base) {f0 : Addr} {fd : FuncData} (F : Fun K "is_name" "is_name" s_is_name f0 fd) : FnOk P w K mg base CX0 1 f0 fd ["thing"] (sp0 1 F_is_name) :=
  def_ok (k := 0) F sc_is_name (fun cdv A outer s H E hr => by
      have hu := Room.hu hr
      have nd := sc_is_name.nd
      exact (pssi_cons (psi_if (pti_not (pti_tru (pei_isi1 .str B.isinstance (ty_str B.str) (pei_var 0)))) (pssi_one (psi_ret pei_bl)) pssi_nil)
        (pssi_one (psi_ret (pei_and (pei_lele pei_int (pei_len B.len (pai_cons (pei_var 0) pai_nil)) pei_int) (pei_and (pei_isascii (pei_var 0)) (pei_and (pei_isalpha (pei_var 0)) (pei_one (pei_islower (pei_var 0))))))))))
theorem ok_is_name (hkl : KLOk K) (Z : Exs K mg) (B : Blt mg) (T : TopFn K mg "is_name" s_is_name ["thing"]) (C : Cs_is_name P w K mg base) : CallOk P w K mg base "is_name" 1 1 F_is_name :=
  let ⟨_, _, F, m, b⟩ := T; ⟨_, _, _, fn_is_name hkl Z B C F, m, F.kp, b⟩
theorem sc_is_tuple_of : FnScope N_is_tuple_of ["thing", "many"] (defScope s_is_tuple_of) := ⟨rfl, rfl, rfl, by decide +kernel, rfl, by decide +kernel, by decide +kernel⟩
structure Cs_is_tuple_of (P : Program) (w : World) (K : PySem.W.Frag) (mg : Str → Option Value) (base : Heap) : Prop where
  mk ::
theorem fn_is_tuple_of (hkl : KLOk K) (Z : Exs K mg) (B : Blt mg) (C : Cs_is_tuple_of P w K mg base) {f0 : Addr} {fd : FuncData} (F : Fun K "is_tuple_of" "is_tuple_of" s_is_tuple_of f0 fd) : FnOk P w K mg base CX0 1 f0 fd ["thing", "many"] (sp0 2 F_is_tuple_of) :=
  def_ok (k := 0) F sc_is_tuple_of (fun cdv A outer s H E hr => by
      have hu := Room.hu hr
      have nd := sc_is_tuple_of.nd
      exact (pssi_one (psi_ret (pei_and (pei_isi1 .tup B.isinstance (ty_tup B.tuple) (pei_var 0)) (pei_one (pei_eq hu (pei_len B.len (pai_cons (pei_var 0) pai_nil)) (pei_var 1)))))))
theorem ok_is_tuple_of (hkl : KLOk K) (Z : Exs K mg) (B : Blt mg) (T : TopFn K mg "is_tuple_of" s_is_tuple_of ["thing", "many"]) (C : Cs_is_tuple_of P w K mg base) : CallOk P w K mg base "is_tuple_of" 1 2 F_is_tuple_of :=
  let ⟨_, _, F, m, b⟩ := T; ⟨_, _, _, fn_is_tuple_of hkl Z B C F, m, F.kp, b⟩
theorem sc_reads_by_name : FnScope N_reads_by_name ["rows"] (defScope s_reads_by_name) := ⟨rfl, rfl, rfl, by decide +kernel, rfl, by decide +kernel, by decide +kernel⟩
structure Cs_reads_by_name (P : Program) (w : World) (K : PySem.W.Frag) (mg : Str → Option Value) (base : Heap) : Prop where
  mk ::
theorem fn_reads_by_name (hkl : KLOk K) (Z : Exs K mg) (B : Blt mg) (C : Cs_reads_by_name P w K mg base) {f0 : Addr} {fd : FuncData} (F : Fun K "reads_by_name" "reads_by_name" s_reads_by_name f0 fd) : FnOk P w K mg base CX0 1 f0 fd ["rows"] (sp0 1 F_reads_by_name) :=
  def_ok (k := 0) F sc_reads_by_name (fun cdv A outer s H E hr => by
      have hu := Room.hu hr
      have nd := sc_reads_by_name.nd
      exact (pssi_one (psi_ret (pei_dc LN (p := (.n 1)) [("row", 1)] rfl nd (pii_seq (pei_var 0)) (by show blkC N_reads_by_name (defScope s_reads_by_name) _ _ = true; decide +kernel) (fun _ _ _ _ _ => (pg_name (i := 1) nd rfl (by first | exact Or.inl rfl | exact Or.inr rfl))) (fun _ _ _ _ _ => ptsi_nil) (fun _ _ _ _ _ => (pei_ix hu (pei_var 1) pei_int)) (fun _ _ _ _ _ => (pei_ix hu (pei_var 1) pei_int))))))
theorem ok_reads_by_name (hkl : KLOk K) (Z : Exs K mg) (B : Blt mg) (T : TopFn K mg "reads_by_name" s_reads_by_name ["rows"]) (C : Cs_reads_by_name P w K mg base) : CallOk P w K mg base "reads_by_name" 1 1 F_reads_by_name :=
  let ⟨_, _, F, m, b⟩ := T; ⟨_, _, _, fn_reads_by_name hkl Z B C F, m, F.kp, b⟩
theorem sc_readers_by_name : FnScope N_readers_by_name ["reads"] (defScope s_readers_by_name) := ⟨rfl, rfl, rfl, by decide +kernel, rfl, by decide +kernel, by decide +kernel⟩
structure Cs_readers_by_name (P : Program) (w : World) (K : PySem.W.Frag) (mg : Str → Option Value) (base : Heap) : Prop where
  mk ::
theorem fn_readers_by_name (hkl : KLOk K) (Z : Exs K mg) (B : Blt mg) (C : Cs_readers_by_name P w K mg base) {f0 : Addr} {fd : FuncData} (F : Fun K "readers_by_name" "readers_by_name" s_readers_by_name f0 fd) : FnOk P w K mg base CX0 1 f0 fd ["reads"] (sp0 1 F_readers_by_name) :=
  def_ok (k := 0) F sc_readers_by_name (fun cdv A outer s H E hr => by
      have hu := Room.hu hr
      have nd := sc_readers_by_name.nd
      exact (pssi_cons (psi_lock 0 (psi_setDc LN 1 (p := (.n 2)) [("name", 2)] rfl nd (pii_seq (pei_var 0)) (by show blkC N_readers_by_name (defScope s_readers_by_name) _ _ = true; decide +kernel) (fun _ _ _ _ _ => (pg_name (i := 2) nd rfl (by first | exact Or.inl rfl | exact Or.inr rfl))) (fun _ _ _ _ _ => ptsi_nil) (fun _ _ _ _ _ => (pei_var 2)) (fun _ _ _ _ _ => (pei_lst pai_nil)) (sw_trueD rfl rfl rfl (by decide +kernel))))
        (pssi_cons (psi_lock 0 (psi_for LN PassesOwn.never rfl (pii_seq (pei_var 0)) (pgi_name 2 nd) (pssi_one (psi_for LN PassesOwn.never rfl (pii_seq (pei_ix hu (pei_var 0) (pei_var 2))) (pgi_name 3 nd) (pssi_one (psi_expr (pei_append (pei_ix hu (pei_var 1) (pei_var 3)) (pai_cons (pei_var 2) pai_nil))))))))
        (pssi_one (psi_ret (pei_var 1))))))
theorem ok_readers_by_name (hkl : KLOk K) (Z : Exs K mg) (B : Blt mg) (T : TopFn K mg "readers_by_name" s_readers_by_name ["reads"]) (C : Cs_readers_by_name P w K mg base) : CallOk P w K mg base "readers_by_name" 1 1 F_readers_by_name :=
  let ⟨_, _, F, m, b⟩ := T; ⟨_, _, _, fn_readers_by_name hkl Z B C F, m, F.kp, b⟩
theorem sc_is_order_of : FnScope N_is_order_of ["reads", "thing"] (defScope s_is_order_of) := ⟨rfl, rfl, rfl, by decide +kernel, rfl, by decide +kernel, by decide +kernel⟩
structure Cs_is_order_of (P : Program) (w : World) (K : PySem.W.Frag) (mg : Str → Option Value) (base : Heap) : Prop where
  mk ::
  is_name : CallOk P w K mg base "is_name" 1 1 F_is_name
  is_tuple_of : CallOk P w K mg base "is_tuple_of" 1 2 F_is_tuple_of
theorem fn_is_order_of (hkl : KLOk K) (Z : Exs K mg) (B : Blt mg) (C : Cs_is_order_of P w K mg base) {f0 : Addr} {fd : FuncData} (F : Fun K "is_order_of" "is_order_of" s_is_order_of f0 fd) : FnOk P w K mg base CX0 2 f0 fd ["reads", "thing"] (sp0 2 F_is_order_of) :=
  def_ok (k := 1) F sc_is_order_of (fun cdv A outer s H E hr => by
      have hu := Room.hu hr
      have nd := sc_is_order_of.nd
      exact (pssi_cons (psi_if (pti_not (pti_tru (pei_callC C.is_tuple_of (hr.mono (by decide)) (pai_cons (pei_var 1) (pai_cons (pei_len B.len (pai_cons (pei_var 0) pai_nil)) pai_nil))))) (pssi_one (psi_ret pei_bl)) pssi_nil)
        (pssi_cons (psi_set 2 nd pei_dnew)
        (pssi_cons (psi_for LN PassesOwn.never rfl (pii_seq (pei_var 1)) (pgi_name 3 nd) (pssi_cons (psi_if (PWI.pt (pwi_or (pti_not (pti_tru (pei_callC C.is_name (hr.mono (by decide)) (pai_cons (pei_var 3) pai_nil)))) (pwi_or (pti_nin hu (pei_var 3) (pei_var 0)) (pwi_or1 (pti_in hu (pei_var 3) (pei_var 2)))))) (pssi_one (psi_ret pei_bl)) pssi_nil)
        (pssi_cons (psi_if (pti_not (pti_tru (pei_all rfl B.all (pai_cons (pei_lc LN (p := (.n 4)) [("one", 4)] rfl nd (pii_seq (pei_ix hu (pei_var 0) (pei_var 3))) (by show blkC N_is_order_of (defScope s_is_order_of) _ _ = true; decide +kernel) (fun _ _ _ _ _ => (pg_name (i := 4) nd rfl (by first | exact Or.inl rfl | exact Or.inr rfl))) (fun _ _ _ _ _ => ptsi_nil) (fun _ _ _ _ _ => (pei_in hu (pei_var 4) (pei_var 2)))) pai_nil)))) (pssi_one (psi_ret pei_bl)) pssi_nil)
        (pssi_one (psi_asg pei_bl (pgi_sub hu (pei_var 2) (pei_var 3)))))))
        (pssi_one (psi_ret pei_bl))))))
theorem ok_is_order_of (hkl : KLOk K) (Z : Exs K mg) (B : Blt mg) (T : TopFn K mg "is_order_of" s_is_order_of ["reads", "thing"]) (C : Cs_is_order_of P w K mg base) : CallOk P w K mg base "is_order_of" 2 2 F_is_order_of :=
  let ⟨_, _, F, m, b⟩ := T; ⟨_, _, _, fn_is_order_of hkl Z B C F, m, F.kp, b⟩
theorem sc_told_order : FnScope N_told_order ["block", "order"] (defScope s_told_order) := ⟨rfl, rfl, rfl, by decide +kernel, rfl, by decide +kernel, by decide +kernel⟩
structure Cs_told_order (P : Program) (w : World) (K : PySem.W.Frag) (mg : Str → Option Value) (base : Heap) : Prop where
  mk ::
  tupled : CallOk P w K mg base "tupled" 17 1 (F_tupled 16)
  reads_by_name : CallOk P w K mg base "reads_by_name" 1 1 F_reads_by_name
  is_order_of : CallOk P w K mg base "is_order_of" 2 2 F_is_order_of
theorem fn_told_order (hkl : KLOk K) (Z : Exs K mg) (B : Blt mg) (C : Cs_told_order P w K mg base) {f0 : Addr} {fd : FuncData} (F : Fun K "told_order" "told_order" s_told_order f0 fd) : FnOk P w K mg base (L2.CX P w) 18 f0 fd ["block", "order"] (spX mg 2 F_told_order) :=
  def_okX (k := 17) F sc_told_order (fun cdv A outer s H E hr => by
      have hu := Room.hu hr
      have nd := sc_told_order.nd
      exact (pssi_cons (psi_set 2 nd (pei_callC C.tupled (hr.mono (by decide)) (pai_cons (pei_var 1) pai_nil)))
        (pssi_cons (psi_if (pti_not (pti_tru (pei_callC C.is_order_of (hr.mono (by decide)) (pai_cons (pei_callC C.reads_by_name (hr.mono (by decide)) (pai_cons (pei_ix hu (pei_var 0) pei_int) pai_nil)) (pai_cons (pei_var 2) pai_nil))))) (pssi_one (psi_raiseE Z.NoOrder rfl (takes_of rfl rfl rfl rfl))) pssi_nil)
        (pssi_one (psi_ret (pei_var 2))))))
theorem ok_told_order (hkl : KLOk K) (Z : Exs K mg) (B : Blt mg) (T : TopFn K mg "told_order" s_told_order ["block", "order"]) (C : Cs_told_order P w K mg base) : CallOkX P w K mg base "told_order" 18 2 F_told_order :=
  let ⟨_, _, F, m, b⟩ := T; ⟨_, _, _, fn_told_order hkl Z B C F, m, F.kp, b⟩
theorem sc_awaited_in : FnScope N_awaited_in ["block"] (defScope s_awaited_in) := ⟨rfl, rfl, rfl, by decide +kernel, rfl, by decide +kernel, by decide +kernel⟩
structure Cs_awaited_in (P : Program) (w : World) (K : PySem.W.Frag) (mg : Str → Option Value) (base : Heap) : Prop where
  mk ::
  tupled : CallOk P w K mg base "tupled" 17 1 (F_tupled 16)
  reads_by_name : CallOk P w K mg base "reads_by_name" 1 1 F_reads_by_name
  readers_by_name : CallOk P w K mg base "readers_by_name" 1 1 F_readers_by_name
theorem fn_awaited_in (hkl : KLOk K) (Z : Exs K mg) (B : Blt mg) (C : Cs_awaited_in P w K mg base) {f0 : Addr} {fd : FuncData} (F : Fun K "awaited_in" "awaited_in" s_awaited_in f0 fd) : FnOk P w K mg base CX0 18 f0 fd ["block"] (sp0 1 F_awaited_in) :=
  def_ok (k := 17) F sc_awaited_in (fun cdv A outer s H E hr => by
      have hu := Room.hu hr
      have nd := sc_awaited_in.nd
      exact (pssi_cons (psi_asg (pei_callC C.tupled (hr.mono (by decide)) (pai_cons (pei_var 0) pai_nil)) (pgi_un 2 rfl (pgsi_cons (pgi_name 1 nd) (pgsi_cons (pgi_name 2 nd) pgsi_nil))))
        (pssi_cons (psi_set 3 nd (pei_callC C.readers_by_name (hr.mono (by decide)) (pai_cons (pei_callC C.reads_by_name (hr.mono (by decide)) (pai_cons (pei_var 1) pai_nil)) pai_nil)))
        (pssi_one (psi_ret (pei_tuple B.tuple (pai_cons (pei_lc LN (p := (.n 4)) [("row", 4)] rfl nd (pii_seq (pei_var 1)) (by show blkC N_awaited_in (defScope s_awaited_in) _ _ = true; decide +kernel) (fun _ _ _ _ _ => (pg_name (i := 4) nd rfl (by first | exact Or.inl rfl | exact Or.inr rfl))) (fun _ _ _ _ _ => (ptsi_one (PWI.pt (pwi_and (pti_tru (pei_ix hu (pei_var 4) pei_int)) (pwi_and1 (PWI.pt (pwi_or (pti_tru (pei_ix hu (pei_var 3) (pei_ix hu (pei_var 4) pei_int))) (pwi_or1 (pti_in hu (pei_ix hu (pei_var 4) pei_int) (pei_var 2)))))))))) (fun _ _ _ _ _ => (pei_ix hu (pei_var 4) pei_int))) pai_nil)))))))
theorem ok_awaited_in (hkl : KLOk K) (Z : Exs K mg) (B : Blt mg) (T : TopFn K mg "awaited_in" s_awaited_in ["block"]) (C : Cs_awaited_in P w K mg base) : CallOk P w K mg base "awaited_in" 18 1 F_awaited_in :=
  let ⟨_, _, F, m, b⟩ := T; ⟨_, _, _, fn_awaited_in hkl Z B C F, m, F.kp, b⟩
theorem sc__firsts_by : FnScope N__firsts_by ["order", "readers"] (defScope s__firsts_by) := ⟨rfl, rfl, rfl, by decide +kernel, rfl, by decide +kernel, by decide +kernel⟩
structure Cs__firsts_by (P : Program) (w : World) (K : PySem.W.Frag) (mg : Str → Option Value) (base : Heap) : Prop where
  mk ::
theorem fn__firsts_by (hkl : KLOk K) (Z : Exs K mg) (B : Blt mg) (C : Cs__firsts_by P w K mg base) {f0 : Addr} {fd : FuncData} (F : Fun K "_firsts_by" "_firsts_by" s__firsts_by f0 fd) : FnOk P w K mg base CX0 1 f0 fd ["order", "readers"] (sp0 2 F__firsts_by) :=
  def_ok (k := 0) F sc__firsts_by (fun cdv A outer s H E hr => by
      have hu := Room.hu hr
      have nd := sc__firsts_by.nd
      exact (pssi_cons (psi_set 2 nd (pei_dc LN (p := (.t [5, 3])) [("place", 5), ("name", 3)] rfl nd (pii_enum B.enumerate (pai_cons (pei_var 0) pai_nil)) (by show blkC N__firsts_by (defScope s__firsts_by) _ _ = true; decide +kernel) (fun _ _ _ _ _ => (pg_tup rfl (pgs_cons (pg_name (i := 5) nd rfl (by first | exact Or.inl rfl | exact Or.inr rfl)) (pgs_cons (pg_name (i := 3) nd rfl (by first | exact Or.inl rfl | exact Or.inr rfl)) pgs_nil)))) (fun _ _ _ _ _ => ptsi_nil) (fun _ _ _ _ _ => (pei_var 3)) (fun _ _ _ _ _ => (pei_var 5))))
        (pssi_one (psi_ret (pei_lock 1 (pei_dc LN (p := (.n 3)) [("name", 3)] rfl nd (pii_seq (pei_var 1)) (by show blkC N__firsts_by (defScope s__firsts_by) _ _ = true; decide +kernel) (fun _ _ _ _ _ => (pg_name (i := 3) nd rfl (by first | exact Or.inl rfl | exact Or.inr rfl))) (fun _ _ _ _ _ => ptsi_nil) (fun _ _ _ _ _ => (pei_var 3)) (fun _ _ _ _ _ => (pei_minDf rfl hu B.min (pai_cons (pei_lc LN (p := (.n 4)) [("one", 4)] rfl nd (pii_seq (pei_ix hu (pei_var 1) (pei_var 3))) (by show blkC N__firsts_by (relS _ (defScope s__firsts_by)) _ _ = true; decide +kernel) (fun _ _ _ _ _ => (pg_name (i := 4) nd rfl (by first | exact Or.inl rfl | exact Or.inr rfl))) (fun _ _ _ _ _ => ptsi_nil) (fun _ _ _ _ _ => (pei_ix hu (pei_var 2) (pei_var 4)))) pai_nil) (pei_len B.len (pai_cons (pei_var 0) pai_nil))))))))))
theorem ok__firsts_by (hkl : KLOk K) (Z : Exs K mg) (B : Blt mg) (T : TopFn K mg "_firsts_by" s__firsts_by ["order", "readers"]) (C : Cs__firsts_by P w K mg base) : CallOk P w K mg base "_firsts_by" 1 2 F__firsts_by :=
  let ⟨_, _, F, m, b⟩ := T; ⟨_, _, _, fn__firsts_by hkl Z B C F, m, F.kp, b⟩
theorem sc_first_readers : FnScope N_first_readers ["block", "order"] (defScope s_first_readers) := ⟨rfl, rfl, rfl, by decide +kernel, rfl, by decide +kernel, by decide +kernel⟩
structure Cs_first_readers (P : Program) (w : World) (K : PySem.W.Frag) (mg : Str → Option Value) (base : Heap) : Prop where
  mk ::
  tupled : CallOk P w K mg base "tupled" 17 1 (F_tupled 16)
  reads_by_name : CallOk P w K mg base "reads_by_name" 1 1 F_reads_by_name
  readers_by_name : CallOk P w K mg base "readers_by_name" 1 1 F_readers_by_name
  told_order : CallOkX P w K mg base "told_order" 18 2 F_told_order
  _firsts_by : CallOk P w K mg base "_firsts_by" 1 2 F__firsts_by
theorem fn_first_readers (hkl : KLOk K) (Z : Exs K mg) (B : Blt mg) (C : Cs_first_readers P w K mg base) {f0 : Addr} {fd : FuncData} (F : Fun K "first_readers" "first_readers" s_first_readers f0 fd) : FnOk P w K mg base (L2.CX P w) 19 f0 fd ["block", "order"] (spX mg 2 F_first_readers) :=
  def_okX (k := 18) F sc_first_readers (fun cdv A outer s H E hr => by
      have hu := Room.hu hr
      have nd := sc_first_readers.nd
      exact (pssi_cons (psi_set 0 nd (pei_callC C.tupled (hr.mono (by decide)) (pai_cons (pei_var 0) pai_nil)))
        (pssi_cons (psi_set 2 nd (pei_callX C.told_order (hr.mono (by decide)) (takes_of rfl rfl rfl rfl) (pai_cons (pei_var 0) (pai_cons (pei_var 1) pai_nil))))
        (pssi_one (psi_ret (pei_callC C._firsts_by (hr.mono (by decide)) (pai_cons (pei_var 2) (pai_cons (pei_callC C.readers_by_name (hr.mono (by decide)) (pai_cons (pei_callC C.reads_by_name (hr.mono (by decide)) (pai_cons (pei_ix hu (pei_var 0) pei_int) pai_nil)) pai_nil)) pai_nil))))))))
theorem ok_first_readers (hkl : KLOk K) (Z : Exs K mg) (B : Blt mg) (T : TopFn K mg "first_readers" s_first_readers ["block", "order"]) (C : Cs_first_readers P w K mg base) : CallOkX P w K mg base "first_readers" 19 2 F_first_readers :=
  let ⟨_, _, F, m, b⟩ := T; ⟨_, _, _, fn_first_readers hkl Z B C F, m, F.kp, b⟩
theorem sc__waits_by : FnScope N__waits_by ["order", "firsts", "awaited"] (defScope s__waits_by) := ⟨rfl, rfl, rfl, by decide +kernel, rfl, by decide +kernel, by decide +kernel⟩
structure Cs__waits_by (P : Program) (w : World) (K : PySem.W.Frag) (mg : Str → Option Value) (base : Heap) : Prop where
  mk ::
theorem fn__waits_by (hkl : KLOk K) (Z : Exs K mg) (B : Blt mg) (C : Cs__waits_by P w K mg base) {f0 : Addr} {fd : FuncData} (F : Fun K "_waits_by" "_waits_by" s__waits_by f0 fd) : FnOk P w K mg base CX0 1 f0 fd ["order", "firsts", "awaited"] (sp0 3 F__waits_by) :=
  def_ok (k := 0) F sc__waits_by (fun cdv A outer s H E hr => by
      have hu := Room.hu hr
      have nd := sc__waits_by.nd
      exact (pssi_cons (psi_set 3 nd (pei_dc LN (p := (.t [5, 4])) [("place", 5), ("name", 4)] rfl nd (pii_enum B.enumerate (pai_cons (pei_var 0) pai_nil)) (by show blkC N__waits_by (defScope s__waits_by) _ _ = true; decide +kernel) (fun _ _ _ _ _ => (pg_tup rfl (pgs_cons (pg_name (i := 5) nd rfl (by first | exact Or.inl rfl | exact Or.inr rfl)) (pgs_cons (pg_name (i := 4) nd rfl (by first | exact Or.inl rfl | exact Or.inr rfl)) pgs_nil)))) (fun _ _ _ _ _ => ptsi_nil) (fun _ _ _ _ _ => (pei_var 4)) (fun _ _ _ _ _ => (pei_var 5))))
        (pssi_one (psi_ret (pei_dc LN (p := (.n 4)) [("name", 4)] rfl nd (pii_seq (pei_var 2)) (by show blkC N__waits_by (defScope s__waits_by) _ _ = true; decide +kernel) (fun _ _ _ _ _ => (pg_name (i := 4) nd rfl (by first | exact Or.inl rfl | exact Or.inr rfl))) (fun _ _ _ _ _ => ptsi_nil) (fun _ _ _ _ _ => (pei_var 4)) (fun _ _ _ _ _ => (pei_tup (pai_cons (pei_ix hu (pei_var 3) (pei_var 4)) (pai_cons (pei_ix hu (pei_var 1) (pei_var 4)) pai_nil)))))))))
theorem ok__waits_by (hkl : KLOk K) (Z : Exs K mg) (B : Blt mg) (T : TopFn K mg "_waits_by" s__waits_by ["order", "firsts", "awaited"]) (C : Cs__waits_by P w K mg base) : CallOk P w K mg base "_waits_by" 1 3 F__waits_by :=
  let ⟨_, _, F, m, b⟩ := T; ⟨_, _, _, fn__waits_by hkl Z B C F, m, F.kp, b⟩
theorem sc_waits_in : FnScope N_waits_in ["block", "order"] (defScope s_waits_in) := ⟨rfl, rfl, rfl, by decide +kernel, rfl, by decide +kernel, by decide +kernel⟩
structure Cs_waits_in (P : Program) (w : World) (K : PySem.W.Frag) (mg : Str → Option Value) (base : Heap) : Prop where
  mk ::
  awaited_in : CallOk P w K mg base "awaited_in" 18 1 F_awaited_in
  first_readers : CallOkX P w K mg base "first_readers" 19 2 F_first_readers
  _waits_by : CallOk P w K mg base "_waits_by" 1 3 F__waits_by
theorem fn_waits_in (hkl : KLOk K) (Z : Exs K mg) (B : Blt mg) (C : Cs_waits_in P w K mg base) {f0 : Addr} {fd : FuncData} (F : Fun K "waits_in" "waits_in" s_waits_in f0 fd) : FnOk P w K mg base (L2.CX P w) 20 f0 fd ["block", "order"] (spX mg 2 F_waits_in) :=
  def_okX (k := 19) F sc_waits_in (fun cdv A outer s H E hr => by
      have hu := Room.hu hr
      have nd := sc_waits_in.nd
      exact (pssi_one (psi_ret (pei_callC C._waits_by (hr.mono (by decide)) (pai_cons (pei_var 1) (pai_cons (pei_callX C.first_readers (hr.mono (by decide)) (takes_of rfl rfl rfl rfl) (pai_cons (pei_var 0) (pai_cons (pei_var 1) pai_nil))) (pai_cons (pei_callC C.awaited_in (hr.mono (by decide)) (pai_cons (pei_var 0) pai_nil)) pai_nil)))))))
theorem ok_waits_in (hkl : KLOk K) (Z : Exs K mg) (B : Blt mg) (T : TopFn K mg "waits_in" s_waits_in ["block", "order"]) (C : Cs_waits_in P w K mg base) : CallOkX P w K mg base "waits_in" 20 2 F_waits_in :=
  let ⟨_, _, F, m, b⟩ := T; ⟨_, _, _, fn_waits_in hkl Z B C F, m, F.kp, b⟩
theorem sc_stalls_in : FnScope N_stalls_in ["latencies"] (defScope s_stalls_in) := ⟨rfl, rfl, rfl, by decide +kernel, rfl, by decide +kernel, by decide +kernel⟩
structure Cs_stalls_in (P : Program) (w : World) (K : PySem.W.Frag) (mg : Str → Option Value) (base : Heap) : Prop where
  mk ::
  tupled : CallOk P w K mg base "tupled" 17 1 (F_tupled 16)
theorem fn_stalls_in (hkl : KLOk K) (Z : Exs K mg) (B : Blt mg) (C : Cs_stalls_in P w K mg base) {f0 : Addr} {fd : FuncData} (F : Fun K "stalls_in" "stalls_in" s_stalls_in f0 fd) : FnOk P w K mg base CX0 18 f0 fd ["latencies"] (sp0 1 F_stalls_in) :=
  def_ok (k := 17) F sc_stalls_in (fun cdv A outer s H E hr => by
      have hu := Room.hu hr
      have nd := sc_stalls_in.nd
      exact (pssi_one (psi_ret (pei_dc LN (p := (.t [1, 2])) [("name", 1), ("number", 2)] rfl nd (pii_seq (pei_callC C.tupled (hr.mono (by decide)) (pai_cons (pei_var 0) pai_nil))) (by show blkC N_stalls_in (defScope s_stalls_in) _ _ = true; decide +kernel) (fun _ _ _ _ _ => (pg_tup rfl (pgs_cons (pg_name (i := 1) nd rfl (by first | exact Or.inl rfl | exact Or.inr rfl)) (pgs_cons (pg_name (i := 2) nd rfl (by first | exact Or.inl rfl | exact Or.inr rfl)) pgs_nil)))) (fun _ _ _ _ _ => ptsi_nil) (fun _ _ _ _ _ => (pei_var 1)) (fun _ _ _ _ _ => (pei_sub (pei_var 2) pei_int))))))
theorem ok_stalls_in (hkl : KLOk K) (Z : Exs K mg) (B : Blt mg) (T : TopFn K mg "stalls_in" s_stalls_in ["latencies"]) (C : Cs_stalls_in P w K mg base) : CallOk P w K mg base "stalls_in" 18 1 F_stalls_in :=
  let ⟨_, _, F, m, b⟩ := T; ⟨_, _, _, fn_stalls_in hkl Z B C F, m, F.kp, b⟩
theorem sc_end_by : FnScope N_end_by ["many", "waits", "stalls"] (defScope s_end_by) := ⟨rfl, rfl, rfl, by decide +kernel, rfl, by decide +kernel, by decide +kernel⟩
structure Cs_end_by (P : Program) (w : World) (K : PySem.W.Frag) (mg : Str → Option Value) (base : Heap) : Prop where
  mk ::
theorem fn_end_by (hkl : KLOk K) (Z : Exs K mg) (B : Blt mg) (C : Cs_end_by P w K mg base) {f0 : Addr} {fd : FuncData} (F : Fun K "end_by" "end_by" s_end_by f0 fd) : FnOk P w K mg base CX0 1 f0 fd ["many", "waits", "stalls"] (sp0 3 F_end_by) :=
  def_ok (k := 0) F sc_end_by (fun cdv A outer s H E hr => by
      have hu := Room.hu hr
      have nd := sc_end_by.nd
      exact (pssi_cons (psi_set 3 nd (pei_lst (pai_cons pei_int pai_nil)))
        (pssi_cons (psi_for LN PassesOwn.never rfl (pii_range2 B.range (pai_cons pei_int (pai_cons (pei_add (pei_var 0) pei_int) pai_nil))) (pgi_name 4 nd) (pssi_cons (psi_lock 1 (psi_setLc LN 5 (p := (.n 6)) [("name", 6)] rfl nd (pii_seq (pei_var 1)) (by show blkC N_end_by (defScope s_end_by) _ _ = true; decide +kernel) (fun _ _ _ _ _ => (pg_name (i := 6) nd rfl (by first | exact Or.inl rfl | exact Or.inr rfl))) (fun _ _ _ _ _ => (ptsi_one (pti_eq hu (pei_ix hu (pei_ix hu (pei_var 1) (pei_var 6)) pei_int) (pei_var 4)))) (fun _ _ _ _ _ => (pei_add (pei_add (pei_ix hu (pei_var 3) (pei_ix hu (pei_ix hu (pei_var 1) (pei_var 6)) pei_int)) (pei_ix hu (pei_var 2) (pei_var 6))) pei_int)) (sw_true rfl rfl rfl (by decide +kernel))))
        (pssi_one (psi_expr (pei_append (pei_var 3) (pai_cons (pei_max1 rfl B.max (pai_cons (pei_add (pei_lst (pai_cons (pei_add (pei_ix hu (pei_var 3) (pei_neg pei_int)) pei_int) pai_nil)) (pei_var 5)) pai_nil)) pai_nil))))))
        (pssi_one (psi_ret (pei_ix hu (pei_var 3) (pei_neg pei_int)))))))
theorem ok_end_by (hkl : KLOk K) (Z : Exs K mg) (B : Blt mg) (T : TopFn K mg "end_by" s_end_by ["many", "waits", "stalls"]) (C : Cs_end_by P w K mg base) : CallOk P w K mg base "end_by" 1 3 F_end_by :=
  let ⟨_, _, F, m, b⟩ := T; ⟨_, _, _, fn_end_by hkl Z B C F, m, F.kp, b⟩
theorem sc__all_sets : FnScope N__all_sets ["names"] (defScope s__all_sets) := ⟨rfl, rfl, rfl, by decide +kernel, rfl, by decide +kernel, by decide +kernel⟩
structure Cs__all_sets (P : Program) (w : World) (K : PySem.W.Frag) (mg : Str → Option Value) (base : Heap) : Prop where
  mk ::
theorem fn__all_sets (hkl : KLOk K) (Z : Exs K mg) (B : Blt mg) (C : Cs__all_sets P w K mg base) {f0 : Addr} {fd : FuncData} (F : Fun K "_all_sets" "_all_sets" s__all_sets f0 fd) : FnOk P w K mg base CX0 1 f0 fd ["names"] (sp0 1 F__all_sets) :=
  def_ok (k := 0) F sc__all_sets (fun cdv A outer s H E hr => by
      have hu := Room.hu hr
      have nd := sc__all_sets.nd
      exact (pssi_cons (psi_set 1 nd (pei_lst (pai_cons (pei_tup pai_nil) pai_nil)))
        (pssi_cons (psi_for LN PassesOwn.never rfl (pii_seq (pei_var 0)) (pgi_name 2 nd) (pssi_one (psi_set 1 nd (pei_add (pei_var 1) (pei_lc LN (p := (.n 3)) [("some", 3)] rfl nd (pii_seq (pei_var 1)) (by show blkC N__all_sets (defScope s__all_sets) _ _ = true; decide +kernel) (fun _ _ _ _ _ => (pg_name (i := 3) nd rfl (by first | exact Or.inl rfl | exact Or.inr rfl))) (fun _ _ _ _ _ => ptsi_nil) (fun _ _ _ _ _ => (pei_add (pei_var 3) (pei_tup (pai_cons (pei_var 2) pai_nil)))))))))
        (pssi_one (psi_ret (pei_var 1))))))
theorem ok__all_sets (hkl : KLOk K) (Z : Exs K mg) (B : Blt mg) (T : TopFn K mg "_all_sets" s__all_sets ["names"]) (C : Cs__all_sets P w K mg base) : CallOk P w K mg base "_all_sets" 1 1 F__all_sets :=
  let ⟨_, _, F, m, b⟩ := T; ⟨_, _, _, fn__all_sets hkl Z B C F, m, F.kp, b⟩
theorem sc_fewest_quick : FnScope N_fewest_quick ["block", "order", "latencies", "end"] (defScope s_fewest_quick) := ⟨rfl, rfl, rfl, by decide +kernel, rfl, by decide +kernel, by decide +kernel⟩
structure Cs_fewest_quick (P : Program) (w : World) (K : PySem.W.Frag) (mg : Str → Option Value) (base : Heap) : Prop where
  mk ::
  waits_in : CallOkX P w K mg base "waits_in" 20 2 F_waits_in
  stalls_in : CallOk P w K mg base "stalls_in" 18 1 F_stalls_in
  end_by : CallOk P w K mg base "end_by" 1 3 F_end_by
  _all_sets : CallOk P w K mg base "_all_sets" 1 1 F__all_sets
theorem fn_fewest_quick (hkl : KLOk K) (Z : Exs K mg) (B : Blt mg) (C : Cs_fewest_quick P w K mg base) {f0 : Addr} {fd : FuncData} (F : Fun K "fewest_quick" "fewest_quick" s_fewest_quick f0 fd) : FnOk P w K mg base (L2.CX P w) 21 f0 fd ["block", "order", "latencies", "end"] (spX mg 4 F_fewest_quick) :=
  def_okX (k := 20) F sc_fewest_quick (fun cdv A outer s H E hr => by
      have hu := Room.hu hr
      have nd := sc_fewest_quick.nd
      exact (pssi_cons (psi_set 4 nd (pei_callX C.waits_in (hr.mono (by decide)) (takes_of rfl rfl rfl rfl) (pai_cons (pei_var 0) (pai_cons (pei_var 1) pai_nil))))
        (pssi_cons (psi_set 5 nd (pei_callC C.stalls_in (hr.mono (by decide)) (pai_cons (pei_var 2) pai_nil)))
        (pssi_cons (psi_set 6 nd (pei_lst pai_nil))
        (pssi_cons (psi_for LN (passes_of rfl) rfl (pii_seq (pei_callC C._all_sets (hr.mono (by decide)) (pai_cons (pei_lock 4 (pei_lc LN (p := (.n 9)) [("name", 9)] rfl nd (pii_seq (pei_var 4)) (by show blkC N_fewest_quick (defScope s_fewest_quick) _ _ = true; decide +kernel) (fun _ _ _ _ _ => (pg_name (i := 9) nd rfl (by first | exact Or.inl rfl | exact Or.inr rfl))) (fun _ _ _ _ _ => (ptsi_one (pti_gt (pei_ix hu (pei_var 5) (pei_var 9)) pei_int))) (fun _ _ _ _ _ => (pei_var 9)))) pai_nil))) (pgi_name 7 nd) (pssi_cons (psi_lock 4 (psi_setDc LN 8 (p := (.n 9)) [("name", 9)] rfl nd (pii_seq (pei_var 4)) (by show blkC N_fewest_quick (defScope s_fewest_quick) _ _ = true; decide +kernel) (fun _ _ _ _ _ => (pg_name (i := 9) nd rfl (by first | exact Or.inl rfl | exact Or.inr rfl))) (fun _ _ _ _ _ => ptsi_nil) (fun _ _ _ _ _ => (pei_var 9)) (fun _ _ _ _ _ => (pei_ifE (pti_in hu (pei_var 9) (pei_var 7)) pei_int (pei_ix hu (pei_var 5) (pei_var 9)))) (sw_trueD rfl rfl rfl (by decide +kernel))))
        (pssi_one (psi_if (pti_le (pei_callC C.end_by (hr.mono (by decide)) (pai_cons (pei_len B.len (pai_cons (pei_var 1) pai_nil)) (pai_cons (pei_var 4) (pai_cons (pei_var 8) pai_nil)))) (pei_var 3)) (pssi_one (psi_expr (pei_append (pei_var 6) (pai_cons (pei_tup (pai_cons (pei_len B.len (pai_cons (pei_var 7) pai_nil)) (pai_cons (pei_var 7) pai_nil))) pai_nil)))) pssi_nil))))
        (pssi_one (psi_ret (pei_ifE (pti_tru (pei_var 6)) (pei_ix hu (pei_minT rfl hu B.min (pai_cons (pei_var 6) pai_nil)) pei_int) pei_non))))))))
theorem ok_fewest_quick (hkl : KLOk K) (Z : Exs K mg) (B : Blt mg) (T : TopFn K mg "fewest_quick" s_fewest_quick ["block", "order", "latencies", "end"]) (C : Cs_fewest_quick P w K mg base) : CallOkX P w K mg base "fewest_quick" 21 4 F_fewest_quick :=
  let ⟨_, _, F, m, b⟩ := T; ⟨_, _, _, fn_fewest_quick hkl Z B C F, m, F.kp, b⟩
theorem sc__law_box : FnScope N__law_box ["_law_script", "_law_k"] (defScope s__law_box) := ⟨rfl, rfl, rfl, by decide +kernel, rfl, by decide +kernel, by decide +kernel⟩
structure Cs__law_box (P : Program) (w : World) (K : PySem.W.Frag) (mg : Str → Option Value) (base : Heap) : Prop where
  mk ::
theorem fn__law_box (hkl : KLOk K) (Z : Exs K mg) (B : Blt mg) (C : Cs__law_box P w K mg base) {f0 : Addr} {fd : FuncData} (F : Fun K "_law_box" "_law_box" s__law_box f0 fd) : FnOk P w K mg base CX0 1 f0 fd ["_law_script", "_law_k"] (sp0 2 F__law_box) :=
  def_ok (k := 0) F sc__law_box (fun cdv A outer s H E hr => by
      have hu := Room.hu hr
      have nd := sc__law_box.nd
      exact (pssi_cons (psi_set 2 nd (pei_ifE (pti_lt (pei_var 1) (pei_len B.len (pai_cons (pei_var 0) pai_nil))) (pei_ix hu (pei_var 0) (pei_var 1)) pei_int))
        (pssi_one (psi_ret (pei_lst (pai_cons (pei_mul (pei_abs B.abs (pai_cons (pei_var 2) pai_nil)) (pei_intc B.int (pai_cons (pei_ge (pei_abs B.abs (pai_cons (pei_var 2) pai_nil)) (pei_pow pei_int pei_int)) pai_nil))) (pai_cons (pei_add (pei_add (pei_mod (pei_intc B.int (pai_cons (pei_var 2) pai_nil)) pei_int) (pei_mul pei_int (pei_var 1))) pei_int) (pai_cons pei_int pai_nil))))))))
theorem ok__law_box (hkl : KLOk K) (Z : Exs K mg) (B : Blt mg) (T : TopFn K mg "_law_box" s__law_box ["_law_script", "_law_k"]) (C : Cs__law_box P w K mg base) : CallOk P w K mg base "_law_box" 1 2 F__law_box :=
  let ⟨_, _, F, m, b⟩ := T; ⟨_, _, _, fn__law_box hkl Z B C F, m, F.kp, b⟩
theorem sc__law_take : FnScope N__law_take ["_law_tub", "_law_under"] (defScope s__law_take) := ⟨rfl, rfl, rfl, by decide +kernel, rfl, by decide +kernel, by decide +kernel⟩
structure Cs__law_take (P : Program) (w : World) (K : PySem.W.Frag) (mg : Str → Option Value) (base : Heap) : Prop where
  mk ::
theorem fn__law_take (hkl : KLOk K) (Z : Exs K mg) (B : Blt mg) (C : Cs__law_take P w K mg base) {f0 : Addr} {fd : FuncData} (F : Fun K "_law_take" "_law_take" s__law_take f0 fd) : FnOk P w K mg base CX0 1 f0 fd ["_law_tub", "_law_under"] (sp0 2 F__law_take) :=
  def_ok (k := 0) F sc__law_take (fun cdv A outer s H E hr => by
      have hu := Room.hu hr
      have nd := sc__law_take.nd
      exact (pssi_cons (psi_if (pti_gt (pei_ix hu (pei_var 0) pei_int) pei_int) (pssi_cons (psi_set 2 nd (pei_mod (pei_intc B.int (pai_cons (pei_ix hu (pei_var 0) pei_int) pai_nil)) (pei_var 1)))
        (pssi_cons (psi_asg (pei_div (pei_ix hu (pei_var 0) pei_int) (pei_var 1)) (pgi_sub hu (pei_var 0) pei_int))
        (pssi_one (psi_ret (pei_var 2))))) pssi_nil)
        (pssi_cons (psi_asg (pei_add (pei_ix hu (pei_var 0) pei_int) pei_int) (pgi_sub hu (pei_var 0) pei_int))
        (pssi_cons (psi_set 3 nd (pei_mod (pei_intc B.int (pai_cons (pei_mul (pei_add (pei_ix hu (pei_var 0) pei_int) (pei_mul pei_int (pei_ix hu (pei_var 0) pei_int))) (pei_add pei_int (pei_ix hu (pei_var 0) pei_int))) pai_nil)) pei_int))
        (pssi_cons (psi_set 4 nd (pei_add (pei_mod (pei_intc B.int (pai_cons (pei_var 3) pai_nil)) pei_int) pei_int))
        (pssi_cons (psi_set 5 nd (pei_mod (pei_intc B.int (pai_cons (pei_mul (pei_add (pei_add (pei_var 3) (pei_ix hu (pei_var 0) pei_int)) (pei_div (pei_ix hu (pei_var 0) pei_int) pei_int)) (pei_var 4)) pai_nil)) pei_int))
        (pssi_one (psi_ret (pei_mod (pei_intc B.int (pai_cons (pei_div (pei_mod (pei_intc B.int (pai_cons (pei_add (pei_mul (pei_var 5) pei_int) (pei_var 3)) pai_nil)) pei_int) pei_int) pai_nil)) (pei_var 1))))))))))
theorem ok__law_take (hkl : KLOk K) (Z : Exs K mg) (B : Blt mg) (T : TopFn K mg "_law_take" s__law_take ["_law_tub", "_law_under"]) (C : Cs__law_take P w K mg base) : CallOk P w K mg base "_law_take" 1 2 F__law_take :=
  let ⟨_, _, F, m, b⟩ := T; ⟨_, _, _, fn__law_take hkl Z B C F, m, F.kp, b⟩
theorem sc__law_cells : FnScope N__law_cells ["_law_script", "_law_top"] (defScope s__law_cells) := ⟨rfl, rfl, rfl, by decide +kernel, rfl, by decide +kernel, by decide +kernel⟩
structure Cs__law_cells (P : Program) (w : World) (K : PySem.W.Frag) (mg : Str → Option Value) (base : Heap) : Prop where
  mk ::
theorem fn__law_cells (hkl : KLOk K) (Z : Exs K mg) (B : Blt mg) (C : Cs__law_cells P w K mg base) {f0 : Addr} {fd : FuncData} (F : Fun K "_law_cells" "_law_cells" s__law_cells f0 fd) : FnOk P w K mg base CX0 1 f0 fd ["_law_script", "_law_top"] (sp0 2 F__law_cells) :=
  def_ok (k := 0) F sc__law_cells (fun cdv A outer s H E hr => by
      have hu := Room.hu hr
      have nd := sc__law_cells.nd
      exact (pssi_cons (psi_set 2 nd (pei_or (pei_list rfl B.list (pai_cons (pei_sl hkl.l (pei_var 0) poi_none (poi_some (pei_var 1))) pai_nil)) (pei_one (pei_lst (pai_cons pei_int pai_nil)))))
        (pssi_cons (psi_for LN PassesOwn.never rfl (pii_enum B.enumerate (pai_cons (pei_sl hkl.l (pei_var 0) (poi_some (pei_var 1)) (poi_some pei_int)) pai_nil)) (pgi_un 2 rfl (pgsi_cons (pgi_name 3 nd) (pgsi_cons (pgi_name 4 nd) pgsi_nil))) (pssi_cons (psi_set 5 nd (pei_mod (pei_intc B.int (pai_cons (pei_var 3) pai_nil)) (pei_var 1)))
        (pssi_one (psi_asg (pei_add (pei_ix hu (pei_var 2) (pei_var 5)) (pei_mul (pei_var 4) (pei_add (pei_var 3) pei_int))) (pgi_sub hu (pei_var 2) (pei_var 5))))))
        (pssi_one (psi_ret (pei_var 2))))))
theorem ok__law_cells (hkl : KLOk K) (Z : Exs K mg) (B : Blt mg) (T : TopFn K mg "_law_cells" s__law_cells ["_law_script", "_law_top"]) (C : Cs__law_cells P w K mg base) : CallOk P w K mg base "_law_cells" 1 2 F__law_cells :=
  let ⟨_, _, F, m, b⟩ := T; ⟨_, _, _, fn__law_cells hkl Z B C F, m, F.kp, b⟩
theorem sc__law_of : FnScope N__law_of ["_law_tub", "_law_few_so"] (defScope s__law_of) := ⟨rfl, rfl, rfl, by decide +kernel, rfl, by decide +kernel, by decide +kernel⟩
structure Cs__law_of (P : Program) (w : World) (K : PySem.W.Frag) (mg : Str → Option Value) (base : Heap) : Prop where
  mk ::
  _law_take : CallOk P w K mg base "_law_take" 1 2 F__law_take
theorem fn__law_of (hkl : KLOk K) (Z : Exs K mg) (B : Blt mg) (C : Cs__law_of P w K mg base) {f0 : Addr} {fd : FuncData} (F : Fun K "_law_of" "_law_of" s__law_of f0 fd) : FnOk P w K mg base CX0 2 f0 fd ["_law_tub", "_law_few_so"] (sp0 2 F__law_of) :=
  def_ok (k := 1) F sc__law_of (fun cdv A outer s H E hr => by
      have hu := Room.hu hr
      have nd := sc__law_of.nd
      exact (pssi_one (psi_ret (pei_ix hu (pei_var 1) (pei_callC C._law_take (hr.mono (by decide)) (pai_cons (pei_var 0) (pai_cons (pei_len B.len (pai_cons (pei_var 1) pai_nil)) pai_nil)))))))
theorem ok__law_of (hkl : KLOk K) (Z : Exs K mg) (B : Blt mg) (T : TopFn K mg "_law_of" s__law_of ["_law_tub", "_law_few_so"]) (C : Cs__law_of P w K mg base) : CallOk P w K mg base "_law_of" 2 2 F__law_of :=
  let ⟨_, _, F, m, b⟩ := T; ⟨_, _, _, fn__law_of hkl Z B C F, m, F.kp, b⟩
theorem sc__law_pick : FnScope N__law_pick ["_law_tub", "_law_few_so", "_law_much_so"] (defScope s__law_pick) := ⟨rfl, rfl, rfl, by decide +kernel, rfl, by decide +kernel, by decide +kernel⟩
structure Cs__law_pick (P : Program) (w : World) (K : PySem.W.Frag) (mg : Str → Option Value) (base : Heap) : Prop where
  mk ::
  _law_take : CallOk P w K mg base "_law_take" 1 2 F__law_take
theorem fn__law_pick (hkl : KLOk K) (Z : Exs K mg) (B : Blt mg) (C : Cs__law_pick P w K mg base) {f0 : Addr} {fd : FuncData} (F : Fun K "_law_pick" "_law_pick" s__law_pick f0 fd) : FnOk P w K mg base CX0 2 f0 fd ["_law_tub", "_law_few_so", "_law_much_so"] (sp0 3 F__law_pick) :=
  def_ok (k := 1) F sc__law_pick (fun cdv A outer s H E hr => by
      have hu := Room.hu hr
      have nd := sc__law_pick.nd
      exact (pssi_cons (psi_par 3 4 rfl nd (pai_cons (pei_list rfl B.list (pai_cons (pei_var 1) pai_nil)) (pai_cons (pei_lst pai_nil) pai_nil)))
        (pssi_cons (psi_for LN PassesOwn.never rfl (pii_range1 B.range (pai_cons (pei_min2 rfl B.min (pai_cons (pei_var 2) (pai_cons (pei_len B.len (pai_cons (pei_var 3) pai_nil)) pai_nil))) pai_nil)) (pgi_name 5 nd) (pssi_one (psi_expr (pei_append (pei_var 4) (pai_cons (pei_popAt (pei_var 3) (pai_cons (pei_callC C._law_take (hr.mono (by decide)) (pai_cons (pei_var 0) (pai_cons (pei_len B.len (pai_cons (pei_var 3) pai_nil)) pai_nil))) pai_nil)) pai_nil)))))
        (pssi_one (psi_ret (pei_var 4))))))
theorem ok__law_pick (hkl : KLOk K) (Z : Exs K mg) (B : Blt mg) (T : TopFn K mg "_law_pick" s__law_pick ["_law_tub", "_law_few_so", "_law_much_so"]) (C : Cs__law_pick P w K mg base) : CallOk P w K mg base "_law_pick" 2 3 F__law_pick :=
  let ⟨_, _, F, m, b⟩ := T; ⟨_, _, _, fn__law_pick hkl Z B C F, m, F.kp, b⟩
theorem sc__law_same : FnScope N__law_same ["_law_got", "_law_due"] (defScope s__law_same) := ⟨rfl, rfl, rfl, by decide +kernel, rfl, by decide +kernel, by decide +kernel⟩
structure Cs__law_same (P : Program) (w : World) (K : PySem.W.Frag) (mg : Str → Option Value) (base : Heap) : Prop where
  mk ::
theorem ok__law_same (hkl : KLOk K) (Z : Exs K mg) (B : Blt mg) (T : TopFn K mg "_law_same" s__law_same ["_law_got", "_law_due"]) (C : Cs__law_same P w K mg base) : ∀ k, CallOk P w K mg base "_law_same" (k + 1) 2 (F__law_same k)
  | 0 => top_stuck _ T
  | k + 1 => by
    have CG := ok__law_same hkl Z B T C k
    exact top_ok (k := k + 1) T sc__law_same (fun f cdv A outer s H E hr => by
      have hu := Room.hu hr
      have nd := sc__law_same.nd
      exact (pssi_cons (psi_if (pti_tru (pei_isi2 .lst .tup B.isinstance (ty_lst B.list) (ty_tup B.tuple) (pei_var 1))) (pssi_cons (psi_if (pti_ne hu (pei_isi1 .lst B.isinstance (ty_lst B.list) (pei_var 0)) (pei_isi1 .lst B.isinstance (ty_lst B.list) (pei_var 1))) (pssi_one (psi_ret pei_bl)) pssi_nil)
        (pssi_cons (psi_if (pti_ne hu (pei_isi1 .tup B.isinstance (ty_tup B.tuple) (pei_var 0)) (pei_isi1 .tup B.isinstance (ty_tup B.tuple) (pei_var 1))) (pssi_one (psi_ret pei_bl)) pssi_nil)
        (pssi_one (psi_ret (pei_and (pei_eq hu (pei_len B.len (pai_cons (pei_var 0) pai_nil)) (pei_len B.len (pai_cons (pei_var 1) pai_nil))) (pei_one (pei_all rfl B.all (pai_cons (pei_lc LN (p := (.t [4, 3])) [("_law_mine", 4), ("_law_its", 3)] rfl nd (pii_zip B.zip (pai_cons (pei_var 0) (pai_cons (pei_var 1) pai_nil))) (by show blkC N__law_same (defScope s__law_same) _ _ = true; decide +kernel) (fun _ _ _ _ _ => (pg_tup rfl (pgs_cons (pg_name (i := 4) nd rfl (by first | exact Or.inl rfl | exact Or.inr rfl)) (pgs_cons (pg_name (i := 3) nd rfl (by first | exact Or.inl rfl | exact Or.inr rfl)) pgs_nil)))) (fun _ _ _ _ _ => ptsi_nil) (fun _ _ _ _ _ => (pei_callC CG hr (pai_cons (pei_var 4) (pai_cons (pei_var 3) pai_nil))))) pai_nil)))))))) pssi_nil)
        (pssi_cons (psi_if (PWI.pt (pwi_or (pti_isN (pei_var 1)) (pwi_or1 (pti_tru (pei_isi2 .bl .str B.isinstance (ty_bl B.bool) (ty_str B.str) (pei_var 1)))))) (pssi_cons (psi_set 2 nd (pei_and (pei_eq hu (pei_isi1 .bl B.isinstance (ty_bl B.bool) (pei_var 0)) (pei_isi1 .bl B.isinstance (ty_bl B.bool) (pei_var 1))) (pei_one (pei_eq hu (pei_isN (pei_var 0)) (pei_isN (pei_var 1))))))
        (pssi_one (psi_ret (pei_and (pei_var 2) (pei_one (pei_eq hu (pei_var 0) (pei_var 1))))))) pssi_nil)
        (pssi_one (psi_ret (pei_and (pei_isi1 .int B.isinstance (ty_int B.int) (pei_var 0)) (pei_and (pei_notV (pei_isi1 .bl B.isinstance (ty_bl B.bool) (pei_var 0))) (pei_one (pei_eq hu (pei_var 0) (pei_var 1))))))))))
theorem sc__law_lists : FnScope N__law_lists ["_law_matter"] (defScope s__law_lists) := ⟨rfl, rfl, rfl, by decide +kernel, rfl, by decide +kernel, by decide +kernel⟩
structure Cs__law_lists (P : Program) (w : World) (K : PySem.W.Frag) (mg : Str → Option Value) (base : Heap) : Prop where
  mk ::
theorem ok__law_lists (hkl : KLOk K) (Z : Exs K mg) (B : Blt mg) (T : TopFn K mg "_law_lists" s__law_lists ["_law_matter"]) (C : Cs__law_lists P w K mg base) : ∀ k, CallOk P w K mg base "_law_lists" (k + 1) 1 (F__law_lists k)
  | 0 => top_stuck _ T
  | k + 1 => by
    have CG := ok__law_lists hkl Z B T C k
    exact top_ok (k := k + 1) T sc__law_lists (fun f cdv A outer s H E hr => by
      have hu := Room.hu hr
      have nd := sc__law_lists.nd
      exact (pssi_one (psi_ret (pei_ifE (pti_tru (pei_isi2 .lst .tup B.isinstance (ty_lst B.list) (ty_tup B.tuple) (pei_var 0))) (pei_lc LN (p := (.n 1)) [("_law_bit", 1)] rfl nd (pii_seq (pei_var 0)) (by show blkC N__law_lists (defScope s__law_lists) _ _ = true; decide +kernel) (fun _ _ _ _ _ => (pg_name (i := 1) nd rfl (by first | exact Or.inl rfl | exact Or.inr rfl))) (fun _ _ _ _ _ => ptsi_nil) (fun _ _ _ _ _ => (pei_callC CG hr (pai_cons (pei_var 1) pai_nil)))) (pei_var 0)))))
theorem sc__law_block : FnScope N__law_block ["_law_tub", "_law_many_so"] (defScope s__law_block) := ⟨rfl, rfl, rfl, by decide +kernel, rfl, by decide +kernel, by decide +kernel⟩
structure Cs__law_block (P : Program) (w : World) (K : PySem.W.Frag) (mg : Str → Option Value) (base : Heap) : Prop where
  mk ::
  _law_take : CallOk P w K mg base "_law_take" 1 2 F__law_take
  _law_of : CallOk P w K mg base "_law_of" 2 2 F__law_of
  _law_pick : CallOk P w K mg base "_law_pick" 2 3 F__law_pick
theorem fn__law_block (hkl : KLOk K) (Z : Exs K mg) (B : Blt mg) (C : Cs__law_block P w K mg base) {f0 : Addr} {fd : FuncData} (F : Fun K "_law_block" "_law_block" s__law_block f0 fd) : FnOk P w K mg base CX0 3 f0 fd ["_law_tub", "_law_many_so"] (sp0 2 F__law_block) :=
  def_ok (k := 2) F sc__law_block (fun cdv A outer s H E hr => by
      have hu := Room.hu hr
      have nd := sc__law_block.nd
      exact (pssi_cons (psi_set 2 nd (pei_lst (pai_cons pei_str (pai_cons pei_str (pai_cons pei_str (pai_cons pei_str (pai_cons pei_str (pai_cons pei_str (pai_cons pei_str (pai_cons pei_str (pai_cons pei_str (pai_cons pei_str pai_nil))))))))))))
        (pssi_cons (psi_par 3 4 rfl nd (pai_cons (pei_callC C._law_pick (hr.mono (by decide)) (pai_cons (pei_var 0) (pai_cons (pei_var 2) (pai_cons (pei_var 1) pai_nil)))) (pai_cons (pei_lst pai_nil) pai_nil)))
        (pssi_cons (psi_for LN PassesOwn.never rfl (pii_enum B.enumerate (pai_cons (pei_var 3) pai_nil)) (pgi_un 2 rfl (pgsi_cons (pgi_name 5 nd) (pgsi_cons (pgi_name 6 nd) pgsi_nil))) (pssi_cons (psi_set 7 nd (pei_callC C._law_pick (hr.mono (by decide)) (pai_cons (pei_var 0) (pai_cons (pei_sl hkl.l (pei_var 3) poi_none (poi_some (pei_var 5))) (pai_cons (pei_callC C._law_of (hr.mono (by decide)) (pai_cons (pei_var 0) (pai_cons (pei_lst (pai_cons pei_int (pai_cons pei_int (pai_cons pei_int (pai_cons pei_int (pai_cons pei_int pai_nil)))))) pai_nil))) pai_nil)))))
        (pssi_one (psi_expr (pei_append (pei_var 4) (pai_cons (pei_tup (pai_cons (pei_var 6) (pai_cons (pei_tuple B.tuple (pai_cons (pei_sorted hu B.sorted (pai_cons (pei_var 7) pai_nil)) pai_nil)) (pai_cons (pei_lt (pei_callC C._law_take (hr.mono (by decide)) (pai_cons (pei_var 0) (pai_cons pei_int pai_nil))) pei_int) pai_nil)))) pai_nil))))))
        (pssi_cons (psi_set 8 nd (pei_tuple B.tuple (pai_cons (pei_sorted hu B.sorted (pai_cons (pei_lc LN (p := (.n 6)) [("_law_tag", 6)] rfl nd (pii_seq (pei_var 3)) (by show blkC N__law_block (defScope s__law_block) _ _ = true; decide +kernel) (fun _ _ _ _ _ => (pg_name (i := 6) nd rfl (by first | exact Or.inl rfl | exact Or.inr rfl))) (fun _ _ _ _ _ => (ptsi_one (pti_eq hu (pei_callC C._law_take (hr.mono (by decide)) (pai_cons (pei_var 0) (pai_cons pei_int pai_nil))) pei_int))) (fun _ _ _ _ _ => (pei_var 6))) pai_nil)) pai_nil)))
        (pssi_one (psi_ret (pei_tup (pai_cons (pei_tuple B.tuple (pai_cons (pei_sorted hu B.sorted (pai_cons (pei_var 4) pai_nil)) pai_nil)) (pai_cons (pei_var 8) pai_nil))))))))))
theorem ok__law_block (hkl : KLOk K) (Z : Exs K mg) (B : Blt mg) (T : TopFn K mg "_law_block" s__law_block ["_law_tub", "_law_many_so"]) (C : Cs__law_block P w K mg base) : CallOk P w K mg base "_law_block" 3 2 F__law_block :=
  let ⟨_, _, F, m, b⟩ := T; ⟨_, _, _, fn__law_block hkl Z B C F, m, F.kp, b⟩
theorem sc__law_inside : FnScope N__law_inside ["_law_some_so", "_law_lot_so"] (defScope s__law_inside) := ⟨rfl, rfl, rfl, by decide +kernel, rfl, by decide +kernel, by decide +kernel⟩
structure Cs__law_inside (P : Program) (w : World) (K : PySem.W.Frag) (mg : Str → Option Value) (base : Heap) : Prop where
  mk ::
theorem fn__law_inside (hkl : KLOk K) (Z : Exs K mg) (B : Blt mg) (C : Cs__law_inside P w K mg base) {f0 : Addr} {fd : FuncData} (F : Fun K "_law_inside" "_law_inside" s__law_inside f0 fd) : FnOk P w K mg base CX0 1 f0 fd ["_law_some_so", "_law_lot_so"] (sp0 2 F__law_inside) :=
  def_ok (k := 0) F sc__law_inside (fun cdv A outer s H E hr => by
      have hu := Room.hu hr
      have nd := sc__law_inside.nd
      exact (pssi_one (psi_ret (pei_eq hu (pei_lc LN (p := (.n 2)) [("_law_tag", 2)] rfl nd (pii_seq (pei_var 0)) (by show blkC N__law_inside (defScope s__law_inside) _ _ = true; decide +kernel) (fun _ _ _ _ _ => (pg_name (i := 2) nd rfl (by first | exact Or.inl rfl | exact Or.inr rfl))) (fun _ _ _ _ _ => (ptsi_one (pti_nin hu (pei_var 2) (pei_var 1)))) (fun _ _ _ _ _ => (pei_var 2))) (pei_lst pai_nil)))))
theorem ok__law_inside (hkl : KLOk K) (Z : Exs K mg) (B : Blt mg) (T : TopFn K mg "_law_inside" s__law_inside ["_law_some_so", "_law_lot_so"]) (C : Cs__law_inside P w K mg base) : CallOk P w K mg base "_law_inside" 1 2 F__law_inside :=
  let ⟨_, _, F, m, b⟩ := T; ⟨_, _, _, fn__law_inside hkl Z B C F, m, F.kp, b⟩
theorem sc__law_order : FnScope N__law_order ["_law_tub", "_law_block_so"] (defScope s__law_order) := ⟨rfl, rfl, rfl, by decide +kernel, rfl, by decide +kernel, by decide +kernel⟩
structure Cs__law_order (P : Program) (w : World) (K : PySem.W.Frag) (mg : Str → Option Value) (base : Heap) : Prop where
  mk ::
  _law_of : CallOk P w K mg base "_law_of" 2 2 F__law_of
  _law_inside : CallOk P w K mg base "_law_inside" 1 2 F__law_inside
theorem fn__law_order (hkl : KLOk K) (Z : Exs K mg) (B : Blt mg) (C : Cs__law_order P w K mg base) {f0 : Addr} {fd : FuncData} (F : Fun K "_law_order" "_law_order" s__law_order f0 fd) : FnOk P w K mg base CX0 3 f0 fd ["_law_tub", "_law_block_so"] (sp0 2 F__law_order) :=
  def_ok (k := 2) F sc__law_order (fun cdv A outer s H E hr => by
      have hu := Room.hu hr
      have nd := sc__law_order.nd
      exact (pssi_cons (psi_set 2 nd (pei_tup pai_nil))
        (pssi_cons (psi_for LN PassesOwn.never rfl (pii_range1 B.range (pai_cons (pei_len B.len (pai_cons (pei_ix hu (pei_var 1) pei_int) pai_nil)) pai_nil)) (pgi_name 3 nd) (pssi_cons (psi_setLc LN 4 (p := (.n 5)) [("_law_own", 5)] rfl nd (pii_seq (pei_ix hu (pei_var 1) pei_int)) (by show blkC N__law_order (defScope s__law_order) _ _ = true; decide +kernel) (fun _ _ _ _ _ => (pg_name (i := 5) nd rfl (by first | exact Or.inl rfl | exact Or.inr rfl))) (fun _ _ _ _ _ => (ptsi_one (PWI.pt (pwi_and (pti_nin hu (pei_ix hu (pei_var 5) pei_int) (pei_var 2)) (pwi_and1 (pti_tru (pei_callC C._law_inside (hr.mono (by decide)) (pai_cons (pei_ix hu (pei_var 5) pei_int) (pai_cons (pei_var 2) pai_nil))))))))) (fun _ _ _ _ _ => (pei_ix hu (pei_var 5) pei_int)) (sw_true rfl rfl rfl (by decide +kernel)))
        (pssi_one (psi_set 2 nd (pei_add (pei_var 2) (pei_tup (pai_cons (pei_callC C._law_of (hr.mono (by decide)) (pai_cons (pei_var 0) (pai_cons (pei_var 4) pai_nil))) pai_nil)))))))
        (pssi_one (psi_ret (pei_var 2))))))
theorem ok__law_order (hkl : KLOk K) (Z : Exs K mg) (B : Blt mg) (T : TopFn K mg "_law_order" s__law_order ["_law_tub", "_law_block_so"]) (C : Cs__law_order P w K mg base) : CallOk P w K mg base "_law_order" 3 2 F__law_order :=
  let ⟨_, _, F, m, b⟩ := T; ⟨_, _, _, fn__law_order hkl Z B C F, m, F.kp, b⟩
theorem sc__law_end : FnScope N__law_end ["_law_block_so", "_law_line_so", "_law_lasts_so"] (defScope s__law_end) := ⟨rfl, rfl, rfl, by decide +kernel, rfl, by decide +kernel, by decide +kernel⟩
structure Cs__law_end (P : Program) (w : World) (K : PySem.W.Frag) (mg : Str → Option Value) (base : Heap) : Prop where
  mk ::
theorem fn__law_end (hkl : KLOk K) (Z : Exs K mg) (B : Blt mg) (C : Cs__law_end P w K mg base) {f0 : Addr} {fd : FuncData} (F : Fun K "_law_end" "_law_end" s__law_end f0 fd) : FnOk P w K mg base CX0 1 f0 fd ["_law_block_so", "_law_line_so", "_law_lasts_so"] (sp0 3 F__law_end) :=
  def_ok (k := 0) F sc__law_end (fun cdv A outer s H E hr => by
      have hu := Room.hu hr
      have nd := sc__law_end.nd
      exact (pssi_cons (psi_asg (pei_tup (pai_cons (pei_dict rfl B.dict (pai_cons (pei_lc LN (p := (.n 7)) [("_law_own", 7)] rfl nd (pii_seq (pei_ix hu (pei_var 0) pei_int)) (by show blkC N__law_end (defScope s__law_end) _ _ = true; decide +kernel) (fun _ _ _ _ _ => (pg_name (i := 7) nd rfl (by first | exact Or.inl rfl | exact Or.inr rfl))) (fun _ _ _ _ _ => ptsi_nil) (fun _ _ _ _ _ => (pei_sl hkl.l (pei_var 7) poi_none (poi_some pei_int)))) pai_nil)) (pai_cons pei_dnew (pai_cons (pei_neg pei_int) pai_nil)))) (pgi_un 3 rfl (pgsi_cons (pgi_name 3 nd) (pgsi_cons (pgi_name 4 nd) (pgsi_cons (pgi_name 5 nd) pgsi_nil)))))
        (pssi_cons (psi_for LN PassesOwn.never rfl (pii_seq (pei_var 1)) (pgi_name 6 nd) (pssi_cons (psi_set 5 nd (pei_max1 rfl B.max (pai_cons (pei_add (pei_lst (pai_cons (pei_add (pei_var 5) pei_int) pai_nil)) (pei_lc LN (p := (.n 7)) [("_law_own", 7)] rfl nd (pii_seq (pei_ix hu (pei_var 3) (pei_var 6))) (by show blkC N__law_end (defScope s__law_end) _ _ = true; decide +kernel) (fun _ _ _ _ _ => (pg_name (i := 7) nd rfl (by first | exact Or.inl rfl | exact Or.inr rfl))) (fun _ _ _ _ _ => ptsi_nil) (fun _ _ _ _ _ => (pei_ix hu (pei_var 4) (pei_var 7))))) pai_nil)))
        (pssi_one (psi_asg (pei_add (pei_var 5) (pei_get hu (pei_var 2) (pei_var 6) pei_int)) (pgi_sub hu (pei_var 4) (pei_var 6))))))
        (pssi_one (psi_ret (pei_max1 rfl B.max (pai_cons (pei_add (pei_lst (pai_cons (pei_add (pei_var 5) pei_int) pai_nil)) (pei_lc LN (p := (.n 6)) [("_law_tag", 6)] rfl nd (pii_seq (pei_ix hu (pei_var 0) pei_int)) (by show blkC N__law_end (defScope s__law_end) _ _ = true; decide +kernel) (fun _ _ _ _ _ => (pg_name (i := 6) nd rfl (by first | exact Or.inl rfl | exact Or.inr rfl))) (fun _ _ _ _ _ => ptsi_nil) (fun _ _ _ _ _ => (pei_ix hu (pei_var 4) (pei_var 6))))) pai_nil)))))))
theorem ok__law_end (hkl : KLOk K) (Z : Exs K mg) (B : Blt mg) (T : TopFn K mg "_law_end" s__law_end ["_law_block_so", "_law_line_so", "_law_lasts_so"]) (C : Cs__law_end P w K mg base) : CallOk P w K mg base "_law_end" 1 3 F__law_end :=
  let ⟨_, _, F, m, b⟩ := T; ⟨_, _, _, fn__law_end hkl Z B C F, m, F.kp, b⟩
theorem sc__law_slow : FnScope N__law_slow ["_law_block_so"] (defScope s__law_slow) := ⟨rfl, rfl, rfl, by decide +kernel, rfl, by decide +kernel, by decide +kernel⟩
structure Cs__law_slow (P : Program) (w : World) (K : PySem.W.Frag) (mg : Str → Option Value) (base : Heap) : Prop where
  mk ::
theorem fn__law_slow (hkl : KLOk K) (Z : Exs K mg) (B : Blt mg) (C : Cs__law_slow P w K mg base) {f0 : Addr} {fd : FuncData} (F : Fun K "_law_slow" "_law_slow" s__law_slow f0 fd) : FnOk P w K mg base CX0 1 f0 fd ["_law_block_so"] (sp0 1 F__law_slow) :=
  def_ok (k := 0) F sc__law_slow (fun cdv A outer s H E hr => by
      have hu := Room.hu hr
      have nd := sc__law_slow.nd
      exact (pssi_one (psi_ret (pei_tuple B.tuple (pai_cons (pei_lc LN (p := (.n 1)) [("_law_own", 1)] rfl nd (pii_seq (pei_ix hu (pei_var 0) pei_int)) (by show blkC N__law_slow (defScope s__law_slow) _ _ = true; decide +kernel) (fun _ _ _ _ _ => (pg_name (i := 1) nd rfl (by first | exact Or.inl rfl | exact Or.inr rfl))) (fun _ _ _ _ _ => (ptsi_one (pti_tru (pei_ix hu (pei_var 1) pei_int)))) (fun _ _ _ _ _ => (pei_ix hu (pei_var 1) pei_int))) pai_nil)))))
theorem ok__law_slow (hkl : KLOk K) (Z : Exs K mg) (B : Blt mg) (T : TopFn K mg "_law_slow" s__law_slow ["_law_block_so"]) (C : Cs__law_slow P w K mg base) : CallOk P w K mg base "_law_slow" 1 1 F__law_slow :=
  let ⟨_, _, F, m, b⟩ := T; ⟨_, _, _, fn__law_slow hkl Z B C F, m, F.kp, b⟩
theorem sc__law_sets : FnScope N__law_sets ["_law_tags"] (defScope s__law_sets) := ⟨rfl, rfl, rfl, by decide +kernel, rfl, by decide +kernel, by decide +kernel⟩
structure Cs__law_sets (P : Program) (w : World) (K : PySem.W.Frag) (mg : Str → Option Value) (base : Heap) : Prop where
  mk ::
theorem fn__law_sets (hkl : KLOk K) (Z : Exs K mg) (B : Blt mg) (C : Cs__law_sets P w K mg base) {f0 : Addr} {fd : FuncData} (F : Fun K "_law_sets" "_law_sets" s__law_sets f0 fd) : FnOk P w K mg base CX0 1 f0 fd ["_law_tags"] (sp0 1 F__law_sets) :=
  def_ok (k := 0) F sc__law_sets (fun cdv A outer s H E hr => by
      have hu := Room.hu hr
      have nd := sc__law_sets.nd
      exact (pssi_cons (psi_set 1 nd (pei_lst (pai_cons (pei_tup pai_nil) pai_nil)))
        (pssi_cons (psi_for LN PassesOwn.never rfl (pii_seq (pei_var 0)) (pgi_name 2 nd) (pssi_one (psi_set 1 nd (pei_add (pei_var 1) (pei_lc LN (p := (.n 3)) [("_law_own", 3)] rfl nd (pii_seq (pei_var 1)) (by show blkC N__law_sets (defScope s__law_sets) _ _ = true; decide +kernel) (fun _ _ _ _ _ => (pg_name (i := 3) nd rfl (by first | exact Or.inl rfl | exact Or.inr rfl))) (fun _ _ _ _ _ => ptsi_nil) (fun _ _ _ _ _ => (pei_add (pei_var 3) (pei_tup (pai_cons (pei_var 2) pai_nil)))))))))
        (pssi_one (psi_ret (pei_sortE hu B.sorted (pai_cons (pei_var 1) pai_nil)))))))
theorem ok__law_sets (hkl : KLOk K) (Z : Exs K mg) (B : Blt mg) (T : TopFn K mg "_law_sets" s__law_sets ["_law_tags"]) (C : Cs__law_sets P w K mg base) : CallOk P w K mg base "_law_sets" 1 1 F__law_sets :=
  let ⟨_, _, F, m, b⟩ := T; ⟨_, _, _, fn__law_sets hkl Z B C F, m, F.kp, b⟩
theorem sc__law_lasts : FnScope N__law_lasts ["_law_tub", "_law_block_so", "_law_most_so"] (defScope s__law_lasts) := ⟨rfl, rfl, rfl, by decide +kernel, rfl, by decide +kernel, by decide +kernel⟩
structure Cs__law_lasts (P : Program) (w : World) (K : PySem.W.Frag) (mg : Str → Option Value) (base : Heap) : Prop where
  mk ::
  _law_take : CallOk P w K mg base "_law_take" 1 2 F__law_take
  _law_slow : CallOk P w K mg base "_law_slow" 1 1 F__law_slow
theorem fn__law_lasts (hkl : KLOk K) (Z : Exs K mg) (B : Blt mg) (C : Cs__law_lasts P w K mg base) {f0 : Addr} {fd : FuncData} (F : Fun K "_law_lasts" "_law_lasts" s__law_lasts f0 fd) : FnOk P w K mg base CX0 2 f0 fd ["_law_tub", "_law_block_so", "_law_most_so"] (sp0 3 F__law_lasts) :=
  def_ok (k := 1) F sc__law_lasts (fun cdv A outer s H E hr => by
      have hu := Room.hu hr
      have nd := sc__law_lasts.nd
      exact (pssi_one (psi_ret (pei_tuple B.tuple (pai_cons (pei_lc LN (p := (.n 3)) [("_law_tag", 3)] rfl nd (pii_seq (pei_callC C._law_slow (hr.mono (by decide)) (pai_cons (pei_var 1) pai_nil))) (by show blkC N__law_lasts (defScope s__law_lasts) _ _ = true; decide +kernel) (fun _ _ _ _ _ => (pg_name (i := 3) nd rfl (by first | exact Or.inl rfl | exact Or.inr rfl))) (fun _ _ _ _ _ => ptsi_nil) (fun _ _ _ _ _ => (pei_tup (pai_cons (pei_var 3) (pai_cons (pei_add pei_int (pei_callC C._law_take (hr.mono (by decide)) (pai_cons (pei_var 0) (pai_cons (pei_var 2) pai_nil)))) pai_nil))))) pai_nil)))))
theorem ok__law_lasts (hkl : KLOk K) (Z : Exs K mg) (B : Blt mg) (T : TopFn K mg "_law_lasts" s__law_lasts ["_law_tub", "_law_block_so", "_law_most_so"]) (C : Cs__law_lasts P w K mg base) : CallOk P w K mg base "_law_lasts" 2 3 F__law_lasts :=
  let ⟨_, _, F, m, b⟩ := T; ⟨_, _, _, fn__law_lasts hkl Z B C F, m, F.kp, b⟩
theorem sc__law_kit : FnScope N__law_kit [] (defScope s__law_kit) := ⟨rfl, rfl, rfl, by decide +kernel, rfl, by decide +kernel, by decide +kernel⟩
structure Cs__law_kit (P : Program) (w : World) (K : PySem.W.Frag) (mg : Str → Option Value) (base : Heap) : Prop where
  mk ::
theorem fn__law_kit (hkl : KLOk K) (Z : Exs K mg) (B : Blt mg) (C : Cs__law_kit P w K mg base) {f0 : Addr} {fd : FuncData} (F : Fun K "_law_kit" "_law_kit" s__law_kit f0 fd) : FnOk P w K mg base CX0 1 f0 fd [] (sp0 0 F__law_kit) :=
  def_ok (k := 0) F sc__law_kit (fun cdv A outer s H E hr => by
      have hu := Room.hu hr
      have nd := sc__law_kit.nd
      exact (pssi_cons (psi_set 0 nd (pei_tup (pai_cons (pei_tup (pai_cons pei_str (pai_cons (pei_tup pai_nil) (pai_cons pei_bl pai_nil)))) (pai_cons (pei_tup (pai_cons pei_str (pai_cons (pei_tup pai_nil) (pai_cons pei_bl pai_nil)))) (pai_cons (pei_tup (pai_cons pei_str (pai_cons (pei_tup (pai_cons pei_str (pai_cons pei_str pai_nil))) (pai_cons pei_bl pai_nil)))) (pai_cons (pei_tup (pai_cons pei_str (pai_cons (pei_tup (pai_cons pei_str pai_nil)) (pai_cons pei_bl pai_nil)))) (pai_cons (pei_tup (pai_cons pei_str (pai_cons (pei_tup pai_nil) (pai_cons pei_bl pai_nil)))) pai_nil)))))))
        (pssi_one (psi_ret (pei_tup (pai_cons (pei_tup (pai_cons (pei_var 0) (pai_cons (pei_tup (pai_cons pei_str pai_nil)) pai_nil))) (pai_cons (pei_tupStr rfl B.tuple (pai_cons pei_str pai_nil)) (pai_cons (pei_tupStr rfl B.tuple (pai_cons pei_str pai_nil)) pai_nil))))))))
theorem ok__law_kit (hkl : KLOk K) (Z : Exs K mg) (B : Blt mg) (T : TopFn K mg "_law_kit" s__law_kit []) (C : Cs__law_kit P w K mg base) : CallOk P w K mg base "_law_kit" 1 0 F__law_kit :=
  let ⟨_, _, F, m, b⟩ := T; ⟨_, _, _, fn__law_kit hkl Z B C F, m, F.kp, b⟩
theorem sc__law_heard : FnScope N__law_heard ["_law_kit_here", "_law_line_so", "_law_lasts_so", "_law_tick_so"] (defScope s__law_heard) := ⟨rfl, rfl, rfl, by decide +kernel, rfl, by decide +kernel, by decide +kernel⟩
structure Cs__law_heard (P : Program) (w : World) (K : PySem.W.Frag) (mg : Str → Option Value) (base : Heap) : Prop where
  mk ::
  fewest_quick : CallOkX P w K mg base "fewest_quick" 21 4 F_fewest_quick
theorem fn__law_heard (hkl : KLOk K) (Z : Exs K mg) (B : Blt mg) (C : Cs__law_heard P w K mg base) {f0 : Addr} {fd : FuncData} (F : Fun K "_law_heard" "_law_heard" s__law_heard f0 fd) : FnOk P w K mg base CX0 22 f0 fd ["_law_kit_here", "_law_line_so", "_law_lasts_so", "_law_tick_so"] (sp0 4 F__law_heard) :=
  def_ok (k := 21) F sc__law_heard (fun cdv A outer s H E hr => by
      have hu := Room.hu hr
      have nd := sc__law_heard.nd
      exact (pssi_cons (psi_asg (pei_tup (pai_cons pei_non (pai_cons pei_non pai_nil))) (pgi_un 2 rfl (pgsi_cons (pgi_name 4 nd) (pgsi_cons (pgi_name 5 nd) pgsi_nil))))
        (pssi_cons (psi_try2E 5 6 4 Z.NoOrder nd B.isinstance B.ValueError (fun Wk pn xe tk => (peis_callX C.fewest_quick (hr.mono (by decide)) tk (fun W => (pai_cons (pei_var 0) (pai_cons (pei_var 1) (pai_cons (pei_var 2) (pai_cons (pei_var 3) pai_nil))))))))
        (pssi_one (psi_ret (pei_ifE (pti_isN (pei_var 4)) (pei_var 5) (pei_var 4)))))))
theorem ok__law_heard (hkl : KLOk K) (Z : Exs K mg) (B : Blt mg) (T : TopFn K mg "_law_heard" s__law_heard ["_law_kit_here", "_law_line_so", "_law_lasts_so", "_law_tick_so"]) (C : Cs__law_heard P w K mg base) : CallOk P w K mg base "_law_heard" 22 4 F__law_heard :=
  let ⟨_, _, F, m, b⟩ := T; ⟨_, _, _, fn__law_heard hkl Z B C F, m, F.kp, b⟩
theorem sc__law_by_hand_right : FnScope N__law_by_hand_right [] (defScope s__law_by_hand_right) := ⟨rfl, rfl, rfl, by decide +kernel, rfl, by decide +kernel, by decide +kernel⟩
structure Cs__law_by_hand_right (P : Program) (w : World) (K : PySem.W.Frag) (mg : Str → Option Value) (base : Heap) : Prop where
  mk ::
  fewest_quick : CallOkX P w K mg base "fewest_quick" 21 4 F_fewest_quick
  _law_same : CallOk P w K mg base "_law_same" 17 2 (F__law_same 16)
  _law_lists : CallOk P w K mg base "_law_lists" 17 1 (F__law_lists 16)
  _law_kit : CallOk P w K mg base "_law_kit" 1 0 F__law_kit
  _law_heard : CallOk P w K mg base "_law_heard" 22 4 F__law_heard
  fewest_quick__end_latencies_order_block : CallOkKX P w K mg base "fewest_quick" 21 4 F_fewest_quick ["end", "latencies", "order", "block"] [3, 2, 1, 0]
theorem fn__law_by_hand_right (hkl : KLOk K) (Z : Exs K mg) (B : Blt mg) (C : Cs__law_by_hand_right P w K mg base) {f0 : Addr} {fd : FuncData} (F : Fun K "_law_by_hand_right" "_law_by_hand_right" s__law_by_hand_right f0 fd) : FnOk P w K mg base CX0 23 f0 fd [] (sp0 0 F__law_by_hand_right) :=
  def_ok (k := 22) F sc__law_by_hand_right (fun cdv A outer s H E hr => by
      have hu := Room.hu hr
      have nd := sc__law_by_hand_right.nd
      exact (pssi_cons (psi_asg (pei_callC0 C._law_kit (hr.mono (by decide))) (pgi_un 3 rfl (pgsi_cons (pgi_name 0 nd) (pgsi_cons (pgi_name 1 nd) (pgsi_cons (pgi_name 2 nd) pgsi_nil)))))
        (pssi_cons (psi_asg (pei_tup (pai_cons (pei_tup (pai_cons (pei_tup (pai_cons pei_str (pai_cons pei_int pai_nil))) (pai_cons (pei_tup (pai_cons pei_str (pai_cons pei_int pai_nil))) (pai_cons (pei_tup (pai_cons pei_str (pai_cons pei_int pai_nil))) (pai_cons (pei_tup (pai_cons pei_str (pai_cons pei_int pai_nil))) pai_nil))))) (pai_cons (pei_pow pei_int pei_int) pai_nil))) (pgi_un 2 rfl (pgsi_cons (pgi_name 3 nd) (pgsi_cons (pgi_name 4 nd) pgsi_nil))))
        (pssi_cons (psi_set 5 nd (pei_lst (pai_cons (pei_lc LN (p := (.n 16)) [("_law_tick_so", 16)] rfl nd (pii_seq (pei_tup (pai_cons pei_int (pai_cons pei_int (pai_cons pei_int (pai_cons pei_int (pai_cons pei_int (pai_cons pei_int (pai_cons pei_int (pai_cons pei_int (pai_cons pei_int (pai_cons (pei_neg pei_int) pai_nil)))))))))))) (by show blkC N__law_by_hand_right (defScope s__law_by_hand_right) _ _ = true; decide +kernel) (fun _ _ _ _ _ => (pg_name (i := 16) nd rfl (by first | exact Or.inl rfl | exact Or.inr rfl))) (fun _ _ _ _ _ => ptsi_nil) (fun _ _ _ _ _ => (pei_callDX C.fewest_quick (hr.mono (by decide)) (pai_cons (pei_var 0) (pai_cons (pei_var 1) (pai_cons (pei_var 3) (pai_cons (pei_var 16) pai_nil))))))) pai_nil)))
        (pssi_cons (psi_set 6 nd (pei_lst (pai_cons (pei_lst (pai_cons (pei_tup pai_nil) (pai_cons (pei_tup pai_nil) (pai_cons (pei_tup (pai_cons pei_str pai_nil)) (pai_cons (pei_tup (pai_cons pei_str pai_nil)) (pai_cons (pei_tup (pai_cons pei_str pai_nil)) (pai_cons (pei_tup (pai_cons pei_str (pai_cons pei_str pai_nil))) (pai_cons (pei_tup (pai_cons pei_str (pai_cons pei_str pai_nil))) (pai_cons (pei_tup (pai_cons pei_str (pai_cons pei_str (pai_cons pei_str pai_nil)))) (pai_cons pei_non (pai_cons pei_non pai_nil))))))))))) pai_nil)))
        (pssi_cons (psi_set 5 nd (pei_add (pei_var 5) (pei_lst (pai_cons (pei_lc LN (p := (.n 16)) [("_law_tick_so", 16)] rfl nd (pii_seq (pei_tup (pai_cons pei_int (pai_cons pei_int (pai_cons pei_int (pai_cons pei_int (pai_cons pei_int pai_nil))))))) (by show blkC N__law_by_hand_right (defScope s__law_by_hand_right) _ _ = true; decide +kernel) (fun _ _ _ _ _ => (pg_name (i := 16) nd rfl (by first | exact Or.inl rfl | exact Or.inr rfl))) (fun _ _ _ _ _ => ptsi_nil) (fun _ _ _ _ _ => (pei_callDX C.fewest_quick (hr.mono (by decide)) (pai_cons (pei_var 0) (pai_cons (pei_var 2) (pai_cons (pei_var 3) (pai_cons (pei_var 16) pai_nil))))))) pai_nil))))
        (pssi_cons (psi_set 6 nd (pei_add (pei_var 6) (pei_lst (pai_cons (pei_lst (pai_cons (pei_tup pai_nil) (pai_cons (pei_tup (pai_cons pei_str pai_nil)) (pai_cons (pei_tup (pai_cons pei_str pai_nil)) (pai_cons (pei_tup (pai_cons pei_str (pai_cons pei_str pai_nil))) (pai_cons (pei_tup (pai_cons pei_str (pai_cons pei_str (pai_cons pei_str pai_nil)))) pai_nil)))))) pai_nil))))
        (pssi_cons (psi_set 7 nd (pei_tupStr rfl B.tuple (pai_cons pei_str pai_nil)))
        (pssi_cons (psi_set 8 nd (pei_tup (pai_cons (pei_tuple B.tuple (pai_cons (pei_lc LN (p := (.t [13, 15])) [("_law_k", 13), ("_law_tag", 15)] rfl nd (pii_enum B.enumerate (pai_cons (pei_var 7) pai_nil)) (by show blkC N__law_by_hand_right (defScope s__law_by_hand_right) _ _ = true; decide +kernel) (fun _ _ _ _ _ => (pg_tup rfl (pgs_cons (pg_name (i := 13) nd rfl (by first | exact Or.inl rfl | exact Or.inr rfl)) (pgs_cons (pg_name (i := 15) nd rfl (by first | exact Or.inl rfl | exact Or.inr rfl)) pgs_nil)))) (fun _ _ _ _ _ => ptsi_nil) (fun _ _ _ _ _ => (pei_tup (pai_cons (pei_var 15) (pai_cons (pei_tuple B.tuple (pai_cons (pei_sl hkl.l (pei_var 7) (poi_some (pei_max2 rfl B.max (pai_cons (pei_sub (pei_var 13) pei_int) (pai_cons pei_int pai_nil)))) (poi_some (pei_var 13))) pai_nil)) (pai_cons pei_bl pai_nil)))))) pai_nil)) (pai_cons (pei_tup (pai_cons pei_str pai_nil)) pai_nil))))
        (pssi_cons (psi_set 9 nd (pei_sub (pei_var 4) pei_int))
        (pssi_cons (psi_set 10 nd (pei_tuple B.tuple (pai_cons (pei_lc LN (p := (.n 15)) [("_law_tag", 15)] rfl nd (pii_seq (pei_var 7)) (by show blkC N__law_by_hand_right (defScope s__law_by_hand_right) _ _ = true; decide +kernel) (fun _ _ _ _ _ => (pg_name (i := 15) nd rfl (by first | exact Or.inl rfl | exact Or.inr rfl))) (fun _ _ _ _ _ => ptsi_nil) (fun _ _ _ _ _ => (pei_tup (pai_cons (pei_var 15) (pai_cons (pei_var 9) pai_nil))))) pai_nil)))
        (pssi_cons (psi_set 5 nd (pei_add (pei_var 5) (pei_lst (pai_cons (pei_lc LN (p := (.n 16)) [("_law_tick_so", 16)] rfl nd (pii_seq (pei_tup (pai_cons pei_int (pai_cons pei_int (pai_cons (pei_var 9) (pai_cons (pei_add (pei_var 9) pei_int) (pai_cons (pei_add (pei_var 9) pei_int) pai_nil))))))) (by show blkC N__law_by_hand_right (defScope s__law_by_hand_right) _ _ = true; decide +kernel) (fun _ _ _ _ _ => (pg_name (i := 16) nd rfl (by first | exact Or.inl rfl | exact Or.inr rfl))) (fun _ _ _ _ _ => ptsi_nil) (fun _ _ _ _ _ => (pei_callDX C.fewest_quick (hr.mono (by decide)) (pai_cons (pei_var 8) (pai_cons (pei_var 7) (pai_cons (pei_var 10) (pai_cons (pei_var 16) pai_nil))))))) pai_nil))))
        (pssi_cons (psi_set 6 nd (pei_add (pei_var 6) (pei_lst (pai_cons (pei_lst (pai_cons (pei_var 7) (pai_cons pei_non (pai_cons (pei_var 7) (pai_cons (pei_var 7) (pai_cons (pei_tupStr rfl B.tuple (pai_cons pei_str pai_nil)) pai_nil)))))) pai_nil))))
        (pssi_cons (psi_set 11 nd (pei_tup (pai_cons (pei_tup (pai_cons (pei_tup (pai_cons pei_str (pai_cons (pei_tup pai_nil) (pai_cons pei_bl pai_nil)))) (pai_cons (pei_tup (pai_cons pei_str (pai_cons (pei_tup (pai_cons pei_str pai_nil)) (pai_cons pei_bl pai_nil)))) (pai_cons (pei_tup (pai_cons pei_str (pai_cons (pei_tup (pai_cons pei_str pai_nil)) (pai_cons pei_bl pai_nil)))) pai_nil)))) (pai_cons (pei_tup pai_nil) pai_nil))))
        (pssi_cons (psi_set 5 nd (pei_add (pei_var 5) (pei_lst (pai_cons (pei_callDX C.fewest_quick (hr.mono (by decide)) (pai_cons (pei_var 11) (pai_cons (pei_tupStr rfl B.tuple (pai_cons pei_str pai_nil)) (pai_cons (pei_tup (pai_cons (pei_tup (pai_cons pei_str (pai_cons pei_int pai_nil))) (pai_cons (pei_tup (pai_cons pei_str (pai_cons pei_int pai_nil))) pai_nil))) (pai_cons pei_int pai_nil))))) pai_nil))))
        (pssi_cons (psi_set 5 nd (pei_add (pei_var 5) (pei_lst (pai_cons (pei_callDX C.fewest_quick (hr.mono (by decide)) (pai_cons (pei_var 11) (pai_cons (pei_tupStr rfl B.tuple (pai_cons pei_str pai_nil)) (pai_cons (pei_tup (pai_cons (pei_tup (pai_cons pei_str (pai_cons pei_int pai_nil))) (pai_cons (pei_tup (pai_cons pei_str (pai_cons pei_int pai_nil))) pai_nil))) (pai_cons pei_int pai_nil))))) pai_nil))))
        (pssi_cons (psi_set 5 nd (pei_add (pei_var 5) (pei_lst (pai_cons (pei_callDX C.fewest_quick (hr.mono (by decide)) (pai_cons (pei_var 11) (pai_cons (pei_tupStr rfl B.tuple (pai_cons pei_str pai_nil)) (pai_cons (pei_tup (pai_cons (pei_tup (pai_cons pei_str (pai_cons (pei_var 4) pai_nil))) (pai_cons (pei_tup (pai_cons pei_str (pai_cons pei_int pai_nil))) pai_nil))) (pai_cons pei_int pai_nil))))) pai_nil))))
        (pssi_cons (psi_set 5 nd (pei_add (pei_var 5) (pei_lst (pai_cons (pei_callDX C.fewest_quick (hr.mono (by decide)) (pai_cons (pei_tup (pai_cons (pei_tup pai_nil) (pai_cons (pei_tup pai_nil) pai_nil))) (pai_cons (pei_tup pai_nil) (pai_cons (pei_tup pai_nil) (pai_cons pei_int pai_nil))))) pai_nil))))
        (pssi_cons (psi_set 6 nd (pei_add (pei_var 6) (pei_lst (pai_cons (pei_tup (pai_cons pei_str pai_nil)) (pai_cons (pei_tup (pai_cons pei_str pai_nil)) (pai_cons (pei_tup (pai_cons pei_str pai_nil)) (pai_cons (pei_tup pai_nil) pai_nil)))))))
        (pssi_cons (psi_set 5 nd (pei_add (pei_var 5) (pei_lst (pai_cons (pei_callDX C.fewest_quick (hr.mono (by decide)) (pai_cons (pei_var 0) (pai_cons (pei_var 1) (pai_cons (pei_var 3) (pai_cons (pei_var 4) pai_nil))))) (pai_cons (pei_callDX C.fewest_quick (hr.mono (by decide)) (pai_cons (pei_var 0) (pai_cons (pei_var 1) (pai_cons (pei_var 3) (pai_cons (pei_neg (pei_var 4)) pai_nil))))) pai_nil)))))
        (pssi_cons (psi_set 5 nd (pei_add (pei_var 5) (pei_lc LN (p := (.n 14)) [("_law_own", 14)] rfl nd (pii_seq (pei_tup (pai_cons (pei_neg pei_int) (pai_cons pei_int pai_nil)))) (by show blkC N__law_by_hand_right (defScope s__law_by_hand_right) _ _ = true; decide +kernel) (fun _ _ _ _ _ => (pg_name (i := 14) nd rfl (by first | exact Or.inl rfl | exact Or.inr rfl))) (fun _ _ _ _ _ => ptsi_nil) (fun _ _ _ _ _ => (pei_callC C._law_heard (hr.mono (by decide)) (pai_cons (pei_var 0) (pai_cons (pei_tupStr rfl B.tuple (pai_cons pei_str pai_nil)) (pai_cons (pei_var 3) (pai_cons (pei_var 14) pai_nil)))))))))
        (pssi_cons (psi_set 6 nd (pei_add (pei_var 6) (pei_lst (pai_cons (pei_tup pai_nil) (pai_cons pei_non (pai_cons (pei_lst (pai_cons pei_str (pai_cons pei_bl pai_nil))) (pai_cons (pei_lst (pai_cons pei_str (pai_cons pei_bl pai_nil))) pai_nil)))))))
        (pssi_cons (psi_set 12 nd (pei_lst (pai_cons (pei_callC C._law_lists (hr.mono (by decide)) (pai_cons (pei_var 0) pai_nil)) (pai_cons (pei_list rfl B.list (pai_cons (pei_var 1) pai_nil)) (pai_cons (pei_callC C._law_lists (hr.mono (by decide)) (pai_cons (pei_var 3) pai_nil)) pai_nil)))))
        (pssi_cons (psi_expr (pei_append (pei_var 5) (pai_cons (pei_callKX C.fewest_quick__end_latencies_order_block (hr.mono (by decide)) (pki_cons pei_int (pki_cons (pei_ix hu (pei_var 12) pei_int) (pki_cons (pei_ix hu (pei_var 12) pei_int) (pki_cons (pei_ix hu (pei_var 12) pei_int) pki_nil))))) pai_nil)))
        (pssi_one (psi_ret (pei_callC C._law_same (hr.mono (by decide)) (pai_cons (pei_var 5) (pai_cons (pei_add (pei_var 6) (pei_lst (pai_cons (pei_tup (pai_cons pei_str (pai_cons pei_str pai_nil))) pai_nil))) pai_nil)))))))))))))))))))))))))))))
theorem ok__law_by_hand_right (hkl : KLOk K) (Z : Exs K mg) (B : Blt mg) (T : TopFn K mg "_law_by_hand_right" s__law_by_hand_right []) (C : Cs__law_by_hand_right P w K mg base) : CallOk P w K mg base "_law_by_hand_right" 23 0 F__law_by_hand_right :=
  let ⟨_, _, F, m, b⟩ := T; ⟨_, _, _, fn__law_by_hand_right hkl Z B C F, m, F.kp, b⟩
theorem sc__law_right : FnScope N__law_right ["_law_tub"] (defScope s__law_right) := ⟨rfl, rfl, rfl, by decide +kernel, rfl, by decide +kernel, by decide +kernel⟩
structure Cs__law_right (P : Program) (w : World) (K : PySem.W.Frag) (mg : Str → Option Value) (base : Heap) : Prop where
  mk ::
  fewest_quick : CallOkX P w K mg base "fewest_quick" 21 4 F_fewest_quick
  _law_take : CallOk P w K mg base "_law_take" 1 2 F__law_take
  _law_pick : CallOk P w K mg base "_law_pick" 2 3 F__law_pick
  _law_same : CallOk P w K mg base "_law_same" 17 2 (F__law_same 16)
  _law_block : CallOk P w K mg base "_law_block" 3 2 F__law_block
  _law_order : CallOk P w K mg base "_law_order" 3 2 F__law_order
  _law_end : CallOk P w K mg base "_law_end" 1 3 F__law_end
  _law_slow : CallOk P w K mg base "_law_slow" 1 1 F__law_slow
  _law_sets : CallOk P w K mg base "_law_sets" 1 1 F__law_sets
  _law_lasts : CallOk P w K mg base "_law_lasts" 2 3 F__law_lasts
theorem fn__law_right (hkl : KLOk K) (Z : Exs K mg) (B : Blt mg) (C : Cs__law_right P w K mg base) {f0 : Addr} {fd : FuncData} (F : Fun K "_law_right" "_law_right" s__law_right f0 fd) : FnOk P w K mg base CX0 22 f0 fd ["_law_tub"] (sp0 1 F__law_right) :=
  def_ok (k := 21) F sc__law_right (fun cdv A outer s H E hr => by
      have hu := Room.hu hr
      have nd := sc__law_right.nd
      exact (pssi_cons (psi_for LN PassesOwn.never rfl (pii_range1 B.range (pai_cons pei_int pai_nil)) (pgi_name 1 nd) (pssi_cons (psi_set 2 nd (pei_callC C._law_block (hr.mono (by decide)) (pai_cons (pei_var 0) (pai_cons (pei_add pei_int (pei_callC C._law_take (hr.mono (by decide)) (pai_cons (pei_var 0) (pai_cons pei_int pai_nil)))) pai_nil))))
        (pssi_cons (psi_par 3 4 rfl nd (pai_cons (pei_callC C._law_order (hr.mono (by decide)) (pai_cons (pei_var 0) (pai_cons (pei_var 2) pai_nil))) (pai_cons (pei_callC C._law_lasts (hr.mono (by decide)) (pai_cons (pei_var 0) (pai_cons (pei_var 2) (pai_cons pei_int pai_nil)))) pai_nil)))
        (pssi_cons (psi_set 5 nd (pei_lst pai_nil))
        (pssi_cons (psi_for LN PassesOwn.never rfl (pii_seq (pei_callC C._law_sets (hr.mono (by decide)) (pai_cons (pei_callC C._law_slow (hr.mono (by decide)) (pai_cons (pei_var 2) pai_nil)) pai_nil))) (pgi_name 6 nd) (pssi_cons (psi_set 7 nd (pei_dict rfl B.dict (pai_cons (pei_lc LN (p := (.t [12, 11])) [("_law_tag", 12), ("_law_much", 11)] rfl nd (pii_seq (pei_var 4)) (by show blkC N__law_right (defScope s__law_right) _ _ = true; decide +kernel) (fun _ _ _ _ _ => (pg_tup rfl (pgs_cons (pg_name (i := 12) nd rfl (by first | exact Or.inl rfl | exact Or.inr rfl)) (pgs_cons (pg_name (i := 11) nd rfl (by first | exact Or.inl rfl | exact Or.inr rfl)) pgs_nil)))) (fun _ _ _ _ _ => ptsi_nil) (fun _ _ _ _ _ => (pei_tup (pai_cons (pei_var 12) (pai_cons (pei_ifE (pti_in hu (pei_var 12) (pei_var 6)) pei_int (pei_var 11)) pai_nil))))) pai_nil)))
        (pssi_one (psi_expr (pei_append (pei_var 5) (pai_cons (pei_tup (pai_cons (pei_len B.len (pai_cons (pei_var 6) pai_nil)) (pai_cons (pei_var 6) (pai_cons (pei_callC C._law_end (hr.mono (by decide)) (pai_cons (pei_var 2) (pai_cons (pei_var 3) (pai_cons (pei_var 7) pai_nil)))) pai_nil)))) pai_nil))))))
        (pssi_cons (psi_set 8 nd (pei_listRg rfl B.list B.range (pei_sub (pei_len B.len (pai_cons (pei_var 3) pai_nil)) pei_int) (pei_add (pei_max1 rfl B.max (pai_cons (pei_lc LN (p := (.n 6)) [("_law_own", 6)] rfl nd (pii_seq (pei_var 5)) (by show blkC N__law_right (defScope s__law_right) _ _ = true; decide +kernel) (fun _ _ _ _ _ => (pg_name (i := 6) nd rfl (by first | exact Or.inl rfl | exact Or.inr rfl))) (fun _ _ _ _ _ => ptsi_nil) (fun _ _ _ _ _ => (pei_ix hu (pei_var 6) pei_int))) pai_nil)) pei_int)))
        (pssi_one (psi_for LN PassesOwn.never rfl (pii_seq (pei_callC C._law_pick (hr.mono (by decide)) (pai_cons (pei_var 0) (pai_cons (pei_var 8) (pai_cons pei_int pai_nil))))) (pgi_name 9 nd) (pssi_cons (psi_setLc LN 10 (p := (.n 6)) [("_law_own", 6)] rfl nd (pii_seq (pei_sorted hu B.sorted (pai_cons (pei_var 5) pai_nil))) (by show blkC N__law_right (defScope s__law_right) _ _ = true; decide +kernel) (fun _ _ _ _ _ => (pg_name (i := 6) nd rfl (by first | exact Or.inl rfl | exact Or.inr rfl))) (fun _ _ _ _ _ => (ptsi_one (pti_le (pei_ix hu (pei_var 6) pei_int) (pei_var 9)))) (fun _ _ _ _ _ => (pei_sl hkl.l (pei_var 6) poi_none (poi_some pei_int))) (sw_true rfl rfl rfl (by decide +kernel)))
        (pssi_one (psi_if (pti_not (pti_tru (pei_callC C._law_same (hr.mono (by decide)) (pai_cons (pei_callDX C.fewest_quick (hr.mono (by decide)) (pai_cons (pei_var 2) (pai_cons (pei_var 3) (pai_cons (pei_var 4) (pai_cons (pei_var 9) pai_nil))))) (pai_cons (pei_ifE (pti_ne hu (pei_var 10) (pei_lst pai_nil)) (pei_ix hu (pei_ix hu (pei_var 10) pei_int) pei_int) pei_non) pai_nil))))) (pssi_one (psi_ret pei_bl)) pssi_nil)))))))))))
        (pssi_one (psi_ret pei_bl))))
theorem ok__law_right (hkl : KLOk K) (Z : Exs K mg) (B : Blt mg) (T : TopFn K mg "_law_right" s__law_right ["_law_tub"]) (C : Cs__law_right P w K mg base) : CallOk P w K mg base "_law_right" 22 1 F__law_right :=
  let ⟨_, _, F, m, b⟩ := T; ⟨_, _, _, fn__law_right hkl Z B C F, m, F.kp, b⟩
theorem sc_law : FnScope N_law ["_law_script"] (defScope s_law) := ⟨rfl, rfl, rfl, by decide +kernel, rfl, by decide +kernel, by decide +kernel⟩
structure Cs_law (P : Program) (w : World) (K : PySem.W.Frag) (mg : Str → Option Value) (base : Heap) : Prop where
  mk ::
  _law_box : CallOk P w K mg base "_law_box" 1 2 F__law_box
  _law_cells : CallOk P w K mg base "_law_cells" 1 2 F__law_cells
  _law_by_hand_right : CallOk P w K mg base "_law_by_hand_right" 23 0 F__law_by_hand_right
  _law_right : CallOk P w K mg base "_law_right" 22 1 F__law_right
theorem fn_law (hkl : KLOk K) (Z : Exs K mg) (B : Blt mg) (C : Cs_law P w K mg base) {f0 : Addr} {fd : FuncData} (F : Fun K "law" "law" s_law f0 fd) : FnOk P w K mg base CX0 24 f0 fd ["_law_script"] (sp0 1 F_law) :=
  def_ok (k := 23) F sc_law (fun cdv A outer s H E hr => by
      have hu := Room.hu hr
      have nd := sc_law.nd
      exact (pssi_cons (psi_if (pti_not (pti_tru (pei_callP0 C._law_by_hand_right (hr.mono (by decide))))) (pssi_one (psi_ret pei_bl)) pssi_nil)
        (pssi_cons (psi_set 1 nd (pei_callC C._law_cells (hr.mono (by decide)) (pai_cons (pei_var 0) (pai_cons pei_int pai_nil))))
        (pssi_one (psi_ret (pei_all rfl B.all (pai_cons (pei_lc LN (p := (.n 2)) [("_law_k", 2)] rfl nd (pii_range1 B.range (pai_cons (pei_len B.len (pai_cons (pei_var 1) pai_nil)) pai_nil)) (by show blkC N_law (defScope s_law) _ _ = true; decide +kernel) (fun _ _ _ _ _ => (pg_name (i := 2) nd rfl (by first | exact Or.inl rfl | exact Or.inr rfl))) (fun _ _ _ _ _ => ptsi_nil) (fun _ _ _ _ _ => (pei_callC C._law_right (hr.mono (by decide)) (pai_cons (pei_callC C._law_box (hr.mono (by decide)) (pai_cons (pei_var 1) (pai_cons (pei_var 2) pai_nil))) pai_nil)))) pai_nil)))))))
theorem ok_law (hkl : KLOk K) (Z : Exs K mg) (B : Blt mg) (T : TopFn K mg "law" s_law ["_law_script"]) (C : Cs_law P w K mg base) : CallOk P w K mg base "law" 24 1 F_law :=
  let ⟨_, _, F, m, b⟩ := T; ⟨_, _, _, fn_law hkl Z B C F, m, F.kp, b⟩
end
/-- all of the text together -/
structure Tops (K : PySem.W.Frag) (mg : Str → Option Value) : Prop where
  tupled : TopFn K mg "tupled" s_tupled ["value"]
  is_name : TopFn K mg "is_name" s_is_name ["thing"]
  is_tuple_of : TopFn K mg "is_tuple_of" s_is_tuple_of ["thing", "many"]
  reads_by_name : TopFn K mg "reads_by_name" s_reads_by_name ["rows"]
  readers_by_name : TopFn K mg "readers_by_name" s_readers_by_name ["reads"]
  is_order_of : TopFn K mg "is_order_of" s_is_order_of ["reads", "thing"]
  told_order : TopFn K mg "told_order" s_told_order ["block", "order"]
  awaited_in : TopFn K mg "awaited_in" s_awaited_in ["block"]
  _firsts_by : TopFn K mg "_firsts_by" s__firsts_by ["order", "readers"]
  first_readers : TopFn K mg "first_readers" s_first_readers ["block", "order"]
  _waits_by : TopFn K mg "_waits_by" s__waits_by ["order", "firsts", "awaited"]
  waits_in : TopFn K mg "waits_in" s_waits_in ["block", "order"]
  stalls_in : TopFn K mg "stalls_in" s_stalls_in ["latencies"]
  end_by : TopFn K mg "end_by" s_end_by ["many", "waits", "stalls"]
  _all_sets : TopFn K mg "_all_sets" s__all_sets ["names"]
  fewest_quick : TopFn K mg "fewest_quick" s_fewest_quick ["block", "order", "latencies", "end"]
  _law_box : TopFn K mg "_law_box" s__law_box ["_law_script", "_law_k"]
  _law_take : TopFn K mg "_law_take" s__law_take ["_law_tub", "_law_under"]
  _law_cells : TopFn K mg "_law_cells" s__law_cells ["_law_script", "_law_top"]
  _law_of : TopFn K mg "_law_of" s__law_of ["_law_tub", "_law_few_so"]
  _law_pick : TopFn K mg "_law_pick" s__law_pick ["_law_tub", "_law_few_so", "_law_much_so"]
  _law_same : TopFn K mg "_law_same" s__law_same ["_law_got", "_law_due"]
  _law_lists : TopFn K mg "_law_lists" s__law_lists ["_law_matter"]
  _law_block : TopFn K mg "_law_block" s__law_block ["_law_tub", "_law_many_so"]
  _law_inside : TopFn K mg "_law_inside" s__law_inside ["_law_some_so", "_law_lot_so"]
  _law_order : TopFn K mg "_law_order" s__law_order ["_law_tub", "_law_block_so"]
  _law_end : TopFn K mg "_law_end" s__law_end ["_law_block_so", "_law_line_so", "_law_lasts_so"]
  _law_slow : TopFn K mg "_law_slow" s__law_slow ["_law_block_so"]
  _law_sets : TopFn K mg "_law_sets" s__law_sets ["_law_tags"]
  _law_lasts : TopFn K mg "_law_lasts" s__law_lasts ["_law_tub", "_law_block_so", "_law_most_so"]
  _law_kit : TopFn K mg "_law_kit" s__law_kit []
  _law_heard : TopFn K mg "_law_heard" s__law_heard ["_law_kit_here", "_law_line_so", "_law_lasts_so", "_law_tick_so"]
  _law_by_hand_right : TopFn K mg "_law_by_hand_right" s__law_by_hand_right []
  _law_right : TopFn K mg "_law_right" s__law_right ["_law_tub"]
  law : TopFn K mg "law" s_law ["_law_script"]
theorem law_fn {P : Program} {w : World} {K : PySem.W.Frag} {mg : Str → Option Value} {base : Heap} (hkl : KLOk K) (Z : Exs K mg) (B : Blt mg) (T : Tops K mg) {f0 : Addr} {fd : FuncData} (F : Fun K "law" "law" s_law f0 fd) : FnOk P w K mg base CX0 24 f0 fd ["_law_script"] (sp0 1 F_law) := by
  have O_tupled : CallOk P w K mg base "tupled" 17 1 (F_tupled 16) := ok_tupled hkl Z B T.tupled ⟨⟩ 16
  have O_is_name : CallOk P w K mg base "is_name" 1 1 F_is_name := ok_is_name hkl Z B T.is_name ⟨⟩
  have O_is_tuple_of : CallOk P w K mg base "is_tuple_of" 1 2 F_is_tuple_of := ok_is_tuple_of hkl Z B T.is_tuple_of ⟨⟩
  have O_reads_by_name : CallOk P w K mg base "reads_by_name" 1 1 F_reads_by_name := ok_reads_by_name hkl Z B T.reads_by_name ⟨⟩
  have O_readers_by_name : CallOk P w K mg base "readers_by_name" 1 1 F_readers_by_name := ok_readers_by_name hkl Z B T.readers_by_name ⟨⟩
  have O_is_order_of : CallOk P w K mg base "is_order_of" 2 2 F_is_order_of := ok_is_order_of hkl Z B T.is_order_of ⟨O_is_name, O_is_tuple_of⟩
  have O_told_order : CallOkX P w K mg base "told_order" 18 2 F_told_order := ok_told_order hkl Z B T.told_order ⟨O_tupled, O_reads_by_name, O_is_order_of⟩
  have O_awaited_in : CallOk P w K mg base "awaited_in" 18 1 F_awaited_in := ok_awaited_in hkl Z B T.awaited_in ⟨O_tupled, O_reads_by_name, O_readers_by_name⟩
  have O__firsts_by : CallOk P w K mg base "_firsts_by" 1 2 F__firsts_by := ok__firsts_by hkl Z B T._firsts_by ⟨⟩
  have O_first_readers : CallOkX P w K mg base "first_readers" 19 2 F_first_readers := ok_first_readers hkl Z B T.first_readers ⟨O_tupled, O_reads_by_name, O_readers_by_name, O_told_order, O__firsts_by⟩
  have O__waits_by : CallOk P w K mg base "_waits_by" 1 3 F__waits_by := ok__waits_by hkl Z B T._waits_by ⟨⟩
  have O_waits_in : CallOkX P w K mg base "waits_in" 20 2 F_waits_in := ok_waits_in hkl Z B T.waits_in ⟨O_awaited_in, O_first_readers, O__waits_by⟩
  have O_stalls_in : CallOk P w K mg base "stalls_in" 18 1 F_stalls_in := ok_stalls_in hkl Z B T.stalls_in ⟨O_tupled⟩
  have O_end_by : CallOk P w K mg base "end_by" 1 3 F_end_by := ok_end_by hkl Z B T.end_by ⟨⟩
  have O__all_sets : CallOk P w K mg base "_all_sets" 1 1 F__all_sets := ok__all_sets hkl Z B T._all_sets ⟨⟩
  have O_fewest_quick : CallOkX P w K mg base "fewest_quick" 21 4 F_fewest_quick := ok_fewest_quick hkl Z B T.fewest_quick ⟨O_waits_in, O_stalls_in, O_end_by, O__all_sets⟩
  have O__law_box : CallOk P w K mg base "_law_box" 1 2 F__law_box := ok__law_box hkl Z B T._law_box ⟨⟩
  have O__law_take : CallOk P w K mg base "_law_take" 1 2 F__law_take := ok__law_take hkl Z B T._law_take ⟨⟩
  have O__law_cells : CallOk P w K mg base "_law_cells" 1 2 F__law_cells := ok__law_cells hkl Z B T._law_cells ⟨⟩
  have O__law_of : CallOk P w K mg base "_law_of" 2 2 F__law_of := ok__law_of hkl Z B T._law_of ⟨O__law_take⟩
  have O__law_pick : CallOk P w K mg base "_law_pick" 2 3 F__law_pick := ok__law_pick hkl Z B T._law_pick ⟨O__law_take⟩
  have O__law_same : CallOk P w K mg base "_law_same" 17 2 (F__law_same 16) := ok__law_same hkl Z B T._law_same ⟨⟩ 16
  have O__law_lists : CallOk P w K mg base "_law_lists" 17 1 (F__law_lists 16) := ok__law_lists hkl Z B T._law_lists ⟨⟩ 16
  have O__law_block : CallOk P w K mg base "_law_block" 3 2 F__law_block := ok__law_block hkl Z B T._law_block ⟨O__law_take, O__law_of, O__law_pick⟩
  have O__law_inside : CallOk P w K mg base "_law_inside" 1 2 F__law_inside := ok__law_inside hkl Z B T._law_inside ⟨⟩
  have O__law_order : CallOk P w K mg base "_law_order" 3 2 F__law_order := ok__law_order hkl Z B T._law_order ⟨O__law_of, O__law_inside⟩
  have O__law_end : CallOk P w K mg base "_law_end" 1 3 F__law_end := ok__law_end hkl Z B T._law_end ⟨⟩
  have O__law_slow : CallOk P w K mg base "_law_slow" 1 1 F__law_slow := ok__law_slow hkl Z B T._law_slow ⟨⟩
  have O__law_sets : CallOk P w K mg base "_law_sets" 1 1 F__law_sets := ok__law_sets hkl Z B T._law_sets ⟨⟩
  have O__law_lasts : CallOk P w K mg base "_law_lasts" 2 3 F__law_lasts := ok__law_lasts hkl Z B T._law_lasts ⟨O__law_take, O__law_slow⟩
  have O__law_kit : CallOk P w K mg base "_law_kit" 1 0 F__law_kit := ok__law_kit hkl Z B T._law_kit ⟨⟩
  have O__law_heard : CallOk P w K mg base "_law_heard" 22 4 F__law_heard := ok__law_heard hkl Z B T._law_heard ⟨O_fewest_quick⟩
  have O__law_by_hand_right : CallOk P w K mg base "_law_by_hand_right" 23 0 F__law_by_hand_right := ok__law_by_hand_right hkl Z B T._law_by_hand_right ⟨O_fewest_quick, O__law_same, O__law_lists, O__law_kit, O__law_heard, (callKX_of T.fewest_quick (topK_of fun _ _ _ _ _ _ ws hl => match ws, hl with | [_, _, _, _], _ => rfl) fun _ _ F => fn_fewest_quick hkl Z B ⟨O_waits_in, O_stalls_in, O_end_by, O__all_sets⟩ F)⟩
  have O__law_right : CallOk P w K mg base "_law_right" 22 1 F__law_right := ok__law_right hkl Z B T._law_right ⟨O_fewest_quick, O__law_take, O__law_pick, O__law_same, O__law_block, O__law_order, O__law_end, O__law_slow, O__law_sets, O__law_lasts⟩
  exact fn_law hkl Z B ⟨O__law_box, O__law_cells, O__law_by_hand_right, O__law_right⟩ F
end K28
set_option autoImplicit true
set_option maxRecDepth 100000
set_option maxHeartbeats 0
set_option linter.all false
namespace K28
open PySem L2 Iv
mutual
def qqV : IV → IV → Bool
  | .non, .non => true
  | .exo, .exo => true
  | .bl a, .bl b => decide (a = b)
  | .int a, .int b => decide (a = b)
  | .str a, .str b => decide (a = b)
  | .ref a, .ref b => decide (a = b)
  | .tup a, .tup b => qqVs a b
  | _, _ => false
def qqVs : List IV → List IV → Bool
  | [], [] => true
  | x :: xs, y :: ys => qqV x y && qqVs xs ys
  | _, _ => false
end
mutual
theorem qqV_eq : ∀ {x y : IV}, qqV x y = true → x = y
  | .non, .non, _ => rfl
  | .exo, .exo, _ => rfl
  | .bl a, .bl b, e => by rw [qqV] at e; rw [of_decide_eq_true e]
  | .int a, .int b, e => by rw [qqV] at e; rw [of_decide_eq_true e]
  | .str a, .str b, e => by rw [qqV] at e; rw [of_decide_eq_true e]
  | .ref a, .ref b, e => by rw [qqV] at e; rw [of_decide_eq_true e]
  | .tup a, .tup b, e => by rw [qqV] at e; rw [qqVs_eq e]
  | .non, .bl _, e | .non, .int _, e | .non, .str _, e | .non, .tup _, e | .non, .fl _, e | .non, .kl _, e | .non, .ref _, e | .non, .exo, e => by simp [qqV] at e
  | .bl _, .non, e | .bl _, .int _, e | .bl _, .str _, e | .bl _, .tup _, e | .bl _, .fl _, e | .bl _, .kl _, e | .bl _, .ref _, e | .bl _, .exo, e => by simp [qqV] at e
  | .int _, .non, e | .int _, .bl _, e | .int _, .str _, e | .int _, .tup _, e | .int _, .fl _, e | .int _, .kl _, e | .int _, .ref _, e | .int _, .exo, e => by simp [qqV] at e
  | .str _, .non, e | .str _, .bl _, e | .str _, .int _, e | .str _, .tup _, e | .str _, .fl _, e | .str _, .kl _, e | .str _, .ref _, e | .str _, .exo, e => by simp [qqV] at e
  | .tup _, .non, e | .tup _, .bl _, e | .tup _, .int _, e | .tup _, .str _, e | .tup _, .fl _, e | .tup _, .kl _, e | .tup _, .ref _, e | .tup _, .exo, e => by simp [qqV] at e
  | .fl _, _, e => by simp [qqV] at e
  | .kl _, _, e => by simp [qqV] at e
  | .ref _, .non, e | .ref _, .bl _, e | .ref _, .int _, e | .ref _, .str _, e | .ref _, .tup _, e | .ref _, .fl _, e | .ref _, .kl _, e | .ref _, .exo, e => by simp [qqV] at e
  | .exo, .non, e | .exo, .bl _, e | .exo, .int _, e | .exo, .str _, e | .exo, .tup _, e | .exo, .fl _, e | .exo, .kl _, e | .exo, .ref _, e => by simp [qqV] at e
theorem qqVs_eq : ∀ {x y : List IV}, qqVs x y = true → x = y
  | [], [], _ => rfl
  | x :: xs, y :: ys, e => by
    rw [qqVs, Bool.and_eq_true] at e
    rw [qqV_eq e.1, qqVs_eq e.2]
  | [], _ :: _, e => by simp [qqVs] at e
  | _ :: _, [], e => by simp [qqVs] at e
end
def qqE : Iv.Env → Iv.Env → Bool
  | [], [] => true
  | none :: a, none :: b => qqE a b
  | some x :: a, some y :: b => qqV x y && qqE a b
  | _, _ => false
def qqK : List (Key × IV) → List (Key × IV) → Bool
  | [], [] => true
  | (k, x) :: a, (l, y) :: b => decide (k = l) && (qqV x y && qqK a b)
  | _, _ => false
theorem qqK_eq : ∀ {a b : List (Key × IV)}, qqK a b = true → a = b
  | [], [], _ => rfl
  | (k, x) :: a, (l, y) :: b, e => by
    rw [qqK, Bool.and_eq_true, Bool.and_eq_true] at e
    rw [of_decide_eq_true e.1, qqV_eq e.2.1, qqK_eq e.2.2]
  | [], _ :: _, e | _ :: _, [], e => by simp [qqK] at e
def qqH : IH → IH → Bool
  | [], [] => true
  | .dic x :: a, .dic y :: b => qqK x y && qqH a b
  | .lst x :: a, .lst y :: b => qqVs x y && qqH a b
  | _, _ => false
theorem qqE_eq : ∀ {a b : Iv.Env}, qqE a b = true → a = b
  | [], [], _ => rfl
  | none :: a, none :: b, e => by rw [qqE] at e; rw [qqE_eq e]
  | some x :: a, some y :: b, e => by
    rw [qqE, Bool.and_eq_true] at e
    rw [qqV_eq e.1, qqE_eq e.2]
  | none :: _, some _ :: _, e | some _ :: _, none :: _, e | [], _ :: _, e | none :: _, [], e | some _ :: _, [], e => by simp [qqE] at e
theorem qqH_eq : ∀ {a b : IH}, qqH a b = true → a = b
  | [], [], _ => rfl
  | .lst x :: a, .lst y :: b, e => by
    rw [qqH, Bool.and_eq_true] at e
    rw [qqVs_eq e.1, qqH_eq e.2]
  | .dic x :: a, .dic y :: b, e => by
    rw [qqH, Bool.and_eq_true] at e
    rw [qqK_eq e.1, qqH_eq e.2]
  | .lst _ :: _, .dic _ :: _, e | .lst _ :: _, .fdc _ :: _, e | .dic _ :: _, .lst _ :: _, e | .dic _ :: _, .fdc _ :: _, e | .fdc _ :: _, _, e | [], _ :: _, e | .lst _ :: _, [], e | .dic _ :: _, [], e => by simp [qqH] at e
def stepC (m : Iv.Env → M Fl) (env : Iv.Env) (h : IH) (env2 : Iv.Env) (h2 : IH) : Bool := match m env h with
  | some (.ok (.nx e), h') => qqE e env2 && qqH h' h2
  | _ => false
theorem step_of {m : Iv.Env → M Fl} {env env2 : Iv.Env} {h h2 : IH} (c : stepC m env h env2 h2 = true) : m env h = some (.ok (.nx env2), h2) := by
  unfold stepC at c
  split at c
  · rename_i e h' q
    rw [Bool.and_eq_true] at c
    rw [q, qqE_eq c.1, qqH_eq c.2]
  · cases c
theorem seq_as (a b c : Iv.Env → M Fl) : SeqS a (SeqS b c) = SeqS (SeqS a b) c := by
  funext env h
  unfold SeqS M.bind
  cases a env h with
  | none => rfl
  | some o =>
    obtain ⟨o, h1⟩ := o
    cases o with
    | ex e => rfl
    | ok f => cases f <;> rfl
def hc0 : Iv.Env → M Fl :=
  (AsgS (CallF 0 F__law_kit Nil) (TgUn 3 (TgCons (TgN 0) (TgCons (TgN 1) (TgCons (TgN 2) TgNil)))))
def hc1 : Iv.Env → M Fl :=
  (AsgS (Tup (Cons (Tup (Cons (Tup (Cons (Cst (.str "a")) (Cons (Cst (.int 4)) Nil))) (Cons (Tup (Cons (Cst (.str "b")) (Cons (Cst (.int 6)) Nil))) (Cons (Tup (Cons (Cst (.str "d")) (Cons (Cst (.int 3)) Nil))) (Cons (Tup (Cons (Cst (.str "e")) (Cons (Cst (.int 9)) Nil))) Nil))))) (Cons (Bin powI (Cst (.int 10)) (Cst (.int 40))) Nil))) (TgUn 2 (TgCons (TgN 3) (TgCons (TgN 4) TgNil))))
def hc2 : Iv.Env → M Fl :=
  (AsgS (Lst (Cons (LcE LN (Iter (Tup (Cons (Cst (.int 12)) (Cons (Cst (.int 11)) (Cons (Cst (.int 10)) (Cons (Cst (.int 9)) (Cons (Cst (.int 8)) (Cons (Cst (.int 7)) (Cons (Cst (.int 6)) (Cons (Cst (.int 5)) (Cons (Cst (.int 4)) (Cons (Un negI (Cst (.int 1))) Nil)))))))))))) (.n 16) YesT (CallD 4 F_fewest_quick (Cons (Var 0) (Cons (Var 1) (Cons (Var 3) (Cons (Var 16) Nil))))) [16]) Nil)) (TgN 5))
def hc3 : Iv.Env → M Fl :=
  (AsgS (Lst (Cons (Lst (Cons (Tup Nil) (Cons (Tup Nil) (Cons (Tup (Cons (Cst (.str "b")) Nil)) (Cons (Tup (Cons (Cst (.str "b")) Nil)) (Cons (Tup (Cons (Cst (.str "b")) Nil)) (Cons (Tup (Cons (Cst (.str "a")) (Cons (Cst (.str "b")) Nil))) (Cons (Tup (Cons (Cst (.str "a")) (Cons (Cst (.str "b")) Nil))) (Cons (Tup (Cons (Cst (.str "a")) (Cons (Cst (.str "b")) (Cons (Cst (.str "d")) Nil)))) (Cons (Cst .non) (Cons (Cst .non) Nil))))))))))) Nil)) (TgN 6))
def hc4 : Iv.Env → M Fl :=
  (AsgS (Bin addI (Var 5) (Lst (Cons (LcE LN (Iter (Tup (Cons (Cst (.int 10)) (Cons (Cst (.int 9)) (Cons (Cst (.int 8)) (Cons (Cst (.int 7)) (Cons (Cst (.int 5)) Nil))))))) (.n 16) YesT (CallD 4 F_fewest_quick (Cons (Var 0) (Cons (Var 2) (Cons (Var 3) (Cons (Var 16) Nil))))) [16]) Nil))) (TgN 5))
def hc5 : Iv.Env → M Fl :=
  (AsgS (Bin addI (Var 6) (Lst (Cons (Lst (Cons (Tup Nil) (Cons (Tup (Cons (Cst (.str "d")) Nil)) (Cons (Tup (Cons (Cst (.str "d")) Nil)) (Cons (Tup (Cons (Cst (.str "a")) (Cons (Cst (.str "b")) Nil))) (Cons (Tup (Cons (Cst (.str "a")) (Cons (Cst (.str "b")) (Cons (Cst (.str "d")) Nil)))) Nil)))))) Nil))) (TgN 6))
def hc6 : Iv.Env → M Fl :=
  (AsgS (CallB tupStrM (Cons (Cst (.str "abcdefgh")) Nil)) (TgN 7))
def hc7 : Iv.Env → M Fl :=
  (AsgS (Tup (Cons (CallB tupleM (Cons (LcE LN (IterA enumM (Cons (Var 7) Nil)) (.t [13, 15]) YesT (Tup (Cons (Var 15) (Cons (CallB tupleM (Cons (Sl (Var 7) (SoO (CallB max2 (Cons (Bin subI (Var 13) (Cst (.int 1))) (Cons (Cst (.int 0)) Nil)))) (SoO (Var 13))) Nil)) (Cons (Cst (.bl true)) Nil)))) [13, 15]) Nil)) (Cons (Tup (Cons (Cst (.str "h")) Nil)) Nil))) (TgN 8))
def hc8 : Iv.Env → M Fl :=
  (AsgS (Bin subI (Var 4) (Cst (.int 10))) (TgN 9))
def hc9 : Iv.Env → M Fl :=
  (AsgS (CallB tupleM (Cons (LcE LN (Iter (Var 7)) (.n 15) YesT (Tup (Cons (Var 15) (Cons (Var 9) Nil))) [15]) Nil)) (TgN 10))
def hc10 : Iv.Env → M Fl :=
  (AsgS (Bin addI (Var 5) (Lst (Cons (LcE LN (Iter (Tup (Cons (Cst (.int 8)) (Cons (Cst (.int 7)) (Cons (Var 9) (Cons (Bin addI (Var 9) (Cst (.int 6))) (Cons (Bin addI (Var 9) (Cst (.int 7))) Nil))))))) (.n 16) YesT (CallD 4 F_fewest_quick (Cons (Var 8) (Cons (Var 7) (Cons (Var 10) (Cons (Var 16) Nil))))) [16]) Nil))) (TgN 5))
def hc11 : Iv.Env → M Fl :=
  (AsgS (Bin addI (Var 6) (Lst (Cons (Lst (Cons (Var 7) (Cons (Cst .non) (Cons (Var 7) (Cons (Var 7) (Cons (CallB tupStrM (Cons (Cst (.str "abcdefg")) Nil)) Nil)))))) Nil))) (TgN 6))
def hc12 : Iv.Env → M Fl :=
  (AsgS (Tup (Cons (Tup (Cons (Tup (Cons (Cst (.str "a")) (Cons (Tup Nil) (Cons (Cst (.bl true)) Nil)))) (Cons (Tup (Cons (Cst (.str "b")) (Cons (Tup (Cons (Cst (.str "a")) Nil)) (Cons (Cst (.bl true)) Nil)))) (Cons (Tup (Cons (Cst (.str "c")) (Cons (Tup (Cons (Cst (.str "b")) Nil)) (Cons (Cst (.bl false)) Nil)))) Nil)))) (Cons (Tup Nil) Nil))) (TgN 11))
def hc13 : Iv.Env → M Fl :=
  (AsgS (Bin addI (Var 5) (Lst (Cons (CallD 4 F_fewest_quick (Cons (Var 11) (Cons (CallB tupStrM (Cons (Cst (.str "abc")) Nil)) (Cons (Tup (Cons (Tup (Cons (Cst (.str "a")) (Cons (Cst (.int 3)) Nil))) (Cons (Tup (Cons (Cst (.str "b")) (Cons (Cst (.int 9)) Nil))) Nil))) (Cons (Cst (.int 6)) Nil))))) Nil))) (TgN 5))
def hc14 : Iv.Env → M Fl :=
  (AsgS (Bin addI (Var 5) (Lst (Cons (CallD 4 F_fewest_quick (Cons (Var 11) (Cons (CallB tupStrM (Cons (Cst (.str "abc")) Nil)) (Cons (Tup (Cons (Tup (Cons (Cst (.str "a")) (Cons (Cst (.int 5)) Nil))) (Cons (Tup (Cons (Cst (.str "b")) (Cons (Cst (.int 5)) Nil))) Nil))) (Cons (Cst (.int 8)) Nil))))) Nil))) (TgN 5))
def hc15 : Iv.Env → M Fl :=
  (AsgS (Bin addI (Var 5) (Lst (Cons (CallD 4 F_fewest_quick (Cons (Var 11) (Cons (CallB tupStrM (Cons (Cst (.str "abc")) Nil)) (Cons (Tup (Cons (Tup (Cons (Cst (.str "a")) (Cons (Var 4) Nil))) (Cons (Tup (Cons (Cst (.str "b")) (Cons (Cst (.int 2)) Nil))) Nil))) (Cons (Cst (.int 4)) Nil))))) Nil))) (TgN 5))
def hc16 : Iv.Env → M Fl :=
  (AsgS (Bin addI (Var 5) (Lst (Cons (CallD 4 F_fewest_quick (Cons (Tup (Cons (Tup Nil) (Cons (Tup Nil) Nil))) (Cons (Tup Nil) (Cons (Tup Nil) (Cons (Cst (.int 0)) Nil))))) Nil))) (TgN 5))
def hc17 : Iv.Env → M Fl :=
  (AsgS (Bin addI (Var 6) (Lst (Cons (Tup (Cons (Cst (.str "b")) Nil)) (Cons (Tup (Cons (Cst (.str "a")) Nil)) (Cons (Tup (Cons (Cst (.str "a")) Nil)) (Cons (Tup Nil) Nil)))))) (TgN 6))
def hc18 : Iv.Env → M Fl :=
  (AsgS (Bin addI (Var 5) (Lst (Cons (CallD 4 F_fewest_quick (Cons (Var 0) (Cons (Var 1) (Cons (Var 3) (Cons (Var 4) Nil))))) (Cons (CallD 4 F_fewest_quick (Cons (Var 0) (Cons (Var 1) (Cons (Var 3) (Cons (Un negI (Var 4)) Nil))))) Nil)))) (TgN 5))
def hc19 : Iv.Env → M Fl :=
  (AsgS (Bin addI (Var 5) (LcE LN (Iter (Tup (Cons (Un negI (Cst (.int 1))) (Cons (Cst (.int 11)) Nil)))) (.n 14) YesT (CallF 4 F__law_heard (Cons (Var 0) (Cons (CallB tupStrM (Cons (Cst (.str "acbde")) Nil)) (Cons (Var 3) (Cons (Var 14) Nil))))) [14])) (TgN 5))
def hc20 : Iv.Env → M Fl :=
  (AsgS (Bin addI (Var 6) (Lst (Cons (Tup Nil) (Cons (Cst .non) (Cons (Lst (Cons (Cst (.str "order")) (Cons (Cst (.bl true)) Nil))) (Cons (Lst (Cons (Cst (.str "order")) (Cons (Cst (.bl true)) Nil))) Nil)))))) (TgN 6))
def hc21 : Iv.Env → M Fl :=
  (AsgS (Lst (Cons (CallF 1 (F__law_lists 16) (Cons (Var 0) Nil)) (Cons (CallB listM (Cons (Var 1) Nil)) (Cons (CallF 1 (F__law_lists 16) (Cons (Var 3) Nil)) Nil)))) (TgN 12))
def hc22 : Iv.Env → M Fl :=
  (DropS (Mth chkL appM (Var 5) (Cons (CallK 4 F_fewest_quick [3, 2, 1, 0] (Cons (Cst (.int 7)) (Cons (Bin ixM (Var 12) (Cst (.int 2))) (Cons (Bin ixM (Var 12) (Cst (.int 1))) (Cons (Bin ixM (Var 12) (Cst (.int 0))) Nil))))) Nil)))
def hcE : Iv.Env → M Fl :=
  (RetS (CallF 2 (F__law_same 16) (Cons (Var 5) (Cons (Bin addI (Var 6) (Lst (Cons (Tup (Cons (Cst (.str "a")) (Cons (Cst (.str "b")) Nil))) Nil))) Nil))))
def he0 : Iv.Env := List.replicate 17 none
def hh0 : IH := []
def he1 : Iv.Env := [some (.tup [.tup [.tup [.str ⟨#[97]⟩, .tup [], .bl true], .tup [.str ⟨#[98]⟩, .tup [], .bl true], .tup [.str ⟨#[99]⟩, .tup [.str ⟨#[97]⟩, .str ⟨#[98]⟩], .bl false], .tup [.str ⟨#[100]⟩, .tup [.str ⟨#[99]⟩], .bl true], .tup [.str ⟨#[101]⟩, .tup [], .bl true]], .tup [.str ⟨#[100]⟩]]), some (.tup [.str ⟨#[97]⟩, .str ⟨#[98]⟩, .str ⟨#[99]⟩, .str ⟨#[100]⟩, .str ⟨#[101]⟩]), some (.tup [.str ⟨#[98]⟩, .str ⟨#[101]⟩, .str ⟨#[97]⟩, .str ⟨#[99]⟩, .str ⟨#[100]⟩]), none, none, none, none, none, none, none, none, none, none, none, none, none, none]
def hh1 : IH := []
def he2 : Iv.Env := [some (.tup [.tup [.tup [.str ⟨#[97]⟩, .tup [], .bl true], .tup [.str ⟨#[98]⟩, .tup [], .bl true], .tup [.str ⟨#[99]⟩, .tup [.str ⟨#[97]⟩, .str ⟨#[98]⟩], .bl false], .tup [.str ⟨#[100]⟩, .tup [.str ⟨#[99]⟩], .bl true], .tup [.str ⟨#[101]⟩, .tup [], .bl true]], .tup [.str ⟨#[100]⟩]]), some (.tup [.str ⟨#[97]⟩, .str ⟨#[98]⟩, .str ⟨#[99]⟩, .str ⟨#[100]⟩, .str ⟨#[101]⟩]), some (.tup [.str ⟨#[98]⟩, .str ⟨#[101]⟩, .str ⟨#[97]⟩, .str ⟨#[99]⟩, .str ⟨#[100]⟩]), some (.tup [.tup [.str ⟨#[97]⟩, .int (4)], .tup [.str ⟨#[98]⟩, .int (6)], .tup [.str ⟨#[100]⟩, .int (3)], .tup [.str ⟨#[101]⟩, .int (9)]]), some (.int (10000000000000000000000000000000000000000)), none, none, none, none, none, none, none, none, none, none, none, none]
def hh2 : IH := []
def he3 : Iv.Env := [some (.tup [.tup [.tup [.str ⟨#[97]⟩, .tup [], .bl true], .tup [.str ⟨#[98]⟩, .tup [], .bl true], .tup [.str ⟨#[99]⟩, .tup [.str ⟨#[97]⟩, .str ⟨#[98]⟩], .bl false], .tup [.str ⟨#[100]⟩, .tup [.str ⟨#[99]⟩], .bl true], .tup [.str ⟨#[101]⟩, .tup [], .bl true]], .tup [.str ⟨#[100]⟩]]), some (.tup [.str ⟨#[97]⟩, .str ⟨#[98]⟩, .str ⟨#[99]⟩, .str ⟨#[100]⟩, .str ⟨#[101]⟩]), some (.tup [.str ⟨#[98]⟩, .str ⟨#[101]⟩, .str ⟨#[97]⟩, .str ⟨#[99]⟩, .str ⟨#[100]⟩]), some (.tup [.tup [.str ⟨#[97]⟩, .int (4)], .tup [.str ⟨#[98]⟩, .int (6)], .tup [.str ⟨#[100]⟩, .int (3)], .tup [.str ⟨#[101]⟩, .int (9)]]), some (.int (10000000000000000000000000000000000000000)), some (.ref 1), none, none, none, none, none, none, none, none, none, none, none]
def hh3 : IH := [.lst [.tup [], .tup [], .tup [.str ⟨#[98]⟩], .tup [.str ⟨#[98]⟩], .tup [.str ⟨#[98]⟩], .tup [.str ⟨#[97]⟩, .str ⟨#[98]⟩], .tup [.str ⟨#[97]⟩, .str ⟨#[98]⟩], .tup [.str ⟨#[97]⟩, .str ⟨#[98]⟩, .str ⟨#[100]⟩], .non, .non], .lst [.ref 0]]
def he4 : Iv.Env := [some (.tup [.tup [.tup [.str ⟨#[97]⟩, .tup [], .bl true], .tup [.str ⟨#[98]⟩, .tup [], .bl true], .tup [.str ⟨#[99]⟩, .tup [.str ⟨#[97]⟩, .str ⟨#[98]⟩], .bl false], .tup [.str ⟨#[100]⟩, .tup [.str ⟨#[99]⟩], .bl true], .tup [.str ⟨#[101]⟩, .tup [], .bl true]], .tup [.str ⟨#[100]⟩]]), some (.tup [.str ⟨#[97]⟩, .str ⟨#[98]⟩, .str ⟨#[99]⟩, .str ⟨#[100]⟩, .str ⟨#[101]⟩]), some (.tup [.str ⟨#[98]⟩, .str ⟨#[101]⟩, .str ⟨#[97]⟩, .str ⟨#[99]⟩, .str ⟨#[100]⟩]), some (.tup [.tup [.str ⟨#[97]⟩, .int (4)], .tup [.str ⟨#[98]⟩, .int (6)], .tup [.str ⟨#[100]⟩, .int (3)], .tup [.str ⟨#[101]⟩, .int (9)]]), some (.int (10000000000000000000000000000000000000000)), some (.ref 1), some (.ref 3), none, none, none, none, none, none, none, none, none, none]
def hh4 : IH := [.lst [.tup [], .tup [], .tup [.str ⟨#[98]⟩], .tup [.str ⟨#[98]⟩], .tup [.str ⟨#[98]⟩], .tup [.str ⟨#[97]⟩, .str ⟨#[98]⟩], .tup [.str ⟨#[97]⟩, .str ⟨#[98]⟩], .tup [.str ⟨#[97]⟩, .str ⟨#[98]⟩, .str ⟨#[100]⟩], .non, .non], .lst [.ref 0], .lst [.tup [], .tup [], .tup [.str ⟨#[98]⟩], .tup [.str ⟨#[98]⟩], .tup [.str ⟨#[98]⟩], .tup [.str ⟨#[97]⟩, .str ⟨#[98]⟩], .tup [.str ⟨#[97]⟩, .str ⟨#[98]⟩], .tup [.str ⟨#[97]⟩, .str ⟨#[98]⟩, .str ⟨#[100]⟩], .non, .non], .lst [.ref 2]]
def he5 : Iv.Env := [some (.tup [.tup [.tup [.str ⟨#[97]⟩, .tup [], .bl true], .tup [.str ⟨#[98]⟩, .tup [], .bl true], .tup [.str ⟨#[99]⟩, .tup [.str ⟨#[97]⟩, .str ⟨#[98]⟩], .bl false], .tup [.str ⟨#[100]⟩, .tup [.str ⟨#[99]⟩], .bl true], .tup [.str ⟨#[101]⟩, .tup [], .bl true]], .tup [.str ⟨#[100]⟩]]), some (.tup [.str ⟨#[97]⟩, .str ⟨#[98]⟩, .str ⟨#[99]⟩, .str ⟨#[100]⟩, .str ⟨#[101]⟩]), some (.tup [.str ⟨#[98]⟩, .str ⟨#[101]⟩, .str ⟨#[97]⟩, .str ⟨#[99]⟩, .str ⟨#[100]⟩]), some (.tup [.tup [.str ⟨#[97]⟩, .int (4)], .tup [.str ⟨#[98]⟩, .int (6)], .tup [.str ⟨#[100]⟩, .int (3)], .tup [.str ⟨#[101]⟩, .int (9)]]), some (.int (10000000000000000000000000000000000000000)), some (.ref 6), some (.ref 3), none, none, none, none, none, none, none, none, none, none]
def hh5 : IH := [.lst [.tup [], .tup [], .tup [.str ⟨#[98]⟩], .tup [.str ⟨#[98]⟩], .tup [.str ⟨#[98]⟩], .tup [.str ⟨#[97]⟩, .str ⟨#[98]⟩], .tup [.str ⟨#[97]⟩, .str ⟨#[98]⟩], .tup [.str ⟨#[97]⟩, .str ⟨#[98]⟩, .str ⟨#[100]⟩], .non, .non], .lst [.ref 0], .lst [.tup [], .tup [], .tup [.str ⟨#[98]⟩], .tup [.str ⟨#[98]⟩], .tup [.str ⟨#[98]⟩], .tup [.str ⟨#[97]⟩, .str ⟨#[98]⟩], .tup [.str ⟨#[97]⟩, .str ⟨#[98]⟩], .tup [.str ⟨#[97]⟩, .str ⟨#[98]⟩, .str ⟨#[100]⟩], .non, .non], .lst [.ref 2], .lst [.tup [], .tup [.str ⟨#[100]⟩], .tup [.str ⟨#[100]⟩], .tup [.str ⟨#[97]⟩, .str ⟨#[98]⟩], .tup [.str ⟨#[97]⟩, .str ⟨#[98]⟩, .str ⟨#[100]⟩]], .lst [.ref 4], .lst [.ref 0, .ref 4]]
def he6 : Iv.Env := [some (.tup [.tup [.tup [.str ⟨#[97]⟩, .tup [], .bl true], .tup [.str ⟨#[98]⟩, .tup [], .bl true], .tup [.str ⟨#[99]⟩, .tup [.str ⟨#[97]⟩, .str ⟨#[98]⟩], .bl false], .tup [.str ⟨#[100]⟩, .tup [.str ⟨#[99]⟩], .bl true], .tup [.str ⟨#[101]⟩, .tup [], .bl true]], .tup [.str ⟨#[100]⟩]]), some (.tup [.str ⟨#[97]⟩, .str ⟨#[98]⟩, .str ⟨#[99]⟩, .str ⟨#[100]⟩, .str ⟨#[101]⟩]), some (.tup [.str ⟨#[98]⟩, .str ⟨#[101]⟩, .str ⟨#[97]⟩, .str ⟨#[99]⟩, .str ⟨#[100]⟩]), some (.tup [.tup [.str ⟨#[97]⟩, .int (4)], .tup [.str ⟨#[98]⟩, .int (6)], .tup [.str ⟨#[100]⟩, .int (3)], .tup [.str ⟨#[101]⟩, .int (9)]]), some (.int (10000000000000000000000000000000000000000)), some (.ref 6), some (.ref 9), none, none, none, none, none, none, none, none, none, none]
def hh6 : IH := [.lst [.tup [], .tup [], .tup [.str ⟨#[98]⟩], .tup [.str ⟨#[98]⟩], .tup [.str ⟨#[98]⟩], .tup [.str ⟨#[97]⟩, .str ⟨#[98]⟩], .tup [.str ⟨#[97]⟩, .str ⟨#[98]⟩], .tup [.str ⟨#[97]⟩, .str ⟨#[98]⟩, .str ⟨#[100]⟩], .non, .non], .lst [.ref 0], .lst [.tup [], .tup [], .tup [.str ⟨#[98]⟩], .tup [.str ⟨#[98]⟩], .tup [.str ⟨#[98]⟩], .tup [.str ⟨#[97]⟩, .str ⟨#[98]⟩], .tup [.str ⟨#[97]⟩, .str ⟨#[98]⟩], .tup [.str ⟨#[97]⟩, .str ⟨#[98]⟩, .str ⟨#[100]⟩], .non, .non], .lst [.ref 2], .lst [.tup [], .tup [.str ⟨#[100]⟩], .tup [.str ⟨#[100]⟩], .tup [.str ⟨#[97]⟩, .str ⟨#[98]⟩], .tup [.str ⟨#[97]⟩, .str ⟨#[98]⟩, .str ⟨#[100]⟩]], .lst [.ref 4], .lst [.ref 0, .ref 4], .lst [.tup [], .tup [.str ⟨#[100]⟩], .tup [.str ⟨#[100]⟩], .tup [.str ⟨#[97]⟩, .str ⟨#[98]⟩], .tup [.str ⟨#[97]⟩, .str ⟨#[98]⟩, .str ⟨#[100]⟩]], .lst [.ref 7], .lst [.ref 2, .ref 7]]
def he7 : Iv.Env := [some (.tup [.tup [.tup [.str ⟨#[97]⟩, .tup [], .bl true], .tup [.str ⟨#[98]⟩, .tup [], .bl true], .tup [.str ⟨#[99]⟩, .tup [.str ⟨#[97]⟩, .str ⟨#[98]⟩], .bl false], .tup [.str ⟨#[100]⟩, .tup [.str ⟨#[99]⟩], .bl true], .tup [.str ⟨#[101]⟩, .tup [], .bl true]], .tup [.str ⟨#[100]⟩]]), some (.tup [.str ⟨#[97]⟩, .str ⟨#[98]⟩, .str ⟨#[99]⟩, .str ⟨#[100]⟩, .str ⟨#[101]⟩]), some (.tup [.str ⟨#[98]⟩, .str ⟨#[101]⟩, .str ⟨#[97]⟩, .str ⟨#[99]⟩, .str ⟨#[100]⟩]), some (.tup [.tup [.str ⟨#[97]⟩, .int (4)], .tup [.str ⟨#[98]⟩, .int (6)], .tup [.str ⟨#[100]⟩, .int (3)], .tup [.str ⟨#[101]⟩, .int (9)]]), some (.int (10000000000000000000000000000000000000000)), some (.ref 6), some (.ref 9), some (.tup [.str ⟨#[97]⟩, .str ⟨#[98]⟩, .str ⟨#[99]⟩, .str ⟨#[100]⟩, .str ⟨#[101]⟩, .str ⟨#[102]⟩, .str ⟨#[103]⟩, .str ⟨#[104]⟩]), none, none, none, none, none, none, none, none, none]
def hh7 : IH := [.lst [.tup [], .tup [], .tup [.str ⟨#[98]⟩], .tup [.str ⟨#[98]⟩], .tup [.str ⟨#[98]⟩], .tup [.str ⟨#[97]⟩, .str ⟨#[98]⟩], .tup [.str ⟨#[97]⟩, .str ⟨#[98]⟩], .tup [.str ⟨#[97]⟩, .str ⟨#[98]⟩, .str ⟨#[100]⟩], .non, .non], .lst [.ref 0], .lst [.tup [], .tup [], .tup [.str ⟨#[98]⟩], .tup [.str ⟨#[98]⟩], .tup [.str ⟨#[98]⟩], .tup [.str ⟨#[97]⟩, .str ⟨#[98]⟩], .tup [.str ⟨#[97]⟩, .str ⟨#[98]⟩], .tup [.str ⟨#[97]⟩, .str ⟨#[98]⟩, .str ⟨#[100]⟩], .non, .non], .lst [.ref 2], .lst [.tup [], .tup [.str ⟨#[100]⟩], .tup [.str ⟨#[100]⟩], .tup [.str ⟨#[97]⟩, .str ⟨#[98]⟩], .tup [.str ⟨#[97]⟩, .str ⟨#[98]⟩, .str ⟨#[100]⟩]], .lst [.ref 4], .lst [.ref 0, .ref 4], .lst [.tup [], .tup [.str ⟨#[100]⟩], .tup [.str ⟨#[100]⟩], .tup [.str ⟨#[97]⟩, .str ⟨#[98]⟩], .tup [.str ⟨#[97]⟩, .str ⟨#[98]⟩, .str ⟨#[100]⟩]], .lst [.ref 7], .lst [.ref 2, .ref 7]]
def he8 : Iv.Env := [some (.tup [.tup [.tup [.str ⟨#[97]⟩, .tup [], .bl true], .tup [.str ⟨#[98]⟩, .tup [], .bl true], .tup [.str ⟨#[99]⟩, .tup [.str ⟨#[97]⟩, .str ⟨#[98]⟩], .bl false], .tup [.str ⟨#[100]⟩, .tup [.str ⟨#[99]⟩], .bl true], .tup [.str ⟨#[101]⟩, .tup [], .bl true]], .tup [.str ⟨#[100]⟩]]), some (.tup [.str ⟨#[97]⟩, .str ⟨#[98]⟩, .str ⟨#[99]⟩, .str ⟨#[100]⟩, .str ⟨#[101]⟩]), some (.tup [.str ⟨#[98]⟩, .str ⟨#[101]⟩, .str ⟨#[97]⟩, .str ⟨#[99]⟩, .str ⟨#[100]⟩]), some (.tup [.tup [.str ⟨#[97]⟩, .int (4)], .tup [.str ⟨#[98]⟩, .int (6)], .tup [.str ⟨#[100]⟩, .int (3)], .tup [.str ⟨#[101]⟩, .int (9)]]), some (.int (10000000000000000000000000000000000000000)), some (.ref 6), some (.ref 9), some (.tup [.str ⟨#[97]⟩, .str ⟨#[98]⟩, .str ⟨#[99]⟩, .str ⟨#[100]⟩, .str ⟨#[101]⟩, .str ⟨#[102]⟩, .str ⟨#[103]⟩, .str ⟨#[104]⟩]), some (.tup [.tup [.tup [.str ⟨#[97]⟩, .tup [], .bl true], .tup [.str ⟨#[98]⟩, .tup [.str ⟨#[97]⟩], .bl true], .tup [.str ⟨#[99]⟩, .tup [.str ⟨#[98]⟩], .bl true], .tup [.str ⟨#[100]⟩, .tup [.str ⟨#[99]⟩], .bl true], .tup [.str ⟨#[101]⟩, .tup [.str ⟨#[100]⟩], .bl true], .tup [.str ⟨#[102]⟩, .tup [.str ⟨#[101]⟩], .bl true], .tup [.str ⟨#[103]⟩, .tup [.str ⟨#[102]⟩], .bl true], .tup [.str ⟨#[104]⟩, .tup [.str ⟨#[103]⟩], .bl true]], .tup [.str ⟨#[104]⟩]]), none, none, none, none, none, none, none, none]
def hh8 : IH := [.lst [.tup [], .tup [], .tup [.str ⟨#[98]⟩], .tup [.str ⟨#[98]⟩], .tup [.str ⟨#[98]⟩], .tup [.str ⟨#[97]⟩, .str ⟨#[98]⟩], .tup [.str ⟨#[97]⟩, .str ⟨#[98]⟩], .tup [.str ⟨#[97]⟩, .str ⟨#[98]⟩, .str ⟨#[100]⟩], .non, .non], .lst [.ref 0], .lst [.tup [], .tup [], .tup [.str ⟨#[98]⟩], .tup [.str ⟨#[98]⟩], .tup [.str ⟨#[98]⟩], .tup [.str ⟨#[97]⟩, .str ⟨#[98]⟩], .tup [.str ⟨#[97]⟩, .str ⟨#[98]⟩], .tup [.str ⟨#[97]⟩, .str ⟨#[98]⟩, .str ⟨#[100]⟩], .non, .non], .lst [.ref 2], .lst [.tup [], .tup [.str ⟨#[100]⟩], .tup [.str ⟨#[100]⟩], .tup [.str ⟨#[97]⟩, .str ⟨#[98]⟩], .tup [.str ⟨#[97]⟩, .str ⟨#[98]⟩, .str ⟨#[100]⟩]], .lst [.ref 4], .lst [.ref 0, .ref 4], .lst [.tup [], .tup [.str ⟨#[100]⟩], .tup [.str ⟨#[100]⟩], .tup [.str ⟨#[97]⟩, .str ⟨#[98]⟩], .tup [.str ⟨#[97]⟩, .str ⟨#[98]⟩, .str ⟨#[100]⟩]], .lst [.ref 7], .lst [.ref 2, .ref 7], .lst [.tup [.str ⟨#[97]⟩, .tup [], .bl true], .tup [.str ⟨#[98]⟩, .tup [.str ⟨#[97]⟩], .bl true], .tup [.str ⟨#[99]⟩, .tup [.str ⟨#[98]⟩], .bl true], .tup [.str ⟨#[100]⟩, .tup [.str ⟨#[99]⟩], .bl true], .tup [.str ⟨#[101]⟩, .tup [.str ⟨#[100]⟩], .bl true], .tup [.str ⟨#[102]⟩, .tup [.str ⟨#[101]⟩], .bl true], .tup [.str ⟨#[103]⟩, .tup [.str ⟨#[102]⟩], .bl true], .tup [.str ⟨#[104]⟩, .tup [.str ⟨#[103]⟩], .bl true]]]
def he9 : Iv.Env := [some (.tup [.tup [.tup [.str ⟨#[97]⟩, .tup [], .bl true], .tup [.str ⟨#[98]⟩, .tup [], .bl true], .tup [.str ⟨#[99]⟩, .tup [.str ⟨#[97]⟩, .str ⟨#[98]⟩], .bl false], .tup [.str ⟨#[100]⟩, .tup [.str ⟨#[99]⟩], .bl true], .tup [.str ⟨#[101]⟩, .tup [], .bl true]], .tup [.str ⟨#[100]⟩]]), some (.tup [.str ⟨#[97]⟩, .str ⟨#[98]⟩, .str ⟨#[99]⟩, .str ⟨#[100]⟩, .str ⟨#[101]⟩]), some (.tup [.str ⟨#[98]⟩, .str ⟨#[101]⟩, .str ⟨#[97]⟩, .str ⟨#[99]⟩, .str ⟨#[100]⟩]), some (.tup [.tup [.str ⟨#[97]⟩, .int (4)], .tup [.str ⟨#[98]⟩, .int (6)], .tup [.str ⟨#[100]⟩, .int (3)], .tup [.str ⟨#[101]⟩, .int (9)]]), some (.int (10000000000000000000000000000000000000000)), some (.ref 6), some (.ref 9), some (.tup [.str ⟨#[97]⟩, .str ⟨#[98]⟩, .str ⟨#[99]⟩, .str ⟨#[100]⟩, .str ⟨#[101]⟩, .str ⟨#[102]⟩, .str ⟨#[103]⟩, .str ⟨#[104]⟩]), some (.tup [.tup [.tup [.str ⟨#[97]⟩, .tup [], .bl true], .tup [.str ⟨#[98]⟩, .tup [.str ⟨#[97]⟩], .bl true], .tup [.str ⟨#[99]⟩, .tup [.str ⟨#[98]⟩], .bl true], .tup [.str ⟨#[100]⟩, .tup [.str ⟨#[99]⟩], .bl true], .tup [.str ⟨#[101]⟩, .tup [.str ⟨#[100]⟩], .bl true], .tup [.str ⟨#[102]⟩, .tup [.str ⟨#[101]⟩], .bl true], .tup [.str ⟨#[103]⟩, .tup [.str ⟨#[102]⟩], .bl true], .tup [.str ⟨#[104]⟩, .tup [.str ⟨#[103]⟩], .bl true]], .tup [.str ⟨#[104]⟩]]), some (.int (9999999999999999999999999999999999999990)), none, none, none, none, none, none, none]
def hh9 : IH := [.lst [.tup [], .tup [], .tup [.str ⟨#[98]⟩], .tup [.str ⟨#[98]⟩], .tup [.str ⟨#[98]⟩], .tup [.str ⟨#[97]⟩, .str ⟨#[98]⟩], .tup [.str ⟨#[97]⟩, .str ⟨#[98]⟩], .tup [.str ⟨#[97]⟩, .str ⟨#[98]⟩, .str ⟨#[100]⟩], .non, .non], .lst [.ref 0], .lst [.tup [], .tup [], .tup [.str ⟨#[98]⟩], .tup [.str ⟨#[98]⟩], .tup [.str ⟨#[98]⟩], .tup [.str ⟨#[97]⟩, .str ⟨#[98]⟩], .tup [.str ⟨#[97]⟩, .str ⟨#[98]⟩], .tup [.str ⟨#[97]⟩, .str ⟨#[98]⟩, .str ⟨#[100]⟩], .non, .non], .lst [.ref 2], .lst [.tup [], .tup [.str ⟨#[100]⟩], .tup [.str ⟨#[100]⟩], .tup [.str ⟨#[97]⟩, .str ⟨#[98]⟩], .tup [.str ⟨#[97]⟩, .str ⟨#[98]⟩, .str ⟨#[100]⟩]], .lst [.ref 4], .lst [.ref 0, .ref 4], .lst [.tup [], .tup [.str ⟨#[100]⟩], .tup [.str ⟨#[100]⟩], .tup [.str ⟨#[97]⟩, .str ⟨#[98]⟩], .tup [.str ⟨#[97]⟩, .str ⟨#[98]⟩, .str ⟨#[100]⟩]], .lst [.ref 7], .lst [.ref 2, .ref 7], .lst [.tup [.str ⟨#[97]⟩, .tup [], .bl true], .tup [.str ⟨#[98]⟩, .tup [.str ⟨#[97]⟩], .bl true], .tup [.str ⟨#[99]⟩, .tup [.str ⟨#[98]⟩], .bl true], .tup [.str ⟨#[100]⟩, .tup [.str ⟨#[99]⟩], .bl true], .tup [.str ⟨#[101]⟩, .tup [.str ⟨#[100]⟩], .bl true], .tup [.str ⟨#[102]⟩, .tup [.str ⟨#[101]⟩], .bl true], .tup [.str ⟨#[103]⟩, .tup [.str ⟨#[102]⟩], .bl true], .tup [.str ⟨#[104]⟩, .tup [.str ⟨#[103]⟩], .bl true]]]
def he10 : Iv.Env := [some (.tup [.tup [.tup [.str ⟨#[97]⟩, .tup [], .bl true], .tup [.str ⟨#[98]⟩, .tup [], .bl true], .tup [.str ⟨#[99]⟩, .tup [.str ⟨#[97]⟩, .str ⟨#[98]⟩], .bl false], .tup [.str ⟨#[100]⟩, .tup [.str ⟨#[99]⟩], .bl true], .tup [.str ⟨#[101]⟩, .tup [], .bl true]], .tup [.str ⟨#[100]⟩]]), some (.tup [.str ⟨#[97]⟩, .str ⟨#[98]⟩, .str ⟨#[99]⟩, .str ⟨#[100]⟩, .str ⟨#[101]⟩]), some (.tup [.str ⟨#[98]⟩, .str ⟨#[101]⟩, .str ⟨#[97]⟩, .str ⟨#[99]⟩, .str ⟨#[100]⟩]), some (.tup [.tup [.str ⟨#[97]⟩, .int (4)], .tup [.str ⟨#[98]⟩, .int (6)], .tup [.str ⟨#[100]⟩, .int (3)], .tup [.str ⟨#[101]⟩, .int (9)]]), some (.int (10000000000000000000000000000000000000000)), some (.ref 6), some (.ref 9), some (.tup [.str ⟨#[97]⟩, .str ⟨#[98]⟩, .str ⟨#[99]⟩, .str ⟨#[100]⟩, .str ⟨#[101]⟩, .str ⟨#[102]⟩, .str ⟨#[103]⟩, .str ⟨#[104]⟩]), some (.tup [.tup [.tup [.str ⟨#[97]⟩, .tup [], .bl true], .tup [.str ⟨#[98]⟩, .tup [.str ⟨#[97]⟩], .bl true], .tup [.str ⟨#[99]⟩, .tup [.str ⟨#[98]⟩], .bl true], .tup [.str ⟨#[100]⟩, .tup [.str ⟨#[99]⟩], .bl true], .tup [.str ⟨#[101]⟩, .tup [.str ⟨#[100]⟩], .bl true], .tup [.str ⟨#[102]⟩, .tup [.str ⟨#[101]⟩], .bl true], .tup [.str ⟨#[103]⟩, .tup [.str ⟨#[102]⟩], .bl true], .tup [.str ⟨#[104]⟩, .tup [.str ⟨#[103]⟩], .bl true]], .tup [.str ⟨#[104]⟩]]), some (.int (9999999999999999999999999999999999999990)), some (.tup [.tup [.str ⟨#[97]⟩, .int (9999999999999999999999999999999999999990)], .tup [.str ⟨#[98]⟩, .int (9999999999999999999999999999999999999990)], .tup [.str ⟨#[99]⟩, .int (9999999999999999999999999999999999999990)], .tup [.str ⟨#[100]⟩, .int (9999999999999999999999999999999999999990)], .tup [.str ⟨#[101]⟩, .int (9999999999999999999999999999999999999990)], .tup [.str ⟨#[102]⟩, .int (9999999999999999999999999999999999999990)], .tup [.str ⟨#[103]⟩, .int (9999999999999999999999999999999999999990)], .tup [.str ⟨#[104]⟩, .int (9999999999999999999999999999999999999990)]]), none, none, none, none, none, none]
def hh10 : IH := [.lst [.tup [], .tup [], .tup [.str ⟨#[98]⟩], .tup [.str ⟨#[98]⟩], .tup [.str ⟨#[98]⟩], .tup [.str ⟨#[97]⟩, .str ⟨#[98]⟩], .tup [.str ⟨#[97]⟩, .str ⟨#[98]⟩], .tup [.str ⟨#[97]⟩, .str ⟨#[98]⟩, .str ⟨#[100]⟩], .non, .non], .lst [.ref 0], .lst [.tup [], .tup [], .tup [.str ⟨#[98]⟩], .tup [.str ⟨#[98]⟩], .tup [.str ⟨#[98]⟩], .tup [.str ⟨#[97]⟩, .str ⟨#[98]⟩], .tup [.str ⟨#[97]⟩, .str ⟨#[98]⟩], .tup [.str ⟨#[97]⟩, .str ⟨#[98]⟩, .str ⟨#[100]⟩], .non, .non], .lst [.ref 2], .lst [.tup [], .tup [.str ⟨#[100]⟩], .tup [.str ⟨#[100]⟩], .tup [.str ⟨#[97]⟩, .str ⟨#[98]⟩], .tup [.str ⟨#[97]⟩, .str ⟨#[98]⟩, .str ⟨#[100]⟩]], .lst [.ref 4], .lst [.ref 0, .ref 4], .lst [.tup [], .tup [.str ⟨#[100]⟩], .tup [.str ⟨#[100]⟩], .tup [.str ⟨#[97]⟩, .str ⟨#[98]⟩], .tup [.str ⟨#[97]⟩, .str ⟨#[98]⟩, .str ⟨#[100]⟩]], .lst [.ref 7], .lst [.ref 2, .ref 7], .lst [.tup [.str ⟨#[97]⟩, .tup [], .bl true], .tup [.str ⟨#[98]⟩, .tup [.str ⟨#[97]⟩], .bl true], .tup [.str ⟨#[99]⟩, .tup [.str ⟨#[98]⟩], .bl true], .tup [.str ⟨#[100]⟩, .tup [.str ⟨#[99]⟩], .bl true], .tup [.str ⟨#[101]⟩, .tup [.str ⟨#[100]⟩], .bl true], .tup [.str ⟨#[102]⟩, .tup [.str ⟨#[101]⟩], .bl true], .tup [.str ⟨#[103]⟩, .tup [.str ⟨#[102]⟩], .bl true], .tup [.str ⟨#[104]⟩, .tup [.str ⟨#[103]⟩], .bl true]], .lst [.tup [.str ⟨#[97]⟩, .int (9999999999999999999999999999999999999990)], .tup [.str ⟨#[98]⟩, .int (9999999999999999999999999999999999999990)], .tup [.str ⟨#[99]⟩, .int (9999999999999999999999999999999999999990)], .tup [.str ⟨#[100]⟩, .int (9999999999999999999999999999999999999990)], .tup [.str ⟨#[101]⟩, .int (9999999999999999999999999999999999999990)], .tup [.str ⟨#[102]⟩, .int (9999999999999999999999999999999999999990)], .tup [.str ⟨#[103]⟩, .int (9999999999999999999999999999999999999990)], .tup [.str ⟨#[104]⟩, .int (9999999999999999999999999999999999999990)]]]
def he11 : Iv.Env := [some (.tup [.tup [.tup [.str ⟨#[97]⟩, .tup [], .bl true], .tup [.str ⟨#[98]⟩, .tup [], .bl true], .tup [.str ⟨#[99]⟩, .tup [.str ⟨#[97]⟩, .str ⟨#[98]⟩], .bl false], .tup [.str ⟨#[100]⟩, .tup [.str ⟨#[99]⟩], .bl true], .tup [.str ⟨#[101]⟩, .tup [], .bl true]], .tup [.str ⟨#[100]⟩]]), some (.tup [.str ⟨#[97]⟩, .str ⟨#[98]⟩, .str ⟨#[99]⟩, .str ⟨#[100]⟩, .str ⟨#[101]⟩]), some (.tup [.str ⟨#[98]⟩, .str ⟨#[101]⟩, .str ⟨#[97]⟩, .str ⟨#[99]⟩, .str ⟨#[100]⟩]), some (.tup [.tup [.str ⟨#[97]⟩, .int (4)], .tup [.str ⟨#[98]⟩, .int (6)], .tup [.str ⟨#[100]⟩, .int (3)], .tup [.str ⟨#[101]⟩, .int (9)]]), some (.int (10000000000000000000000000000000000000000)), some (.ref 14), some (.ref 9), some (.tup [.str ⟨#[97]⟩, .str ⟨#[98]⟩, .str ⟨#[99]⟩, .str ⟨#[100]⟩, .str ⟨#[101]⟩, .str ⟨#[102]⟩, .str ⟨#[103]⟩, .str ⟨#[104]⟩]), some (.tup [.tup [.tup [.str ⟨#[97]⟩, .tup [], .bl true], .tup [.str ⟨#[98]⟩, .tup [.str ⟨#[97]⟩], .bl true], .tup [.str ⟨#[99]⟩, .tup [.str ⟨#[98]⟩], .bl true], .tup [.str ⟨#[100]⟩, .tup [.str ⟨#[99]⟩], .bl true], .tup [.str ⟨#[101]⟩, .tup [.str ⟨#[100]⟩], .bl true], .tup [.str ⟨#[102]⟩, .tup [.str ⟨#[101]⟩], .bl true], .tup [.str ⟨#[103]⟩, .tup [.str ⟨#[102]⟩], .bl true], .tup [.str ⟨#[104]⟩, .tup [.str ⟨#[103]⟩], .bl true]], .tup [.str ⟨#[104]⟩]]), some (.int (9999999999999999999999999999999999999990)), some (.tup [.tup [.str ⟨#[97]⟩, .int (9999999999999999999999999999999999999990)], .tup [.str ⟨#[98]⟩, .int (9999999999999999999999999999999999999990)], .tup [.str ⟨#[99]⟩, .int (9999999999999999999999999999999999999990)], .tup [.str ⟨#[100]⟩, .int (9999999999999999999999999999999999999990)], .tup [.str ⟨#[101]⟩, .int (9999999999999999999999999999999999999990)], .tup [.str ⟨#[102]⟩, .int (9999999999999999999999999999999999999990)], .tup [.str ⟨#[103]⟩, .int (9999999999999999999999999999999999999990)], .tup [.str ⟨#[104]⟩, .int (9999999999999999999999999999999999999990)]]), none, none, none, none, none, none]
def hh11 : IH := [.lst [.tup [], .tup [], .tup [.str ⟨#[98]⟩], .tup [.str ⟨#[98]⟩], .tup [.str ⟨#[98]⟩], .tup [.str ⟨#[97]⟩, .str ⟨#[98]⟩], .tup [.str ⟨#[97]⟩, .str ⟨#[98]⟩], .tup [.str ⟨#[97]⟩, .str ⟨#[98]⟩, .str ⟨#[100]⟩], .non, .non], .lst [.ref 0], .lst [.tup [], .tup [], .tup [.str ⟨#[98]⟩], .tup [.str ⟨#[98]⟩], .tup [.str ⟨#[98]⟩], .tup [.str ⟨#[97]⟩, .str ⟨#[98]⟩], .tup [.str ⟨#[97]⟩, .str ⟨#[98]⟩], .tup [.str ⟨#[97]⟩, .str ⟨#[98]⟩, .str ⟨#[100]⟩], .non, .non], .lst [.ref 2], .lst [.tup [], .tup [.str ⟨#[100]⟩], .tup [.str ⟨#[100]⟩], .tup [.str ⟨#[97]⟩, .str ⟨#[98]⟩], .tup [.str ⟨#[97]⟩, .str ⟨#[98]⟩, .str ⟨#[100]⟩]], .lst [.ref 4], .lst [.ref 0, .ref 4], .lst [.tup [], .tup [.str ⟨#[100]⟩], .tup [.str ⟨#[100]⟩], .tup [.str ⟨#[97]⟩, .str ⟨#[98]⟩], .tup [.str ⟨#[97]⟩, .str ⟨#[98]⟩, .str ⟨#[100]⟩]], .lst [.ref 7], .lst [.ref 2, .ref 7], .lst [.tup [.str ⟨#[97]⟩, .tup [], .bl true], .tup [.str ⟨#[98]⟩, .tup [.str ⟨#[97]⟩], .bl true], .tup [.str ⟨#[99]⟩, .tup [.str ⟨#[98]⟩], .bl true], .tup [.str ⟨#[100]⟩, .tup [.str ⟨#[99]⟩], .bl true], .tup [.str ⟨#[101]⟩, .tup [.str ⟨#[100]⟩], .bl true], .tup [.str ⟨#[102]⟩, .tup [.str ⟨#[101]⟩], .bl true], .tup [.str ⟨#[103]⟩, .tup [.str ⟨#[102]⟩], .bl true], .tup [.str ⟨#[104]⟩, .tup [.str ⟨#[103]⟩], .bl true]], .lst [.tup [.str ⟨#[97]⟩, .int (9999999999999999999999999999999999999990)], .tup [.str ⟨#[98]⟩, .int (9999999999999999999999999999999999999990)], .tup [.str ⟨#[99]⟩, .int (9999999999999999999999999999999999999990)], .tup [.str ⟨#[100]⟩, .int (9999999999999999999999999999999999999990)], .tup [.str ⟨#[101]⟩, .int (9999999999999999999999999999999999999990)], .tup [.str ⟨#[102]⟩, .int (9999999999999999999999999999999999999990)], .tup [.str ⟨#[103]⟩, .int (9999999999999999999999999999999999999990)], .tup [.str ⟨#[104]⟩, .int (9999999999999999999999999999999999999990)]], .lst [.tup [.str ⟨#[97]⟩, .str ⟨#[98]⟩, .str ⟨#[99]⟩, .str ⟨#[100]⟩, .str ⟨#[101]⟩, .str ⟨#[102]⟩, .str ⟨#[103]⟩, .str ⟨#[104]⟩], .non, .tup [.str ⟨#[97]⟩, .str ⟨#[98]⟩, .str ⟨#[99]⟩, .str ⟨#[100]⟩, .str ⟨#[101]⟩, .str ⟨#[102]⟩, .str ⟨#[103]⟩, .str ⟨#[104]⟩], .tup [.str ⟨#[97]⟩, .str ⟨#[98]⟩, .str ⟨#[99]⟩, .str ⟨#[100]⟩, .str ⟨#[101]⟩, .str ⟨#[102]⟩, .str ⟨#[103]⟩, .str ⟨#[104]⟩], .tup [.str ⟨#[97]⟩, .str ⟨#[98]⟩, .str ⟨#[99]⟩, .str ⟨#[100]⟩, .str ⟨#[101]⟩, .str ⟨#[102]⟩, .str ⟨#[103]⟩]], .lst [.ref 12], .lst [.ref 0, .ref 4, .ref 12]]
def he12 : Iv.Env := [some (.tup [.tup [.tup [.str ⟨#[97]⟩, .tup [], .bl true], .tup [.str ⟨#[98]⟩, .tup [], .bl true], .tup [.str ⟨#[99]⟩, .tup [.str ⟨#[97]⟩, .str ⟨#[98]⟩], .bl false], .tup [.str ⟨#[100]⟩, .tup [.str ⟨#[99]⟩], .bl true], .tup [.str ⟨#[101]⟩, .tup [], .bl true]], .tup [.str ⟨#[100]⟩]]), some (.tup [.str ⟨#[97]⟩, .str ⟨#[98]⟩, .str ⟨#[99]⟩, .str ⟨#[100]⟩, .str ⟨#[101]⟩]), some (.tup [.str ⟨#[98]⟩, .str ⟨#[101]⟩, .str ⟨#[97]⟩, .str ⟨#[99]⟩, .str ⟨#[100]⟩]), some (.tup [.tup [.str ⟨#[97]⟩, .int (4)], .tup [.str ⟨#[98]⟩, .int (6)], .tup [.str ⟨#[100]⟩, .int (3)], .tup [.str ⟨#[101]⟩, .int (9)]]), some (.int (10000000000000000000000000000000000000000)), some (.ref 14), some (.ref 17), some (.tup [.str ⟨#[97]⟩, .str ⟨#[98]⟩, .str ⟨#[99]⟩, .str ⟨#[100]⟩, .str ⟨#[101]⟩, .str ⟨#[102]⟩, .str ⟨#[103]⟩, .str ⟨#[104]⟩]), some (.tup [.tup [.tup [.str ⟨#[97]⟩, .tup [], .bl true], .tup [.str ⟨#[98]⟩, .tup [.str ⟨#[97]⟩], .bl true], .tup [.str ⟨#[99]⟩, .tup [.str ⟨#[98]⟩], .bl true], .tup [.str ⟨#[100]⟩, .tup [.str ⟨#[99]⟩], .bl true], .tup [.str ⟨#[101]⟩, .tup [.str ⟨#[100]⟩], .bl true], .tup [.str ⟨#[102]⟩, .tup [.str ⟨#[101]⟩], .bl true], .tup [.str ⟨#[103]⟩, .tup [.str ⟨#[102]⟩], .bl true], .tup [.str ⟨#[104]⟩, .tup [.str ⟨#[103]⟩], .bl true]], .tup [.str ⟨#[104]⟩]]), some (.int (9999999999999999999999999999999999999990)), some (.tup [.tup [.str ⟨#[97]⟩, .int (9999999999999999999999999999999999999990)], .tup [.str ⟨#[98]⟩, .int (9999999999999999999999999999999999999990)], .tup [.str ⟨#[99]⟩, .int (9999999999999999999999999999999999999990)], .tup [.str ⟨#[100]⟩, .int (9999999999999999999999999999999999999990)], .tup [.str ⟨#[101]⟩, .int (9999999999999999999999999999999999999990)], .tup [.str ⟨#[102]⟩, .int (9999999999999999999999999999999999999990)], .tup [.str ⟨#[103]⟩, .int (9999999999999999999999999999999999999990)], .tup [.str ⟨#[104]⟩, .int (9999999999999999999999999999999999999990)]]), none, none, none, none, none, none]
def hh12 : IH := [.lst [.tup [], .tup [], .tup [.str ⟨#[98]⟩], .tup [.str ⟨#[98]⟩], .tup [.str ⟨#[98]⟩], .tup [.str ⟨#[97]⟩, .str ⟨#[98]⟩], .tup [.str ⟨#[97]⟩, .str ⟨#[98]⟩], .tup [.str ⟨#[97]⟩, .str ⟨#[98]⟩, .str ⟨#[100]⟩], .non, .non], .lst [.ref 0], .lst [.tup [], .tup [], .tup [.str ⟨#[98]⟩], .tup [.str ⟨#[98]⟩], .tup [.str ⟨#[98]⟩], .tup [.str ⟨#[97]⟩, .str ⟨#[98]⟩], .tup [.str ⟨#[97]⟩, .str ⟨#[98]⟩], .tup [.str ⟨#[97]⟩, .str ⟨#[98]⟩, .str ⟨#[100]⟩], .non, .non], .lst [.ref 2], .lst [.tup [], .tup [.str ⟨#[100]⟩], .tup [.str ⟨#[100]⟩], .tup [.str ⟨#[97]⟩, .str ⟨#[98]⟩], .tup [.str ⟨#[97]⟩, .str ⟨#[98]⟩, .str ⟨#[100]⟩]], .lst [.ref 4], .lst [.ref 0, .ref 4], .lst [.tup [], .tup [.str ⟨#[100]⟩], .tup [.str ⟨#[100]⟩], .tup [.str ⟨#[97]⟩, .str ⟨#[98]⟩], .tup [.str ⟨#[97]⟩, .str ⟨#[98]⟩, .str ⟨#[100]⟩]], .lst [.ref 7], .lst [.ref 2, .ref 7], .lst [.tup [.str ⟨#[97]⟩, .tup [], .bl true], .tup [.str ⟨#[98]⟩, .tup [.str ⟨#[97]⟩], .bl true], .tup [.str ⟨#[99]⟩, .tup [.str ⟨#[98]⟩], .bl true], .tup [.str ⟨#[100]⟩, .tup [.str ⟨#[99]⟩], .bl true], .tup [.str ⟨#[101]⟩, .tup [.str ⟨#[100]⟩], .bl true], .tup [.str ⟨#[102]⟩, .tup [.str ⟨#[101]⟩], .bl true], .tup [.str ⟨#[103]⟩, .tup [.str ⟨#[102]⟩], .bl true], .tup [.str ⟨#[104]⟩, .tup [.str ⟨#[103]⟩], .bl true]], .lst [.tup [.str ⟨#[97]⟩, .int (9999999999999999999999999999999999999990)], .tup [.str ⟨#[98]⟩, .int (9999999999999999999999999999999999999990)], .tup [.str ⟨#[99]⟩, .int (9999999999999999999999999999999999999990)], .tup [.str ⟨#[100]⟩, .int (9999999999999999999999999999999999999990)], .tup [.str ⟨#[101]⟩, .int (9999999999999999999999999999999999999990)], .tup [.str ⟨#[102]⟩, .int (9999999999999999999999999999999999999990)], .tup [.str ⟨#[103]⟩, .int (9999999999999999999999999999999999999990)], .tup [.str ⟨#[104]⟩, .int (9999999999999999999999999999999999999990)]], .lst [.tup [.str ⟨#[97]⟩, .str ⟨#[98]⟩, .str ⟨#[99]⟩, .str ⟨#[100]⟩, .str ⟨#[101]⟩, .str ⟨#[102]⟩, .str ⟨#[103]⟩, .str ⟨#[104]⟩], .non, .tup [.str ⟨#[97]⟩, .str ⟨#[98]⟩, .str ⟨#[99]⟩, .str ⟨#[100]⟩, .str ⟨#[101]⟩, .str ⟨#[102]⟩, .str ⟨#[103]⟩, .str ⟨#[104]⟩], .tup [.str ⟨#[97]⟩, .str ⟨#[98]⟩, .str ⟨#[99]⟩, .str ⟨#[100]⟩, .str ⟨#[101]⟩, .str ⟨#[102]⟩, .str ⟨#[103]⟩, .str ⟨#[104]⟩], .tup [.str ⟨#[97]⟩, .str ⟨#[98]⟩, .str ⟨#[99]⟩, .str ⟨#[100]⟩, .str ⟨#[101]⟩, .str ⟨#[102]⟩, .str ⟨#[103]⟩]], .lst [.ref 12], .lst [.ref 0, .ref 4, .ref 12], .lst [.tup [.str ⟨#[97]⟩, .str ⟨#[98]⟩, .str ⟨#[99]⟩, .str ⟨#[100]⟩, .str ⟨#[101]⟩, .str ⟨#[102]⟩, .str ⟨#[103]⟩, .str ⟨#[104]⟩], .non, .tup [.str ⟨#[97]⟩, .str ⟨#[98]⟩, .str ⟨#[99]⟩, .str ⟨#[100]⟩, .str ⟨#[101]⟩, .str ⟨#[102]⟩, .str ⟨#[103]⟩, .str ⟨#[104]⟩], .tup [.str ⟨#[97]⟩, .str ⟨#[98]⟩, .str ⟨#[99]⟩, .str ⟨#[100]⟩, .str ⟨#[101]⟩, .str ⟨#[102]⟩, .str ⟨#[103]⟩, .str ⟨#[104]⟩], .tup [.str ⟨#[97]⟩, .str ⟨#[98]⟩, .str ⟨#[99]⟩, .str ⟨#[100]⟩, .str ⟨#[101]⟩, .str ⟨#[102]⟩, .str ⟨#[103]⟩]], .lst [.ref 15], .lst [.ref 2, .ref 7, .ref 15]]
def he13 : Iv.Env := [some (.tup [.tup [.tup [.str ⟨#[97]⟩, .tup [], .bl true], .tup [.str ⟨#[98]⟩, .tup [], .bl true], .tup [.str ⟨#[99]⟩, .tup [.str ⟨#[97]⟩, .str ⟨#[98]⟩], .bl false], .tup [.str ⟨#[100]⟩, .tup [.str ⟨#[99]⟩], .bl true], .tup [.str ⟨#[101]⟩, .tup [], .bl true]], .tup [.str ⟨#[100]⟩]]), some (.tup [.str ⟨#[97]⟩, .str ⟨#[98]⟩, .str ⟨#[99]⟩, .str ⟨#[100]⟩, .str ⟨#[101]⟩]), some (.tup [.str ⟨#[98]⟩, .str ⟨#[101]⟩, .str ⟨#[97]⟩, .str ⟨#[99]⟩, .str ⟨#[100]⟩]), some (.tup [.tup [.str ⟨#[97]⟩, .int (4)], .tup [.str ⟨#[98]⟩, .int (6)], .tup [.str ⟨#[100]⟩, .int (3)], .tup [.str ⟨#[101]⟩, .int (9)]]), some (.int (10000000000000000000000000000000000000000)), some (.ref 14), some (.ref 17), some (.tup [.str ⟨#[97]⟩, .str ⟨#[98]⟩, .str ⟨#[99]⟩, .str ⟨#[100]⟩, .str ⟨#[101]⟩, .str ⟨#[102]⟩, .str ⟨#[103]⟩, .str ⟨#[104]⟩]), some (.tup [.tup [.tup [.str ⟨#[97]⟩, .tup [], .bl true], .tup [.str ⟨#[98]⟩, .tup [.str ⟨#[97]⟩], .bl true], .tup [.str ⟨#[99]⟩, .tup [.str ⟨#[98]⟩], .bl true], .tup [.str ⟨#[100]⟩, .tup [.str ⟨#[99]⟩], .bl true], .tup [.str ⟨#[101]⟩, .tup [.str ⟨#[100]⟩], .bl true], .tup [.str ⟨#[102]⟩, .tup [.str ⟨#[101]⟩], .bl true], .tup [.str ⟨#[103]⟩, .tup [.str ⟨#[102]⟩], .bl true], .tup [.str ⟨#[104]⟩, .tup [.str ⟨#[103]⟩], .bl true]], .tup [.str ⟨#[104]⟩]]), some (.int (9999999999999999999999999999999999999990)), some (.tup [.tup [.str ⟨#[97]⟩, .int (9999999999999999999999999999999999999990)], .tup [.str ⟨#[98]⟩, .int (9999999999999999999999999999999999999990)], .tup [.str ⟨#[99]⟩, .int (9999999999999999999999999999999999999990)], .tup [.str ⟨#[100]⟩, .int (9999999999999999999999999999999999999990)], .tup [.str ⟨#[101]⟩, .int (9999999999999999999999999999999999999990)], .tup [.str ⟨#[102]⟩, .int (9999999999999999999999999999999999999990)], .tup [.str ⟨#[103]⟩, .int (9999999999999999999999999999999999999990)], .tup [.str ⟨#[104]⟩, .int (9999999999999999999999999999999999999990)]]), some (.tup [.tup [.tup [.str ⟨#[97]⟩, .tup [], .bl true], .tup [.str ⟨#[98]⟩, .tup [.str ⟨#[97]⟩], .bl true], .tup [.str ⟨#[99]⟩, .tup [.str ⟨#[98]⟩], .bl false]], .tup []]), none, none, none, none, none]
def hh13 : IH := [.lst [.tup [], .tup [], .tup [.str ⟨#[98]⟩], .tup [.str ⟨#[98]⟩], .tup [.str ⟨#[98]⟩], .tup [.str ⟨#[97]⟩, .str ⟨#[98]⟩], .tup [.str ⟨#[97]⟩, .str ⟨#[98]⟩], .tup [.str ⟨#[97]⟩, .str ⟨#[98]⟩, .str ⟨#[100]⟩], .non, .non], .lst [.ref 0], .lst [.tup [], .tup [], .tup [.str ⟨#[98]⟩], .tup [.str ⟨#[98]⟩], .tup [.str ⟨#[98]⟩], .tup [.str ⟨#[97]⟩, .str ⟨#[98]⟩], .tup [.str ⟨#[97]⟩, .str ⟨#[98]⟩], .tup [.str ⟨#[97]⟩, .str ⟨#[98]⟩, .str ⟨#[100]⟩], .non, .non], .lst [.ref 2], .lst [.tup [], .tup [.str ⟨#[100]⟩], .tup [.str ⟨#[100]⟩], .tup [.str ⟨#[97]⟩, .str ⟨#[98]⟩], .tup [.str ⟨#[97]⟩, .str ⟨#[98]⟩, .str ⟨#[100]⟩]], .lst [.ref 4], .lst [.ref 0, .ref 4], .lst [.tup [], .tup [.str ⟨#[100]⟩], .tup [.str ⟨#[100]⟩], .tup [.str ⟨#[97]⟩, .str ⟨#[98]⟩], .tup [.str ⟨#[97]⟩, .str ⟨#[98]⟩, .str ⟨#[100]⟩]], .lst [.ref 7], .lst [.ref 2, .ref 7], .lst [.tup [.str ⟨#[97]⟩, .tup [], .bl true], .tup [.str ⟨#[98]⟩, .tup [.str ⟨#[97]⟩], .bl true], .tup [.str ⟨#[99]⟩, .tup [.str ⟨#[98]⟩], .bl true], .tup [.str ⟨#[100]⟩, .tup [.str ⟨#[99]⟩], .bl true], .tup [.str ⟨#[101]⟩, .tup [.str ⟨#[100]⟩], .bl true], .tup [.str ⟨#[102]⟩, .tup [.str ⟨#[101]⟩], .bl true], .tup [.str ⟨#[103]⟩, .tup [.str ⟨#[102]⟩], .bl true], .tup [.str ⟨#[104]⟩, .tup [.str ⟨#[103]⟩], .bl true]], .lst [.tup [.str ⟨#[97]⟩, .int (9999999999999999999999999999999999999990)], .tup [.str ⟨#[98]⟩, .int (9999999999999999999999999999999999999990)], .tup [.str ⟨#[99]⟩, .int (9999999999999999999999999999999999999990)], .tup [.str ⟨#[100]⟩, .int (9999999999999999999999999999999999999990)], .tup [.str ⟨#[101]⟩, .int (9999999999999999999999999999999999999990)], .tup [.str ⟨#[102]⟩, .int (9999999999999999999999999999999999999990)], .tup [.str ⟨#[103]⟩, .int (9999999999999999999999999999999999999990)], .tup [.str ⟨#[104]⟩, .int (9999999999999999999999999999999999999990)]], .lst [.tup [.str ⟨#[97]⟩, .str ⟨#[98]⟩, .str ⟨#[99]⟩, .str ⟨#[100]⟩, .str ⟨#[101]⟩, .str ⟨#[102]⟩, .str ⟨#[103]⟩, .str ⟨#[104]⟩], .non, .tup [.str ⟨#[97]⟩, .str ⟨#[98]⟩, .str ⟨#[99]⟩, .str ⟨#[100]⟩, .str ⟨#[101]⟩, .str ⟨#[102]⟩, .str ⟨#[103]⟩, .str ⟨#[104]⟩], .tup [.str ⟨#[97]⟩, .str ⟨#[98]⟩, .str ⟨#[99]⟩, .str ⟨#[100]⟩, .str ⟨#[101]⟩, .str ⟨#[102]⟩, .str ⟨#[103]⟩, .str ⟨#[104]⟩], .tup [.str ⟨#[97]⟩, .str ⟨#[98]⟩, .str ⟨#[99]⟩, .str ⟨#[100]⟩, .str ⟨#[101]⟩, .str ⟨#[102]⟩, .str ⟨#[103]⟩]], .lst [.ref 12], .lst [.ref 0, .ref 4, .ref 12], .lst [.tup [.str ⟨#[97]⟩, .str ⟨#[98]⟩, .str ⟨#[99]⟩, .str ⟨#[100]⟩, .str ⟨#[101]⟩, .str ⟨#[102]⟩, .str ⟨#[103]⟩, .str ⟨#[104]⟩], .non, .tup [.str ⟨#[97]⟩, .str ⟨#[98]⟩, .str ⟨#[99]⟩, .str ⟨#[100]⟩, .str ⟨#[101]⟩, .str ⟨#[102]⟩, .str ⟨#[103]⟩, .str ⟨#[104]⟩], .tup [.str ⟨#[97]⟩, .str ⟨#[98]⟩, .str ⟨#[99]⟩, .str ⟨#[100]⟩, .str ⟨#[101]⟩, .str ⟨#[102]⟩, .str ⟨#[103]⟩, .str ⟨#[104]⟩], .tup [.str ⟨#[97]⟩, .str ⟨#[98]⟩, .str ⟨#[99]⟩, .str ⟨#[100]⟩, .str ⟨#[101]⟩, .str ⟨#[102]⟩, .str ⟨#[103]⟩]], .lst [.ref 15], .lst [.ref 2, .ref 7, .ref 15]]
def he14 : Iv.Env := [some (.tup [.tup [.tup [.str ⟨#[97]⟩, .tup [], .bl true], .tup [.str ⟨#[98]⟩, .tup [], .bl true], .tup [.str ⟨#[99]⟩, .tup [.str ⟨#[97]⟩, .str ⟨#[98]⟩], .bl false], .tup [.str ⟨#[100]⟩, .tup [.str ⟨#[99]⟩], .bl true], .tup [.str ⟨#[101]⟩, .tup [], .bl true]], .tup [.str ⟨#[100]⟩]]), some (.tup [.str ⟨#[97]⟩, .str ⟨#[98]⟩, .str ⟨#[99]⟩, .str ⟨#[100]⟩, .str ⟨#[101]⟩]), some (.tup [.str ⟨#[98]⟩, .str ⟨#[101]⟩, .str ⟨#[97]⟩, .str ⟨#[99]⟩, .str ⟨#[100]⟩]), some (.tup [.tup [.str ⟨#[97]⟩, .int (4)], .tup [.str ⟨#[98]⟩, .int (6)], .tup [.str ⟨#[100]⟩, .int (3)], .tup [.str ⟨#[101]⟩, .int (9)]]), some (.int (10000000000000000000000000000000000000000)), some (.ref 19), some (.ref 17), some (.tup [.str ⟨#[97]⟩, .str ⟨#[98]⟩, .str ⟨#[99]⟩, .str ⟨#[100]⟩, .str ⟨#[101]⟩, .str ⟨#[102]⟩, .str ⟨#[103]⟩, .str ⟨#[104]⟩]), some (.tup [.tup [.tup [.str ⟨#[97]⟩, .tup [], .bl true], .tup [.str ⟨#[98]⟩, .tup [.str ⟨#[97]⟩], .bl true], .tup [.str ⟨#[99]⟩, .tup [.str ⟨#[98]⟩], .bl true], .tup [.str ⟨#[100]⟩, .tup [.str ⟨#[99]⟩], .bl true], .tup [.str ⟨#[101]⟩, .tup [.str ⟨#[100]⟩], .bl true], .tup [.str ⟨#[102]⟩, .tup [.str ⟨#[101]⟩], .bl true], .tup [.str ⟨#[103]⟩, .tup [.str ⟨#[102]⟩], .bl true], .tup [.str ⟨#[104]⟩, .tup [.str ⟨#[103]⟩], .bl true]], .tup [.str ⟨#[104]⟩]]), some (.int (9999999999999999999999999999999999999990)), some (.tup [.tup [.str ⟨#[97]⟩, .int (9999999999999999999999999999999999999990)], .tup [.str ⟨#[98]⟩, .int (9999999999999999999999999999999999999990)], .tup [.str ⟨#[99]⟩, .int (9999999999999999999999999999999999999990)], .tup [.str ⟨#[100]⟩, .int (9999999999999999999999999999999999999990)], .tup [.str ⟨#[101]⟩, .int (9999999999999999999999999999999999999990)], .tup [.str ⟨#[102]⟩, .int (9999999999999999999999999999999999999990)], .tup [.str ⟨#[103]⟩, .int (9999999999999999999999999999999999999990)], .tup [.str ⟨#[104]⟩, .int (9999999999999999999999999999999999999990)]]), some (.tup [.tup [.tup [.str ⟨#[97]⟩, .tup [], .bl true], .tup [.str ⟨#[98]⟩, .tup [.str ⟨#[97]⟩], .bl true], .tup [.str ⟨#[99]⟩, .tup [.str ⟨#[98]⟩], .bl false]], .tup []]), none, none, none, none, none]
def hh14 : IH := [.lst [.tup [], .tup [], .tup [.str ⟨#[98]⟩], .tup [.str ⟨#[98]⟩], .tup [.str ⟨#[98]⟩], .tup [.str ⟨#[97]⟩, .str ⟨#[98]⟩], .tup [.str ⟨#[97]⟩, .str ⟨#[98]⟩], .tup [.str ⟨#[97]⟩, .str ⟨#[98]⟩, .str ⟨#[100]⟩], .non, .non], .lst [.ref 0], .lst [.tup [], .tup [], .tup [.str ⟨#[98]⟩], .tup [.str ⟨#[98]⟩], .tup [.str ⟨#[98]⟩], .tup [.str ⟨#[97]⟩, .str ⟨#[98]⟩], .tup [.str ⟨#[97]⟩, .str ⟨#[98]⟩], .tup [.str ⟨#[97]⟩, .str ⟨#[98]⟩, .str ⟨#[100]⟩], .non, .non], .lst [.ref 2], .lst [.tup [], .tup [.str ⟨#[100]⟩], .tup [.str ⟨#[100]⟩], .tup [.str ⟨#[97]⟩, .str ⟨#[98]⟩], .tup [.str ⟨#[97]⟩, .str ⟨#[98]⟩, .str ⟨#[100]⟩]], .lst [.ref 4], .lst [.ref 0, .ref 4], .lst [.tup [], .tup [.str ⟨#[100]⟩], .tup [.str ⟨#[100]⟩], .tup [.str ⟨#[97]⟩, .str ⟨#[98]⟩], .tup [.str ⟨#[97]⟩, .str ⟨#[98]⟩, .str ⟨#[100]⟩]], .lst [.ref 7], .lst [.ref 2, .ref 7], .lst [.tup [.str ⟨#[97]⟩, .tup [], .bl true], .tup [.str ⟨#[98]⟩, .tup [.str ⟨#[97]⟩], .bl true], .tup [.str ⟨#[99]⟩, .tup [.str ⟨#[98]⟩], .bl true], .tup [.str ⟨#[100]⟩, .tup [.str ⟨#[99]⟩], .bl true], .tup [.str ⟨#[101]⟩, .tup [.str ⟨#[100]⟩], .bl true], .tup [.str ⟨#[102]⟩, .tup [.str ⟨#[101]⟩], .bl true], .tup [.str ⟨#[103]⟩, .tup [.str ⟨#[102]⟩], .bl true], .tup [.str ⟨#[104]⟩, .tup [.str ⟨#[103]⟩], .bl true]], .lst [.tup [.str ⟨#[97]⟩, .int (9999999999999999999999999999999999999990)], .tup [.str ⟨#[98]⟩, .int (9999999999999999999999999999999999999990)], .tup [.str ⟨#[99]⟩, .int (9999999999999999999999999999999999999990)], .tup [.str ⟨#[100]⟩, .int (9999999999999999999999999999999999999990)], .tup [.str ⟨#[101]⟩, .int (9999999999999999999999999999999999999990)], .tup [.str ⟨#[102]⟩, .int (9999999999999999999999999999999999999990)], .tup [.str ⟨#[103]⟩, .int (9999999999999999999999999999999999999990)], .tup [.str ⟨#[104]⟩, .int (9999999999999999999999999999999999999990)]], .lst [.tup [.str ⟨#[97]⟩, .str ⟨#[98]⟩, .str ⟨#[99]⟩, .str ⟨#[100]⟩, .str ⟨#[101]⟩, .str ⟨#[102]⟩, .str ⟨#[103]⟩, .str ⟨#[104]⟩], .non, .tup [.str ⟨#[97]⟩, .str ⟨#[98]⟩, .str ⟨#[99]⟩, .str ⟨#[100]⟩, .str ⟨#[101]⟩, .str ⟨#[102]⟩, .str ⟨#[103]⟩, .str ⟨#[104]⟩], .tup [.str ⟨#[97]⟩, .str ⟨#[98]⟩, .str ⟨#[99]⟩, .str ⟨#[100]⟩, .str ⟨#[101]⟩, .str ⟨#[102]⟩, .str ⟨#[103]⟩, .str ⟨#[104]⟩], .tup [.str ⟨#[97]⟩, .str ⟨#[98]⟩, .str ⟨#[99]⟩, .str ⟨#[100]⟩, .str ⟨#[101]⟩, .str ⟨#[102]⟩, .str ⟨#[103]⟩]], .lst [.ref 12], .lst [.ref 0, .ref 4, .ref 12], .lst [.tup [.str ⟨#[97]⟩, .str ⟨#[98]⟩, .str ⟨#[99]⟩, .str ⟨#[100]⟩, .str ⟨#[101]⟩, .str ⟨#[102]⟩, .str ⟨#[103]⟩, .str ⟨#[104]⟩], .non, .tup [.str ⟨#[97]⟩, .str ⟨#[98]⟩, .str ⟨#[99]⟩, .str ⟨#[100]⟩, .str ⟨#[101]⟩, .str ⟨#[102]⟩, .str ⟨#[103]⟩, .str ⟨#[104]⟩], .tup [.str ⟨#[97]⟩, .str ⟨#[98]⟩, .str ⟨#[99]⟩, .str ⟨#[100]⟩, .str ⟨#[101]⟩, .str ⟨#[102]⟩, .str ⟨#[103]⟩, .str ⟨#[104]⟩], .tup [.str ⟨#[97]⟩, .str ⟨#[98]⟩, .str ⟨#[99]⟩, .str ⟨#[100]⟩, .str ⟨#[101]⟩, .str ⟨#[102]⟩, .str ⟨#[103]⟩]], .lst [.ref 15], .lst [.ref 2, .ref 7, .ref 15], .lst [.tup [.str ⟨#[98]⟩]], .lst [.ref 0, .ref 4, .ref 12, .tup [.str ⟨#[98]⟩]]]
def he15 : Iv.Env := [some (.tup [.tup [.tup [.str ⟨#[97]⟩, .tup [], .bl true], .tup [.str ⟨#[98]⟩, .tup [], .bl true], .tup [.str ⟨#[99]⟩, .tup [.str ⟨#[97]⟩, .str ⟨#[98]⟩], .bl false], .tup [.str ⟨#[100]⟩, .tup [.str ⟨#[99]⟩], .bl true], .tup [.str ⟨#[101]⟩, .tup [], .bl true]], .tup [.str ⟨#[100]⟩]]), some (.tup [.str ⟨#[97]⟩, .str ⟨#[98]⟩, .str ⟨#[99]⟩, .str ⟨#[100]⟩, .str ⟨#[101]⟩]), some (.tup [.str ⟨#[98]⟩, .str ⟨#[101]⟩, .str ⟨#[97]⟩, .str ⟨#[99]⟩, .str ⟨#[100]⟩]), some (.tup [.tup [.str ⟨#[97]⟩, .int (4)], .tup [.str ⟨#[98]⟩, .int (6)], .tup [.str ⟨#[100]⟩, .int (3)], .tup [.str ⟨#[101]⟩, .int (9)]]), some (.int (10000000000000000000000000000000000000000)), some (.ref 21), some (.ref 17), some (.tup [.str ⟨#[97]⟩, .str ⟨#[98]⟩, .str ⟨#[99]⟩, .str ⟨#[100]⟩, .str ⟨#[101]⟩, .str ⟨#[102]⟩, .str ⟨#[103]⟩, .str ⟨#[104]⟩]), some (.tup [.tup [.tup [.str ⟨#[97]⟩, .tup [], .bl true], .tup [.str ⟨#[98]⟩, .tup [.str ⟨#[97]⟩], .bl true], .tup [.str ⟨#[99]⟩, .tup [.str ⟨#[98]⟩], .bl true], .tup [.str ⟨#[100]⟩, .tup [.str ⟨#[99]⟩], .bl true], .tup [.str ⟨#[101]⟩, .tup [.str ⟨#[100]⟩], .bl true], .tup [.str ⟨#[102]⟩, .tup [.str ⟨#[101]⟩], .bl true], .tup [.str ⟨#[103]⟩, .tup [.str ⟨#[102]⟩], .bl true], .tup [.str ⟨#[104]⟩, .tup [.str ⟨#[103]⟩], .bl true]], .tup [.str ⟨#[104]⟩]]), some (.int (9999999999999999999999999999999999999990)), some (.tup [.tup [.str ⟨#[97]⟩, .int (9999999999999999999999999999999999999990)], .tup [.str ⟨#[98]⟩, .int (9999999999999999999999999999999999999990)], .tup [.str ⟨#[99]⟩, .int (9999999999999999999999999999999999999990)], .tup [.str ⟨#[100]⟩, .int (9999999999999999999999999999999999999990)], .tup [.str ⟨#[101]⟩, .int (9999999999999999999999999999999999999990)], .tup [.str ⟨#[102]⟩, .int (9999999999999999999999999999999999999990)], .tup [.str ⟨#[103]⟩, .int (9999999999999999999999999999999999999990)], .tup [.str ⟨#[104]⟩, .int (9999999999999999999999999999999999999990)]]), some (.tup [.tup [.tup [.str ⟨#[97]⟩, .tup [], .bl true], .tup [.str ⟨#[98]⟩, .tup [.str ⟨#[97]⟩], .bl true], .tup [.str ⟨#[99]⟩, .tup [.str ⟨#[98]⟩], .bl false]], .tup []]), none, none, none, none, none]
def hh15 : IH := [.lst [.tup [], .tup [], .tup [.str ⟨#[98]⟩], .tup [.str ⟨#[98]⟩], .tup [.str ⟨#[98]⟩], .tup [.str ⟨#[97]⟩, .str ⟨#[98]⟩], .tup [.str ⟨#[97]⟩, .str ⟨#[98]⟩], .tup [.str ⟨#[97]⟩, .str ⟨#[98]⟩, .str ⟨#[100]⟩], .non, .non], .lst [.ref 0], .lst [.tup [], .tup [], .tup [.str ⟨#[98]⟩], .tup [.str ⟨#[98]⟩], .tup [.str ⟨#[98]⟩], .tup [.str ⟨#[97]⟩, .str ⟨#[98]⟩], .tup [.str ⟨#[97]⟩, .str ⟨#[98]⟩], .tup [.str ⟨#[97]⟩, .str ⟨#[98]⟩, .str ⟨#[100]⟩], .non, .non], .lst [.ref 2], .lst [.tup [], .tup [.str ⟨#[100]⟩], .tup [.str ⟨#[100]⟩], .tup [.str ⟨#[97]⟩, .str ⟨#[98]⟩], .tup [.str ⟨#[97]⟩, .str ⟨#[98]⟩, .str ⟨#[100]⟩]], .lst [.ref 4], .lst [.ref 0, .ref 4], .lst [.tup [], .tup [.str ⟨#[100]⟩], .tup [.str ⟨#[100]⟩], .tup [.str ⟨#[97]⟩, .str ⟨#[98]⟩], .tup [.str ⟨#[97]⟩, .str ⟨#[98]⟩, .str ⟨#[100]⟩]], .lst [.ref 7], .lst [.ref 2, .ref 7], .lst [.tup [.str ⟨#[97]⟩, .tup [], .bl true], .tup [.str ⟨#[98]⟩, .tup [.str ⟨#[97]⟩], .bl true], .tup [.str ⟨#[99]⟩, .tup [.str ⟨#[98]⟩], .bl true], .tup [.str ⟨#[100]⟩, .tup [.str ⟨#[99]⟩], .bl true], .tup [.str ⟨#[101]⟩, .tup [.str ⟨#[100]⟩], .bl true], .tup [.str ⟨#[102]⟩, .tup [.str ⟨#[101]⟩], .bl true], .tup [.str ⟨#[103]⟩, .tup [.str ⟨#[102]⟩], .bl true], .tup [.str ⟨#[104]⟩, .tup [.str ⟨#[103]⟩], .bl true]], .lst [.tup [.str ⟨#[97]⟩, .int (9999999999999999999999999999999999999990)], .tup [.str ⟨#[98]⟩, .int (9999999999999999999999999999999999999990)], .tup [.str ⟨#[99]⟩, .int (9999999999999999999999999999999999999990)], .tup [.str ⟨#[100]⟩, .int (9999999999999999999999999999999999999990)], .tup [.str ⟨#[101]⟩, .int (9999999999999999999999999999999999999990)], .tup [.str ⟨#[102]⟩, .int (9999999999999999999999999999999999999990)], .tup [.str ⟨#[103]⟩, .int (9999999999999999999999999999999999999990)], .tup [.str ⟨#[104]⟩, .int (9999999999999999999999999999999999999990)]], .lst [.tup [.str ⟨#[97]⟩, .str ⟨#[98]⟩, .str ⟨#[99]⟩, .str ⟨#[100]⟩, .str ⟨#[101]⟩, .str ⟨#[102]⟩, .str ⟨#[103]⟩, .str ⟨#[104]⟩], .non, .tup [.str ⟨#[97]⟩, .str ⟨#[98]⟩, .str ⟨#[99]⟩, .str ⟨#[100]⟩, .str ⟨#[101]⟩, .str ⟨#[102]⟩, .str ⟨#[103]⟩, .str ⟨#[104]⟩], .tup [.str ⟨#[97]⟩, .str ⟨#[98]⟩, .str ⟨#[99]⟩, .str ⟨#[100]⟩, .str ⟨#[101]⟩, .str ⟨#[102]⟩, .str ⟨#[103]⟩, .str ⟨#[104]⟩], .tup [.str ⟨#[97]⟩, .str ⟨#[98]⟩, .str ⟨#[99]⟩, .str ⟨#[100]⟩, .str ⟨#[101]⟩, .str ⟨#[102]⟩, .str ⟨#[103]⟩]], .lst [.ref 12], .lst [.ref 0, .ref 4, .ref 12], .lst [.tup [.str ⟨#[97]⟩, .str ⟨#[98]⟩, .str ⟨#[99]⟩, .str ⟨#[100]⟩, .str ⟨#[101]⟩, .str ⟨#[102]⟩, .str ⟨#[103]⟩, .str ⟨#[104]⟩], .non, .tup [.str ⟨#[97]⟩, .str ⟨#[98]⟩, .str ⟨#[99]⟩, .str ⟨#[100]⟩, .str ⟨#[101]⟩, .str ⟨#[102]⟩, .str ⟨#[103]⟩, .str ⟨#[104]⟩], .tup [.str ⟨#[97]⟩, .str ⟨#[98]⟩, .str ⟨#[99]⟩, .str ⟨#[100]⟩, .str ⟨#[101]⟩, .str ⟨#[102]⟩, .str ⟨#[103]⟩, .str ⟨#[104]⟩], .tup [.str ⟨#[97]⟩, .str ⟨#[98]⟩, .str ⟨#[99]⟩, .str ⟨#[100]⟩, .str ⟨#[101]⟩, .str ⟨#[102]⟩, .str ⟨#[103]⟩]], .lst [.ref 15], .lst [.ref 2, .ref 7, .ref 15], .lst [.tup [.str ⟨#[98]⟩]], .lst [.ref 0, .ref 4, .ref 12, .tup [.str ⟨#[98]⟩]], .lst [.tup [.str ⟨#[97]⟩]], .lst [.ref 0, .ref 4, .ref 12, .tup [.str ⟨#[98]⟩], .tup [.str ⟨#[97]⟩]]]
def he16 : Iv.Env := [some (.tup [.tup [.tup [.str ⟨#[97]⟩, .tup [], .bl true], .tup [.str ⟨#[98]⟩, .tup [], .bl true], .tup [.str ⟨#[99]⟩, .tup [.str ⟨#[97]⟩, .str ⟨#[98]⟩], .bl false], .tup [.str ⟨#[100]⟩, .tup [.str ⟨#[99]⟩], .bl true], .tup [.str ⟨#[101]⟩, .tup [], .bl true]], .tup [.str ⟨#[100]⟩]]), some (.tup [.str ⟨#[97]⟩, .str ⟨#[98]⟩, .str ⟨#[99]⟩, .str ⟨#[100]⟩, .str ⟨#[101]⟩]), some (.tup [.str ⟨#[98]⟩, .str ⟨#[101]⟩, .str ⟨#[97]⟩, .str ⟨#[99]⟩, .str ⟨#[100]⟩]), some (.tup [.tup [.str ⟨#[97]⟩, .int (4)], .tup [.str ⟨#[98]⟩, .int (6)], .tup [.str ⟨#[100]⟩, .int (3)], .tup [.str ⟨#[101]⟩, .int (9)]]), some (.int (10000000000000000000000000000000000000000)), some (.ref 23), some (.ref 17), some (.tup [.str ⟨#[97]⟩, .str ⟨#[98]⟩, .str ⟨#[99]⟩, .str ⟨#[100]⟩, .str ⟨#[101]⟩, .str ⟨#[102]⟩, .str ⟨#[103]⟩, .str ⟨#[104]⟩]), some (.tup [.tup [.tup [.str ⟨#[97]⟩, .tup [], .bl true], .tup [.str ⟨#[98]⟩, .tup [.str ⟨#[97]⟩], .bl true], .tup [.str ⟨#[99]⟩, .tup [.str ⟨#[98]⟩], .bl true], .tup [.str ⟨#[100]⟩, .tup [.str ⟨#[99]⟩], .bl true], .tup [.str ⟨#[101]⟩, .tup [.str ⟨#[100]⟩], .bl true], .tup [.str ⟨#[102]⟩, .tup [.str ⟨#[101]⟩], .bl true], .tup [.str ⟨#[103]⟩, .tup [.str ⟨#[102]⟩], .bl true], .tup [.str ⟨#[104]⟩, .tup [.str ⟨#[103]⟩], .bl true]], .tup [.str ⟨#[104]⟩]]), some (.int (9999999999999999999999999999999999999990)), some (.tup [.tup [.str ⟨#[97]⟩, .int (9999999999999999999999999999999999999990)], .tup [.str ⟨#[98]⟩, .int (9999999999999999999999999999999999999990)], .tup [.str ⟨#[99]⟩, .int (9999999999999999999999999999999999999990)], .tup [.str ⟨#[100]⟩, .int (9999999999999999999999999999999999999990)], .tup [.str ⟨#[101]⟩, .int (9999999999999999999999999999999999999990)], .tup [.str ⟨#[102]⟩, .int (9999999999999999999999999999999999999990)], .tup [.str ⟨#[103]⟩, .int (9999999999999999999999999999999999999990)], .tup [.str ⟨#[104]⟩, .int (9999999999999999999999999999999999999990)]]), some (.tup [.tup [.tup [.str ⟨#[97]⟩, .tup [], .bl true], .tup [.str ⟨#[98]⟩, .tup [.str ⟨#[97]⟩], .bl true], .tup [.str ⟨#[99]⟩, .tup [.str ⟨#[98]⟩], .bl false]], .tup []]), none, none, none, none, none]
def hh16 : IH := [.lst [.tup [], .tup [], .tup [.str ⟨#[98]⟩], .tup [.str ⟨#[98]⟩], .tup [.str ⟨#[98]⟩], .tup [.str ⟨#[97]⟩, .str ⟨#[98]⟩], .tup [.str ⟨#[97]⟩, .str ⟨#[98]⟩], .tup [.str ⟨#[97]⟩, .str ⟨#[98]⟩, .str ⟨#[100]⟩], .non, .non], .lst [.ref 0], .lst [.tup [], .tup [], .tup [.str ⟨#[98]⟩], .tup [.str ⟨#[98]⟩], .tup [.str ⟨#[98]⟩], .tup [.str ⟨#[97]⟩, .str ⟨#[98]⟩], .tup [.str ⟨#[97]⟩, .str ⟨#[98]⟩], .tup [.str ⟨#[97]⟩, .str ⟨#[98]⟩, .str ⟨#[100]⟩], .non, .non], .lst [.ref 2], .lst [.tup [], .tup [.str ⟨#[100]⟩], .tup [.str ⟨#[100]⟩], .tup [.str ⟨#[97]⟩, .str ⟨#[98]⟩], .tup [.str ⟨#[97]⟩, .str ⟨#[98]⟩, .str ⟨#[100]⟩]], .lst [.ref 4], .lst [.ref 0, .ref 4], .lst [.tup [], .tup [.str ⟨#[100]⟩], .tup [.str ⟨#[100]⟩], .tup [.str ⟨#[97]⟩, .str ⟨#[98]⟩], .tup [.str ⟨#[97]⟩, .str ⟨#[98]⟩, .str ⟨#[100]⟩]], .lst [.ref 7], .lst [.ref 2, .ref 7], .lst [.tup [.str ⟨#[97]⟩, .tup [], .bl true], .tup [.str ⟨#[98]⟩, .tup [.str ⟨#[97]⟩], .bl true], .tup [.str ⟨#[99]⟩, .tup [.str ⟨#[98]⟩], .bl true], .tup [.str ⟨#[100]⟩, .tup [.str ⟨#[99]⟩], .bl true], .tup [.str ⟨#[101]⟩, .tup [.str ⟨#[100]⟩], .bl true], .tup [.str ⟨#[102]⟩, .tup [.str ⟨#[101]⟩], .bl true], .tup [.str ⟨#[103]⟩, .tup [.str ⟨#[102]⟩], .bl true], .tup [.str ⟨#[104]⟩, .tup [.str ⟨#[103]⟩], .bl true]], .lst [.tup [.str ⟨#[97]⟩, .int (9999999999999999999999999999999999999990)], .tup [.str ⟨#[98]⟩, .int (9999999999999999999999999999999999999990)], .tup [.str ⟨#[99]⟩, .int (9999999999999999999999999999999999999990)], .tup [.str ⟨#[100]⟩, .int (9999999999999999999999999999999999999990)], .tup [.str ⟨#[101]⟩, .int (9999999999999999999999999999999999999990)], .tup [.str ⟨#[102]⟩, .int (9999999999999999999999999999999999999990)], .tup [.str ⟨#[103]⟩, .int (9999999999999999999999999999999999999990)], .tup [.str ⟨#[104]⟩, .int (9999999999999999999999999999999999999990)]], .lst [.tup [.str ⟨#[97]⟩, .str ⟨#[98]⟩, .str ⟨#[99]⟩, .str ⟨#[100]⟩, .str ⟨#[101]⟩, .str ⟨#[102]⟩, .str ⟨#[103]⟩, .str ⟨#[104]⟩], .non, .tup [.str ⟨#[97]⟩, .str ⟨#[98]⟩, .str ⟨#[99]⟩, .str ⟨#[100]⟩, .str ⟨#[101]⟩, .str ⟨#[102]⟩, .str ⟨#[103]⟩, .str ⟨#[104]⟩], .tup [.str ⟨#[97]⟩, .str ⟨#[98]⟩, .str ⟨#[99]⟩, .str ⟨#[100]⟩, .str ⟨#[101]⟩, .str ⟨#[102]⟩, .str ⟨#[103]⟩, .str ⟨#[104]⟩], .tup [.str ⟨#[97]⟩, .str ⟨#[98]⟩, .str ⟨#[99]⟩, .str ⟨#[100]⟩, .str ⟨#[101]⟩, .str ⟨#[102]⟩, .str ⟨#[103]⟩]], .lst [.ref 12], .lst [.ref 0, .ref 4, .ref 12], .lst [.tup [.str ⟨#[97]⟩, .str ⟨#[98]⟩, .str ⟨#[99]⟩, .str ⟨#[100]⟩, .str ⟨#[101]⟩, .str ⟨#[102]⟩, .str ⟨#[103]⟩, .str ⟨#[104]⟩], .non, .tup [.str ⟨#[97]⟩, .str ⟨#[98]⟩, .str ⟨#[99]⟩, .str ⟨#[100]⟩, .str ⟨#[101]⟩, .str ⟨#[102]⟩, .str ⟨#[103]⟩, .str ⟨#[104]⟩], .tup [.str ⟨#[97]⟩, .str ⟨#[98]⟩, .str ⟨#[99]⟩, .str ⟨#[100]⟩, .str ⟨#[101]⟩, .str ⟨#[102]⟩, .str ⟨#[103]⟩, .str ⟨#[104]⟩], .tup [.str ⟨#[97]⟩, .str ⟨#[98]⟩, .str ⟨#[99]⟩, .str ⟨#[100]⟩, .str ⟨#[101]⟩, .str ⟨#[102]⟩, .str ⟨#[103]⟩]], .lst [.ref 15], .lst [.ref 2, .ref 7, .ref 15], .lst [.tup [.str ⟨#[98]⟩]], .lst [.ref 0, .ref 4, .ref 12, .tup [.str ⟨#[98]⟩]], .lst [.tup [.str ⟨#[97]⟩]], .lst [.ref 0, .ref 4, .ref 12, .tup [.str ⟨#[98]⟩], .tup [.str ⟨#[97]⟩]], .lst [.tup [.str ⟨#[97]⟩]], .lst [.ref 0, .ref 4, .ref 12, .tup [.str ⟨#[98]⟩], .tup [.str ⟨#[97]⟩], .tup [.str ⟨#[97]⟩]]]
def he17 : Iv.Env := [some (.tup [.tup [.tup [.str ⟨#[97]⟩, .tup [], .bl true], .tup [.str ⟨#[98]⟩, .tup [], .bl true], .tup [.str ⟨#[99]⟩, .tup [.str ⟨#[97]⟩, .str ⟨#[98]⟩], .bl false], .tup [.str ⟨#[100]⟩, .tup [.str ⟨#[99]⟩], .bl true], .tup [.str ⟨#[101]⟩, .tup [], .bl true]], .tup [.str ⟨#[100]⟩]]), some (.tup [.str ⟨#[97]⟩, .str ⟨#[98]⟩, .str ⟨#[99]⟩, .str ⟨#[100]⟩, .str ⟨#[101]⟩]), some (.tup [.str ⟨#[98]⟩, .str ⟨#[101]⟩, .str ⟨#[97]⟩, .str ⟨#[99]⟩, .str ⟨#[100]⟩]), some (.tup [.tup [.str ⟨#[97]⟩, .int (4)], .tup [.str ⟨#[98]⟩, .int (6)], .tup [.str ⟨#[100]⟩, .int (3)], .tup [.str ⟨#[101]⟩, .int (9)]]), some (.int (10000000000000000000000000000000000000000)), some (.ref 25), some (.ref 17), some (.tup [.str ⟨#[97]⟩, .str ⟨#[98]⟩, .str ⟨#[99]⟩, .str ⟨#[100]⟩, .str ⟨#[101]⟩, .str ⟨#[102]⟩, .str ⟨#[103]⟩, .str ⟨#[104]⟩]), some (.tup [.tup [.tup [.str ⟨#[97]⟩, .tup [], .bl true], .tup [.str ⟨#[98]⟩, .tup [.str ⟨#[97]⟩], .bl true], .tup [.str ⟨#[99]⟩, .tup [.str ⟨#[98]⟩], .bl true], .tup [.str ⟨#[100]⟩, .tup [.str ⟨#[99]⟩], .bl true], .tup [.str ⟨#[101]⟩, .tup [.str ⟨#[100]⟩], .bl true], .tup [.str ⟨#[102]⟩, .tup [.str ⟨#[101]⟩], .bl true], .tup [.str ⟨#[103]⟩, .tup [.str ⟨#[102]⟩], .bl true], .tup [.str ⟨#[104]⟩, .tup [.str ⟨#[103]⟩], .bl true]], .tup [.str ⟨#[104]⟩]]), some (.int (9999999999999999999999999999999999999990)), some (.tup [.tup [.str ⟨#[97]⟩, .int (9999999999999999999999999999999999999990)], .tup [.str ⟨#[98]⟩, .int (9999999999999999999999999999999999999990)], .tup [.str ⟨#[99]⟩, .int (9999999999999999999999999999999999999990)], .tup [.str ⟨#[100]⟩, .int (9999999999999999999999999999999999999990)], .tup [.str ⟨#[101]⟩, .int (9999999999999999999999999999999999999990)], .tup [.str ⟨#[102]⟩, .int (9999999999999999999999999999999999999990)], .tup [.str ⟨#[103]⟩, .int (9999999999999999999999999999999999999990)], .tup [.str ⟨#[104]⟩, .int (9999999999999999999999999999999999999990)]]), some (.tup [.tup [.tup [.str ⟨#[97]⟩, .tup [], .bl true], .tup [.str ⟨#[98]⟩, .tup [.str ⟨#[97]⟩], .bl true], .tup [.str ⟨#[99]⟩, .tup [.str ⟨#[98]⟩], .bl false]], .tup []]), none, none, none, none, none]
def hh17 : IH := [.lst [.tup [], .tup [], .tup [.str ⟨#[98]⟩], .tup [.str ⟨#[98]⟩], .tup [.str ⟨#[98]⟩], .tup [.str ⟨#[97]⟩, .str ⟨#[98]⟩], .tup [.str ⟨#[97]⟩, .str ⟨#[98]⟩], .tup [.str ⟨#[97]⟩, .str ⟨#[98]⟩, .str ⟨#[100]⟩], .non, .non], .lst [.ref 0], .lst [.tup [], .tup [], .tup [.str ⟨#[98]⟩], .tup [.str ⟨#[98]⟩], .tup [.str ⟨#[98]⟩], .tup [.str ⟨#[97]⟩, .str ⟨#[98]⟩], .tup [.str ⟨#[97]⟩, .str ⟨#[98]⟩], .tup [.str ⟨#[97]⟩, .str ⟨#[98]⟩, .str ⟨#[100]⟩], .non, .non], .lst [.ref 2], .lst [.tup [], .tup [.str ⟨#[100]⟩], .tup [.str ⟨#[100]⟩], .tup [.str ⟨#[97]⟩, .str ⟨#[98]⟩], .tup [.str ⟨#[97]⟩, .str ⟨#[98]⟩, .str ⟨#[100]⟩]], .lst [.ref 4], .lst [.ref 0, .ref 4], .lst [.tup [], .tup [.str ⟨#[100]⟩], .tup [.str ⟨#[100]⟩], .tup [.str ⟨#[97]⟩, .str ⟨#[98]⟩], .tup [.str ⟨#[97]⟩, .str ⟨#[98]⟩, .str ⟨#[100]⟩]], .lst [.ref 7], .lst [.ref 2, .ref 7], .lst [.tup [.str ⟨#[97]⟩, .tup [], .bl true], .tup [.str ⟨#[98]⟩, .tup [.str ⟨#[97]⟩], .bl true], .tup [.str ⟨#[99]⟩, .tup [.str ⟨#[98]⟩], .bl true], .tup [.str ⟨#[100]⟩, .tup [.str ⟨#[99]⟩], .bl true], .tup [.str ⟨#[101]⟩, .tup [.str ⟨#[100]⟩], .bl true], .tup [.str ⟨#[102]⟩, .tup [.str ⟨#[101]⟩], .bl true], .tup [.str ⟨#[103]⟩, .tup [.str ⟨#[102]⟩], .bl true], .tup [.str ⟨#[104]⟩, .tup [.str ⟨#[103]⟩], .bl true]], .lst [.tup [.str ⟨#[97]⟩, .int (9999999999999999999999999999999999999990)], .tup [.str ⟨#[98]⟩, .int (9999999999999999999999999999999999999990)], .tup [.str ⟨#[99]⟩, .int (9999999999999999999999999999999999999990)], .tup [.str ⟨#[100]⟩, .int (9999999999999999999999999999999999999990)], .tup [.str ⟨#[101]⟩, .int (9999999999999999999999999999999999999990)], .tup [.str ⟨#[102]⟩, .int (9999999999999999999999999999999999999990)], .tup [.str ⟨#[103]⟩, .int (9999999999999999999999999999999999999990)], .tup [.str ⟨#[104]⟩, .int (9999999999999999999999999999999999999990)]], .lst [.tup [.str ⟨#[97]⟩, .str ⟨#[98]⟩, .str ⟨#[99]⟩, .str ⟨#[100]⟩, .str ⟨#[101]⟩, .str ⟨#[102]⟩, .str ⟨#[103]⟩, .str ⟨#[104]⟩], .non, .tup [.str ⟨#[97]⟩, .str ⟨#[98]⟩, .str ⟨#[99]⟩, .str ⟨#[100]⟩, .str ⟨#[101]⟩, .str ⟨#[102]⟩, .str ⟨#[103]⟩, .str ⟨#[104]⟩], .tup [.str ⟨#[97]⟩, .str ⟨#[98]⟩, .str ⟨#[99]⟩, .str ⟨#[100]⟩, .str ⟨#[101]⟩, .str ⟨#[102]⟩, .str ⟨#[103]⟩, .str ⟨#[104]⟩], .tup [.str ⟨#[97]⟩, .str ⟨#[98]⟩, .str ⟨#[99]⟩, .str ⟨#[100]⟩, .str ⟨#[101]⟩, .str ⟨#[102]⟩, .str ⟨#[103]⟩]], .lst [.ref 12], .lst [.ref 0, .ref 4, .ref 12], .lst [.tup [.str ⟨#[97]⟩, .str ⟨#[98]⟩, .str ⟨#[99]⟩, .str ⟨#[100]⟩, .str ⟨#[101]⟩, .str ⟨#[102]⟩, .str ⟨#[103]⟩, .str ⟨#[104]⟩], .non, .tup [.str ⟨#[97]⟩, .str ⟨#[98]⟩, .str ⟨#[99]⟩, .str ⟨#[100]⟩, .str ⟨#[101]⟩, .str ⟨#[102]⟩, .str ⟨#[103]⟩, .str ⟨#[104]⟩], .tup [.str ⟨#[97]⟩, .str ⟨#[98]⟩, .str ⟨#[99]⟩, .str ⟨#[100]⟩, .str ⟨#[101]⟩, .str ⟨#[102]⟩, .str ⟨#[103]⟩, .str ⟨#[104]⟩], .tup [.str ⟨#[97]⟩, .str ⟨#[98]⟩, .str ⟨#[99]⟩, .str ⟨#[100]⟩, .str ⟨#[101]⟩, .str ⟨#[102]⟩, .str ⟨#[103]⟩]], .lst [.ref 15], .lst [.ref 2, .ref 7, .ref 15], .lst [.tup [.str ⟨#[98]⟩]], .lst [.ref 0, .ref 4, .ref 12, .tup [.str ⟨#[98]⟩]], .lst [.tup [.str ⟨#[97]⟩]], .lst [.ref 0, .ref 4, .ref 12, .tup [.str ⟨#[98]⟩], .tup [.str ⟨#[97]⟩]], .lst [.tup [.str ⟨#[97]⟩]], .lst [.ref 0, .ref 4, .ref 12, .tup [.str ⟨#[98]⟩], .tup [.str ⟨#[97]⟩], .tup [.str ⟨#[97]⟩]], .lst [.tup []], .lst [.ref 0, .ref 4, .ref 12, .tup [.str ⟨#[98]⟩], .tup [.str ⟨#[97]⟩], .tup [.str ⟨#[97]⟩], .tup []]]
def he18 : Iv.Env := [some (.tup [.tup [.tup [.str ⟨#[97]⟩, .tup [], .bl true], .tup [.str ⟨#[98]⟩, .tup [], .bl true], .tup [.str ⟨#[99]⟩, .tup [.str ⟨#[97]⟩, .str ⟨#[98]⟩], .bl false], .tup [.str ⟨#[100]⟩, .tup [.str ⟨#[99]⟩], .bl true], .tup [.str ⟨#[101]⟩, .tup [], .bl true]], .tup [.str ⟨#[100]⟩]]), some (.tup [.str ⟨#[97]⟩, .str ⟨#[98]⟩, .str ⟨#[99]⟩, .str ⟨#[100]⟩, .str ⟨#[101]⟩]), some (.tup [.str ⟨#[98]⟩, .str ⟨#[101]⟩, .str ⟨#[97]⟩, .str ⟨#[99]⟩, .str ⟨#[100]⟩]), some (.tup [.tup [.str ⟨#[97]⟩, .int (4)], .tup [.str ⟨#[98]⟩, .int (6)], .tup [.str ⟨#[100]⟩, .int (3)], .tup [.str ⟨#[101]⟩, .int (9)]]), some (.int (10000000000000000000000000000000000000000)), some (.ref 25), some (.ref 27), some (.tup [.str ⟨#[97]⟩, .str ⟨#[98]⟩, .str ⟨#[99]⟩, .str ⟨#[100]⟩, .str ⟨#[101]⟩, .str ⟨#[102]⟩, .str ⟨#[103]⟩, .str ⟨#[104]⟩]), some (.tup [.tup [.tup [.str ⟨#[97]⟩, .tup [], .bl true], .tup [.str ⟨#[98]⟩, .tup [.str ⟨#[97]⟩], .bl true], .tup [.str ⟨#[99]⟩, .tup [.str ⟨#[98]⟩], .bl true], .tup [.str ⟨#[100]⟩, .tup [.str ⟨#[99]⟩], .bl true], .tup [.str ⟨#[101]⟩, .tup [.str ⟨#[100]⟩], .bl true], .tup [.str ⟨#[102]⟩, .tup [.str ⟨#[101]⟩], .bl true], .tup [.str ⟨#[103]⟩, .tup [.str ⟨#[102]⟩], .bl true], .tup [.str ⟨#[104]⟩, .tup [.str ⟨#[103]⟩], .bl true]], .tup [.str ⟨#[104]⟩]]), some (.int (9999999999999999999999999999999999999990)), some (.tup [.tup [.str ⟨#[97]⟩, .int (9999999999999999999999999999999999999990)], .tup [.str ⟨#[98]⟩, .int (9999999999999999999999999999999999999990)], .tup [.str ⟨#[99]⟩, .int (9999999999999999999999999999999999999990)], .tup [.str ⟨#[100]⟩, .int (9999999999999999999999999999999999999990)], .tup [.str ⟨#[101]⟩, .int (9999999999999999999999999999999999999990)], .tup [.str ⟨#[102]⟩, .int (9999999999999999999999999999999999999990)], .tup [.str ⟨#[103]⟩, .int (9999999999999999999999999999999999999990)], .tup [.str ⟨#[104]⟩, .int (9999999999999999999999999999999999999990)]]), some (.tup [.tup [.tup [.str ⟨#[97]⟩, .tup [], .bl true], .tup [.str ⟨#[98]⟩, .tup [.str ⟨#[97]⟩], .bl true], .tup [.str ⟨#[99]⟩, .tup [.str ⟨#[98]⟩], .bl false]], .tup []]), none, none, none, none, none]
def hh18 : IH := [.lst [.tup [], .tup [], .tup [.str ⟨#[98]⟩], .tup [.str ⟨#[98]⟩], .tup [.str ⟨#[98]⟩], .tup [.str ⟨#[97]⟩, .str ⟨#[98]⟩], .tup [.str ⟨#[97]⟩, .str ⟨#[98]⟩], .tup [.str ⟨#[97]⟩, .str ⟨#[98]⟩, .str ⟨#[100]⟩], .non, .non], .lst [.ref 0], .lst [.tup [], .tup [], .tup [.str ⟨#[98]⟩], .tup [.str ⟨#[98]⟩], .tup [.str ⟨#[98]⟩], .tup [.str ⟨#[97]⟩, .str ⟨#[98]⟩], .tup [.str ⟨#[97]⟩, .str ⟨#[98]⟩], .tup [.str ⟨#[97]⟩, .str ⟨#[98]⟩, .str ⟨#[100]⟩], .non, .non], .lst [.ref 2], .lst [.tup [], .tup [.str ⟨#[100]⟩], .tup [.str ⟨#[100]⟩], .tup [.str ⟨#[97]⟩, .str ⟨#[98]⟩], .tup [.str ⟨#[97]⟩, .str ⟨#[98]⟩, .str ⟨#[100]⟩]], .lst [.ref 4], .lst [.ref 0, .ref 4], .lst [.tup [], .tup [.str ⟨#[100]⟩], .tup [.str ⟨#[100]⟩], .tup [.str ⟨#[97]⟩, .str ⟨#[98]⟩], .tup [.str ⟨#[97]⟩, .str ⟨#[98]⟩, .str ⟨#[100]⟩]], .lst [.ref 7], .lst [.ref 2, .ref 7], .lst [.tup [.str ⟨#[97]⟩, .tup [], .bl true], .tup [.str ⟨#[98]⟩, .tup [.str ⟨#[97]⟩], .bl true], .tup [.str ⟨#[99]⟩, .tup [.str ⟨#[98]⟩], .bl true], .tup [.str ⟨#[100]⟩, .tup [.str ⟨#[99]⟩], .bl true], .tup [.str ⟨#[101]⟩, .tup [.str ⟨#[100]⟩], .bl true], .tup [.str ⟨#[102]⟩, .tup [.str ⟨#[101]⟩], .bl true], .tup [.str ⟨#[103]⟩, .tup [.str ⟨#[102]⟩], .bl true], .tup [.str ⟨#[104]⟩, .tup [.str ⟨#[103]⟩], .bl true]], .lst [.tup [.str ⟨#[97]⟩, .int (9999999999999999999999999999999999999990)], .tup [.str ⟨#[98]⟩, .int (9999999999999999999999999999999999999990)], .tup [.str ⟨#[99]⟩, .int (9999999999999999999999999999999999999990)], .tup [.str ⟨#[100]⟩, .int (9999999999999999999999999999999999999990)], .tup [.str ⟨#[101]⟩, .int (9999999999999999999999999999999999999990)], .tup [.str ⟨#[102]⟩, .int (9999999999999999999999999999999999999990)], .tup [.str ⟨#[103]⟩, .int (9999999999999999999999999999999999999990)], .tup [.str ⟨#[104]⟩, .int (9999999999999999999999999999999999999990)]], .lst [.tup [.str ⟨#[97]⟩, .str ⟨#[98]⟩, .str ⟨#[99]⟩, .str ⟨#[100]⟩, .str ⟨#[101]⟩, .str ⟨#[102]⟩, .str ⟨#[103]⟩, .str ⟨#[104]⟩], .non, .tup [.str ⟨#[97]⟩, .str ⟨#[98]⟩, .str ⟨#[99]⟩, .str ⟨#[100]⟩, .str ⟨#[101]⟩, .str ⟨#[102]⟩, .str ⟨#[103]⟩, .str ⟨#[104]⟩], .tup [.str ⟨#[97]⟩, .str ⟨#[98]⟩, .str ⟨#[99]⟩, .str ⟨#[100]⟩, .str ⟨#[101]⟩, .str ⟨#[102]⟩, .str ⟨#[103]⟩, .str ⟨#[104]⟩], .tup [.str ⟨#[97]⟩, .str ⟨#[98]⟩, .str ⟨#[99]⟩, .str ⟨#[100]⟩, .str ⟨#[101]⟩, .str ⟨#[102]⟩, .str ⟨#[103]⟩]], .lst [.ref 12], .lst [.ref 0, .ref 4, .ref 12], .lst [.tup [.str ⟨#[97]⟩, .str ⟨#[98]⟩, .str ⟨#[99]⟩, .str ⟨#[100]⟩, .str ⟨#[101]⟩, .str ⟨#[102]⟩, .str ⟨#[103]⟩, .str ⟨#[104]⟩], .non, .tup [.str ⟨#[97]⟩, .str ⟨#[98]⟩, .str ⟨#[99]⟩, .str ⟨#[100]⟩, .str ⟨#[101]⟩, .str ⟨#[102]⟩, .str ⟨#[103]⟩, .str ⟨#[104]⟩], .tup [.str ⟨#[97]⟩, .str ⟨#[98]⟩, .str ⟨#[99]⟩, .str ⟨#[100]⟩, .str ⟨#[101]⟩, .str ⟨#[102]⟩, .str ⟨#[103]⟩, .str ⟨#[104]⟩], .tup [.str ⟨#[97]⟩, .str ⟨#[98]⟩, .str ⟨#[99]⟩, .str ⟨#[100]⟩, .str ⟨#[101]⟩, .str ⟨#[102]⟩, .str ⟨#[103]⟩]], .lst [.ref 15], .lst [.ref 2, .ref 7, .ref 15], .lst [.tup [.str ⟨#[98]⟩]], .lst [.ref 0, .ref 4, .ref 12, .tup [.str ⟨#[98]⟩]], .lst [.tup [.str ⟨#[97]⟩]], .lst [.ref 0, .ref 4, .ref 12, .tup [.str ⟨#[98]⟩], .tup [.str ⟨#[97]⟩]], .lst [.tup [.str ⟨#[97]⟩]], .lst [.ref 0, .ref 4, .ref 12, .tup [.str ⟨#[98]⟩], .tup [.str ⟨#[97]⟩], .tup [.str ⟨#[97]⟩]], .lst [.tup []], .lst [.ref 0, .ref 4, .ref 12, .tup [.str ⟨#[98]⟩], .tup [.str ⟨#[97]⟩], .tup [.str ⟨#[97]⟩], .tup []], .lst [.tup [.str ⟨#[98]⟩], .tup [.str ⟨#[97]⟩], .tup [.str ⟨#[97]⟩], .tup []], .lst [.ref 2, .ref 7, .ref 15, .tup [.str ⟨#[98]⟩], .tup [.str ⟨#[97]⟩], .tup [.str ⟨#[97]⟩], .tup []]]
def he19 : Iv.Env := [some (.tup [.tup [.tup [.str ⟨#[97]⟩, .tup [], .bl true], .tup [.str ⟨#[98]⟩, .tup [], .bl true], .tup [.str ⟨#[99]⟩, .tup [.str ⟨#[97]⟩, .str ⟨#[98]⟩], .bl false], .tup [.str ⟨#[100]⟩, .tup [.str ⟨#[99]⟩], .bl true], .tup [.str ⟨#[101]⟩, .tup [], .bl true]], .tup [.str ⟨#[100]⟩]]), some (.tup [.str ⟨#[97]⟩, .str ⟨#[98]⟩, .str ⟨#[99]⟩, .str ⟨#[100]⟩, .str ⟨#[101]⟩]), some (.tup [.str ⟨#[98]⟩, .str ⟨#[101]⟩, .str ⟨#[97]⟩, .str ⟨#[99]⟩, .str ⟨#[100]⟩]), some (.tup [.tup [.str ⟨#[97]⟩, .int (4)], .tup [.str ⟨#[98]⟩, .int (6)], .tup [.str ⟨#[100]⟩, .int (3)], .tup [.str ⟨#[101]⟩, .int (9)]]), some (.int (10000000000000000000000000000000000000000)), some (.ref 29), some (.ref 27), some (.tup [.str ⟨#[97]⟩, .str ⟨#[98]⟩, .str ⟨#[99]⟩, .str ⟨#[100]⟩, .str ⟨#[101]⟩, .str ⟨#[102]⟩, .str ⟨#[103]⟩, .str ⟨#[104]⟩]), some (.tup [.tup [.tup [.str ⟨#[97]⟩, .tup [], .bl true], .tup [.str ⟨#[98]⟩, .tup [.str ⟨#[97]⟩], .bl true], .tup [.str ⟨#[99]⟩, .tup [.str ⟨#[98]⟩], .bl true], .tup [.str ⟨#[100]⟩, .tup [.str ⟨#[99]⟩], .bl true], .tup [.str ⟨#[101]⟩, .tup [.str ⟨#[100]⟩], .bl true], .tup [.str ⟨#[102]⟩, .tup [.str ⟨#[101]⟩], .bl true], .tup [.str ⟨#[103]⟩, .tup [.str ⟨#[102]⟩], .bl true], .tup [.str ⟨#[104]⟩, .tup [.str ⟨#[103]⟩], .bl true]], .tup [.str ⟨#[104]⟩]]), some (.int (9999999999999999999999999999999999999990)), some (.tup [.tup [.str ⟨#[97]⟩, .int (9999999999999999999999999999999999999990)], .tup [.str ⟨#[98]⟩, .int (9999999999999999999999999999999999999990)], .tup [.str ⟨#[99]⟩, .int (9999999999999999999999999999999999999990)], .tup [.str ⟨#[100]⟩, .int (9999999999999999999999999999999999999990)], .tup [.str ⟨#[101]⟩, .int (9999999999999999999999999999999999999990)], .tup [.str ⟨#[102]⟩, .int (9999999999999999999999999999999999999990)], .tup [.str ⟨#[103]⟩, .int (9999999999999999999999999999999999999990)], .tup [.str ⟨#[104]⟩, .int (9999999999999999999999999999999999999990)]]), some (.tup [.tup [.tup [.str ⟨#[97]⟩, .tup [], .bl true], .tup [.str ⟨#[98]⟩, .tup [.str ⟨#[97]⟩], .bl true], .tup [.str ⟨#[99]⟩, .tup [.str ⟨#[98]⟩], .bl false]], .tup []]), none, none, none, none, none]
def hh19 : IH := [.lst [.tup [], .tup [], .tup [.str ⟨#[98]⟩], .tup [.str ⟨#[98]⟩], .tup [.str ⟨#[98]⟩], .tup [.str ⟨#[97]⟩, .str ⟨#[98]⟩], .tup [.str ⟨#[97]⟩, .str ⟨#[98]⟩], .tup [.str ⟨#[97]⟩, .str ⟨#[98]⟩, .str ⟨#[100]⟩], .non, .non], .lst [.ref 0], .lst [.tup [], .tup [], .tup [.str ⟨#[98]⟩], .tup [.str ⟨#[98]⟩], .tup [.str ⟨#[98]⟩], .tup [.str ⟨#[97]⟩, .str ⟨#[98]⟩], .tup [.str ⟨#[97]⟩, .str ⟨#[98]⟩], .tup [.str ⟨#[97]⟩, .str ⟨#[98]⟩, .str ⟨#[100]⟩], .non, .non], .lst [.ref 2], .lst [.tup [], .tup [.str ⟨#[100]⟩], .tup [.str ⟨#[100]⟩], .tup [.str ⟨#[97]⟩, .str ⟨#[98]⟩], .tup [.str ⟨#[97]⟩, .str ⟨#[98]⟩, .str ⟨#[100]⟩]], .lst [.ref 4], .lst [.ref 0, .ref 4], .lst [.tup [], .tup [.str ⟨#[100]⟩], .tup [.str ⟨#[100]⟩], .tup [.str ⟨#[97]⟩, .str ⟨#[98]⟩], .tup [.str ⟨#[97]⟩, .str ⟨#[98]⟩, .str ⟨#[100]⟩]], .lst [.ref 7], .lst [.ref 2, .ref 7], .lst [.tup [.str ⟨#[97]⟩, .tup [], .bl true], .tup [.str ⟨#[98]⟩, .tup [.str ⟨#[97]⟩], .bl true], .tup [.str ⟨#[99]⟩, .tup [.str ⟨#[98]⟩], .bl true], .tup [.str ⟨#[100]⟩, .tup [.str ⟨#[99]⟩], .bl true], .tup [.str ⟨#[101]⟩, .tup [.str ⟨#[100]⟩], .bl true], .tup [.str ⟨#[102]⟩, .tup [.str ⟨#[101]⟩], .bl true], .tup [.str ⟨#[103]⟩, .tup [.str ⟨#[102]⟩], .bl true], .tup [.str ⟨#[104]⟩, .tup [.str ⟨#[103]⟩], .bl true]], .lst [.tup [.str ⟨#[97]⟩, .int (9999999999999999999999999999999999999990)], .tup [.str ⟨#[98]⟩, .int (9999999999999999999999999999999999999990)], .tup [.str ⟨#[99]⟩, .int (9999999999999999999999999999999999999990)], .tup [.str ⟨#[100]⟩, .int (9999999999999999999999999999999999999990)], .tup [.str ⟨#[101]⟩, .int (9999999999999999999999999999999999999990)], .tup [.str ⟨#[102]⟩, .int (9999999999999999999999999999999999999990)], .tup [.str ⟨#[103]⟩, .int (9999999999999999999999999999999999999990)], .tup [.str ⟨#[104]⟩, .int (9999999999999999999999999999999999999990)]], .lst [.tup [.str ⟨#[97]⟩, .str ⟨#[98]⟩, .str ⟨#[99]⟩, .str ⟨#[100]⟩, .str ⟨#[101]⟩, .str ⟨#[102]⟩, .str ⟨#[103]⟩, .str ⟨#[104]⟩], .non, .tup [.str ⟨#[97]⟩, .str ⟨#[98]⟩, .str ⟨#[99]⟩, .str ⟨#[100]⟩, .str ⟨#[101]⟩, .str ⟨#[102]⟩, .str ⟨#[103]⟩, .str ⟨#[104]⟩], .tup [.str ⟨#[97]⟩, .str ⟨#[98]⟩, .str ⟨#[99]⟩, .str ⟨#[100]⟩, .str ⟨#[101]⟩, .str ⟨#[102]⟩, .str ⟨#[103]⟩, .str ⟨#[104]⟩], .tup [.str ⟨#[97]⟩, .str ⟨#[98]⟩, .str ⟨#[99]⟩, .str ⟨#[100]⟩, .str ⟨#[101]⟩, .str ⟨#[102]⟩, .str ⟨#[103]⟩]], .lst [.ref 12], .lst [.ref 0, .ref 4, .ref 12], .lst [.tup [.str ⟨#[97]⟩, .str ⟨#[98]⟩, .str ⟨#[99]⟩, .str ⟨#[100]⟩, .str ⟨#[101]⟩, .str ⟨#[102]⟩, .str ⟨#[103]⟩, .str ⟨#[104]⟩], .non, .tup [.str ⟨#[97]⟩, .str ⟨#[98]⟩, .str ⟨#[99]⟩, .str ⟨#[100]⟩, .str ⟨#[101]⟩, .str ⟨#[102]⟩, .str ⟨#[103]⟩, .str ⟨#[104]⟩], .tup [.str ⟨#[97]⟩, .str ⟨#[98]⟩, .str ⟨#[99]⟩, .str ⟨#[100]⟩, .str ⟨#[101]⟩, .str ⟨#[102]⟩, .str ⟨#[103]⟩, .str ⟨#[104]⟩], .tup [.str ⟨#[97]⟩, .str ⟨#[98]⟩, .str ⟨#[99]⟩, .str ⟨#[100]⟩, .str ⟨#[101]⟩, .str ⟨#[102]⟩, .str ⟨#[103]⟩]], .lst [.ref 15], .lst [.ref 2, .ref 7, .ref 15], .lst [.tup [.str ⟨#[98]⟩]], .lst [.ref 0, .ref 4, .ref 12, .tup [.str ⟨#[98]⟩]], .lst [.tup [.str ⟨#[97]⟩]], .lst [.ref 0, .ref 4, .ref 12, .tup [.str ⟨#[98]⟩], .tup [.str ⟨#[97]⟩]], .lst [.tup [.str ⟨#[97]⟩]], .lst [.ref 0, .ref 4, .ref 12, .tup [.str ⟨#[98]⟩], .tup [.str ⟨#[97]⟩], .tup [.str ⟨#[97]⟩]], .lst [.tup []], .lst [.ref 0, .ref 4, .ref 12, .tup [.str ⟨#[98]⟩], .tup [.str ⟨#[97]⟩], .tup [.str ⟨#[97]⟩], .tup []], .lst [.tup [.str ⟨#[98]⟩], .tup [.str ⟨#[97]⟩], .tup [.str ⟨#[97]⟩], .tup []], .lst [.ref 2, .ref 7, .ref 15, .tup [.str ⟨#[98]⟩], .tup [.str ⟨#[97]⟩], .tup [.str ⟨#[97]⟩], .tup []], .lst [.tup [], .non], .lst [.ref 0, .ref 4, .ref 12, .tup [.str ⟨#[98]⟩], .tup [.str ⟨#[97]⟩], .tup [.str ⟨#[97]⟩], .tup [], .tup [], .non]]
def he20 : Iv.Env := [some (.tup [.tup [.tup [.str ⟨#[97]⟩, .tup [], .bl true], .tup [.str ⟨#[98]⟩, .tup [], .bl true], .tup [.str ⟨#[99]⟩, .tup [.str ⟨#[97]⟩, .str ⟨#[98]⟩], .bl false], .tup [.str ⟨#[100]⟩, .tup [.str ⟨#[99]⟩], .bl true], .tup [.str ⟨#[101]⟩, .tup [], .bl true]], .tup [.str ⟨#[100]⟩]]), some (.tup [.str ⟨#[97]⟩, .str ⟨#[98]⟩, .str ⟨#[99]⟩, .str ⟨#[100]⟩, .str ⟨#[101]⟩]), some (.tup [.str ⟨#[98]⟩, .str ⟨#[101]⟩, .str ⟨#[97]⟩, .str ⟨#[99]⟩, .str ⟨#[100]⟩]), some (.tup [.tup [.str ⟨#[97]⟩, .int (4)], .tup [.str ⟨#[98]⟩, .int (6)], .tup [.str ⟨#[100]⟩, .int (3)], .tup [.str ⟨#[101]⟩, .int (9)]]), some (.int (10000000000000000000000000000000000000000)), some (.ref 69), some (.ref 27), some (.tup [.str ⟨#[97]⟩, .str ⟨#[98]⟩, .str ⟨#[99]⟩, .str ⟨#[100]⟩, .str ⟨#[101]⟩, .str ⟨#[102]⟩, .str ⟨#[103]⟩, .str ⟨#[104]⟩]), some (.tup [.tup [.tup [.str ⟨#[97]⟩, .tup [], .bl true], .tup [.str ⟨#[98]⟩, .tup [.str ⟨#[97]⟩], .bl true], .tup [.str ⟨#[99]⟩, .tup [.str ⟨#[98]⟩], .bl true], .tup [.str ⟨#[100]⟩, .tup [.str ⟨#[99]⟩], .bl true], .tup [.str ⟨#[101]⟩, .tup [.str ⟨#[100]⟩], .bl true], .tup [.str ⟨#[102]⟩, .tup [.str ⟨#[101]⟩], .bl true], .tup [.str ⟨#[103]⟩, .tup [.str ⟨#[102]⟩], .bl true], .tup [.str ⟨#[104]⟩, .tup [.str ⟨#[103]⟩], .bl true]], .tup [.str ⟨#[104]⟩]]), some (.int (9999999999999999999999999999999999999990)), some (.tup [.tup [.str ⟨#[97]⟩, .int (9999999999999999999999999999999999999990)], .tup [.str ⟨#[98]⟩, .int (9999999999999999999999999999999999999990)], .tup [.str ⟨#[99]⟩, .int (9999999999999999999999999999999999999990)], .tup [.str ⟨#[100]⟩, .int (9999999999999999999999999999999999999990)], .tup [.str ⟨#[101]⟩, .int (9999999999999999999999999999999999999990)], .tup [.str ⟨#[102]⟩, .int (9999999999999999999999999999999999999990)], .tup [.str ⟨#[103]⟩, .int (9999999999999999999999999999999999999990)], .tup [.str ⟨#[104]⟩, .int (9999999999999999999999999999999999999990)]]), some (.tup [.tup [.tup [.str ⟨#[97]⟩, .tup [], .bl true], .tup [.str ⟨#[98]⟩, .tup [.str ⟨#[97]⟩], .bl true], .tup [.str ⟨#[99]⟩, .tup [.str ⟨#[98]⟩], .bl false]], .tup []]), none, none, none, none, none]
def hh20 : IH := [.lst [.tup [], .tup [], .tup [.str ⟨#[98]⟩], .tup [.str ⟨#[98]⟩], .tup [.str ⟨#[98]⟩], .tup [.str ⟨#[97]⟩, .str ⟨#[98]⟩], .tup [.str ⟨#[97]⟩, .str ⟨#[98]⟩], .tup [.str ⟨#[97]⟩, .str ⟨#[98]⟩, .str ⟨#[100]⟩], .non, .non], .lst [.ref 0], .lst [.tup [], .tup [], .tup [.str ⟨#[98]⟩], .tup [.str ⟨#[98]⟩], .tup [.str ⟨#[98]⟩], .tup [.str ⟨#[97]⟩, .str ⟨#[98]⟩], .tup [.str ⟨#[97]⟩, .str ⟨#[98]⟩], .tup [.str ⟨#[97]⟩, .str ⟨#[98]⟩, .str ⟨#[100]⟩], .non, .non], .lst [.ref 2], .lst [.tup [], .tup [.str ⟨#[100]⟩], .tup [.str ⟨#[100]⟩], .tup [.str ⟨#[97]⟩, .str ⟨#[98]⟩], .tup [.str ⟨#[97]⟩, .str ⟨#[98]⟩, .str ⟨#[100]⟩]], .lst [.ref 4], .lst [.ref 0, .ref 4], .lst [.tup [], .tup [.str ⟨#[100]⟩], .tup [.str ⟨#[100]⟩], .tup [.str ⟨#[97]⟩, .str ⟨#[98]⟩], .tup [.str ⟨#[97]⟩, .str ⟨#[98]⟩, .str ⟨#[100]⟩]], .lst [.ref 7], .lst [.ref 2, .ref 7], .lst [.tup [.str ⟨#[97]⟩, .tup [], .bl true], .tup [.str ⟨#[98]⟩, .tup [.str ⟨#[97]⟩], .bl true], .tup [.str ⟨#[99]⟩, .tup [.str ⟨#[98]⟩], .bl true], .tup [.str ⟨#[100]⟩, .tup [.str ⟨#[99]⟩], .bl true], .tup [.str ⟨#[101]⟩, .tup [.str ⟨#[100]⟩], .bl true], .tup [.str ⟨#[102]⟩, .tup [.str ⟨#[101]⟩], .bl true], .tup [.str ⟨#[103]⟩, .tup [.str ⟨#[102]⟩], .bl true], .tup [.str ⟨#[104]⟩, .tup [.str ⟨#[103]⟩], .bl true]], .lst [.tup [.str ⟨#[97]⟩, .int (9999999999999999999999999999999999999990)], .tup [.str ⟨#[98]⟩, .int (9999999999999999999999999999999999999990)], .tup [.str ⟨#[99]⟩, .int (9999999999999999999999999999999999999990)], .tup [.str ⟨#[100]⟩, .int (9999999999999999999999999999999999999990)], .tup [.str ⟨#[101]⟩, .int (9999999999999999999999999999999999999990)], .tup [.str ⟨#[102]⟩, .int (9999999999999999999999999999999999999990)], .tup [.str ⟨#[103]⟩, .int (9999999999999999999999999999999999999990)], .tup [.str ⟨#[104]⟩, .int (9999999999999999999999999999999999999990)]], .lst [.tup [.str ⟨#[97]⟩, .str ⟨#[98]⟩, .str ⟨#[99]⟩, .str ⟨#[100]⟩, .str ⟨#[101]⟩, .str ⟨#[102]⟩, .str ⟨#[103]⟩, .str ⟨#[104]⟩], .non, .tup [.str ⟨#[97]⟩, .str ⟨#[98]⟩, .str ⟨#[99]⟩, .str ⟨#[100]⟩, .str ⟨#[101]⟩, .str ⟨#[102]⟩, .str ⟨#[103]⟩, .str ⟨#[104]⟩], .tup [.str ⟨#[97]⟩, .str ⟨#[98]⟩, .str ⟨#[99]⟩, .str ⟨#[100]⟩, .str ⟨#[101]⟩, .str ⟨#[102]⟩, .str ⟨#[103]⟩, .str ⟨#[104]⟩], .tup [.str ⟨#[97]⟩, .str ⟨#[98]⟩, .str ⟨#[99]⟩, .str ⟨#[100]⟩, .str ⟨#[101]⟩, .str ⟨#[102]⟩, .str ⟨#[103]⟩]], .lst [.ref 12], .lst [.ref 0, .ref 4, .ref 12], .lst [.tup [.str ⟨#[97]⟩, .str ⟨#[98]⟩, .str ⟨#[99]⟩, .str ⟨#[100]⟩, .str ⟨#[101]⟩, .str ⟨#[102]⟩, .str ⟨#[103]⟩, .str ⟨#[104]⟩], .non, .tup [.str ⟨#[97]⟩, .str ⟨#[98]⟩, .str ⟨#[99]⟩, .str ⟨#[100]⟩, .str ⟨#[101]⟩, .str ⟨#[102]⟩, .str ⟨#[103]⟩, .str ⟨#[104]⟩], .tup [.str ⟨#[97]⟩, .str ⟨#[98]⟩, .str ⟨#[99]⟩, .str ⟨#[100]⟩, .str ⟨#[101]⟩, .str ⟨#[102]⟩, .str ⟨#[103]⟩, .str ⟨#[104]⟩], .tup [.str ⟨#[97]⟩, .str ⟨#[98]⟩, .str ⟨#[99]⟩, .str ⟨#[100]⟩, .str ⟨#[101]⟩, .str ⟨#[102]⟩, .str ⟨#[103]⟩]], .lst [.ref 15], .lst [.ref 2, .ref 7, .ref 15], .lst [.tup [.str ⟨#[98]⟩]], .lst [.ref 0, .ref 4, .ref 12, .tup [.str ⟨#[98]⟩]], .lst [.tup [.str ⟨#[97]⟩]], .lst [.ref 0, .ref 4, .ref 12, .tup [.str ⟨#[98]⟩], .tup [.str ⟨#[97]⟩]], .lst [.tup [.str ⟨#[97]⟩]], .lst [.ref 0, .ref 4, .ref 12, .tup [.str ⟨#[98]⟩], .tup [.str ⟨#[97]⟩], .tup [.str ⟨#[97]⟩]], .lst [.tup []], .lst [.ref 0, .ref 4, .ref 12, .tup [.str ⟨#[98]⟩], .tup [.str ⟨#[97]⟩], .tup [.str ⟨#[97]⟩], .tup []], .lst [.tup [.str ⟨#[98]⟩], .tup [.str ⟨#[97]⟩], .tup [.str ⟨#[97]⟩], .tup []], .lst [.ref 2, .ref 7, .ref 15, .tup [.str ⟨#[98]⟩], .tup [.str ⟨#[97]⟩], .tup [.str ⟨#[97]⟩], .tup []], .lst [.tup [], .non], .lst [.ref 0, .ref 4, .ref 12, .tup [.str ⟨#[98]⟩], .tup [.str ⟨#[97]⟩], .tup [.str ⟨#[97]⟩], .tup [], .tup [], .non], .lst [.ref 49, .ref 68], .lst [.tup [.tup [.str ⟨#[97]⟩, .tup [], .bl true], .tup [.str ⟨#[98]⟩, .tup [], .bl true], .tup [.str ⟨#[99]⟩, .tup [.str ⟨#[97]⟩, .str ⟨#[98]⟩], .bl false], .tup [.str ⟨#[100]⟩, .tup [.str ⟨#[99]⟩], .bl true], .tup [.str ⟨#[101]⟩, .tup [], .bl true]], .tup [.str ⟨#[100]⟩]], .lst [.tup [.str ⟨#[97]⟩, .tup [], .bl true], .tup [.str ⟨#[98]⟩, .tup [], .bl true], .tup [.str ⟨#[99]⟩, .tup [.str ⟨#[97]⟩, .str ⟨#[98]⟩], .bl false], .tup [.str ⟨#[100]⟩, .tup [.str ⟨#[99]⟩], .bl true], .tup [.str ⟨#[101]⟩, .tup [], .bl true]], .lst [.str ⟨#[97]⟩, .tup [], .bl true], .lst [], .lst [.str ⟨#[98]⟩, .tup [], .bl true], .lst [], .lst [.str ⟨#[99]⟩, .tup [.str ⟨#[97]⟩, .str ⟨#[98]⟩], .bl false], .lst [.str ⟨#[97]⟩, .str ⟨#[98]⟩], .lst [.str ⟨#[100]⟩, .tup [.str ⟨#[99]⟩], .bl true], .lst [.str ⟨#[99]⟩], .lst [.str ⟨#[101]⟩, .tup [], .bl true], .lst [], .lst [.str ⟨#[100]⟩], .lst [.str ⟨#[97]⟩, .str ⟨#[99]⟩, .str ⟨#[98]⟩, .str ⟨#[100]⟩, .str ⟨#[101]⟩], .dic [(.inr ⟨#[97]⟩, .tup []), (.inr ⟨#[98]⟩, .tup []), (.inr ⟨#[99]⟩, .tup [.str ⟨#[97]⟩, .str ⟨#[98]⟩]), (.inr ⟨#[100]⟩, .tup [.str ⟨#[99]⟩]), (.inr ⟨#[101]⟩, .tup [])], .dic [(.inr ⟨#[97]⟩, .bl true)], .lst [], .lst [.bl true, .bl false], .lst [.str ⟨#[111, 114, 100, 101, 114]⟩, .bl true], .lst [.tup [.tup [.str ⟨#[97]⟩, .tup [], .bl true], .tup [.str ⟨#[98]⟩, .tup [], .bl true], .tup [.str ⟨#[99]⟩, .tup [.str ⟨#[97]⟩, .str ⟨#[98]⟩], .bl false], .tup [.str ⟨#[100]⟩, .tup [.str ⟨#[99]⟩], .bl true], .tup [.str ⟨#[101]⟩, .tup [], .bl true]], .tup [.str ⟨#[100]⟩]], .lst [.tup [.str ⟨#[97]⟩, .tup [], .bl true], .tup [.str ⟨#[98]⟩, .tup [], .bl true], .tup [.str ⟨#[99]⟩, .tup [.str ⟨#[97]⟩, .str ⟨#[98]⟩], .bl false], .tup [.str ⟨#[100]⟩, .tup [.str ⟨#[99]⟩], .bl true], .tup [.str ⟨#[101]⟩, .tup [], .bl true]], .lst [.str ⟨#[97]⟩, .tup [], .bl true], .lst [], .lst [.str ⟨#[98]⟩, .tup [], .bl true], .lst [], .lst [.str ⟨#[99]⟩, .tup [.str ⟨#[97]⟩, .str ⟨#[98]⟩], .bl false], .lst [.str ⟨#[97]⟩, .str ⟨#[98]⟩], .lst [.str ⟨#[100]⟩, .tup [.str ⟨#[99]⟩], .bl true], .lst [.str ⟨#[99]⟩], .lst [.str ⟨#[101]⟩, .tup [], .bl true], .lst [], .lst [.str ⟨#[100]⟩], .lst [.str ⟨#[97]⟩, .str ⟨#[99]⟩, .str ⟨#[98]⟩, .str ⟨#[100]⟩, .str ⟨#[101]⟩], .dic [(.inr ⟨#[97]⟩, .tup []), (.inr ⟨#[98]⟩, .tup []), (.inr ⟨#[99]⟩, .tup [.str ⟨#[97]⟩, .str ⟨#[98]⟩]), (.inr ⟨#[100]⟩, .tup [.str ⟨#[99]⟩]), (.inr ⟨#[101]⟩, .tup [])], .dic [(.inr ⟨#[97]⟩, .bl true)], .lst [], .lst [.bl true, .bl false], .lst [.str ⟨#[111, 114, 100, 101, 114]⟩, .bl true], .lst [.ref 0, .ref 4, .ref 12, .tup [.str ⟨#[98]⟩], .tup [.str ⟨#[97]⟩], .tup [.str ⟨#[97]⟩], .tup [], .tup [], .non, .ref 49, .ref 68]]
def he21 : Iv.Env := [some (.tup [.tup [.tup [.str ⟨#[97]⟩, .tup [], .bl true], .tup [.str ⟨#[98]⟩, .tup [], .bl true], .tup [.str ⟨#[99]⟩, .tup [.str ⟨#[97]⟩, .str ⟨#[98]⟩], .bl false], .tup [.str ⟨#[100]⟩, .tup [.str ⟨#[99]⟩], .bl true], .tup [.str ⟨#[101]⟩, .tup [], .bl true]], .tup [.str ⟨#[100]⟩]]), some (.tup [.str ⟨#[97]⟩, .str ⟨#[98]⟩, .str ⟨#[99]⟩, .str ⟨#[100]⟩, .str ⟨#[101]⟩]), some (.tup [.str ⟨#[98]⟩, .str ⟨#[101]⟩, .str ⟨#[97]⟩, .str ⟨#[99]⟩, .str ⟨#[100]⟩]), some (.tup [.tup [.str ⟨#[97]⟩, .int (4)], .tup [.str ⟨#[98]⟩, .int (6)], .tup [.str ⟨#[100]⟩, .int (3)], .tup [.str ⟨#[101]⟩, .int (9)]]), some (.int (10000000000000000000000000000000000000000)), some (.ref 69), some (.ref 73), some (.tup [.str ⟨#[97]⟩, .str ⟨#[98]⟩, .str ⟨#[99]⟩, .str ⟨#[100]⟩, .str ⟨#[101]⟩, .str ⟨#[102]⟩, .str ⟨#[103]⟩, .str ⟨#[104]⟩]), some (.tup [.tup [.tup [.str ⟨#[97]⟩, .tup [], .bl true], .tup [.str ⟨#[98]⟩, .tup [.str ⟨#[97]⟩], .bl true], .tup [.str ⟨#[99]⟩, .tup [.str ⟨#[98]⟩], .bl true], .tup [.str ⟨#[100]⟩, .tup [.str ⟨#[99]⟩], .bl true], .tup [.str ⟨#[101]⟩, .tup [.str ⟨#[100]⟩], .bl true], .tup [.str ⟨#[102]⟩, .tup [.str ⟨#[101]⟩], .bl true], .tup [.str ⟨#[103]⟩, .tup [.str ⟨#[102]⟩], .bl true], .tup [.str ⟨#[104]⟩, .tup [.str ⟨#[103]⟩], .bl true]], .tup [.str ⟨#[104]⟩]]), some (.int (9999999999999999999999999999999999999990)), some (.tup [.tup [.str ⟨#[97]⟩, .int (9999999999999999999999999999999999999990)], .tup [.str ⟨#[98]⟩, .int (9999999999999999999999999999999999999990)], .tup [.str ⟨#[99]⟩, .int (9999999999999999999999999999999999999990)], .tup [.str ⟨#[100]⟩, .int (9999999999999999999999999999999999999990)], .tup [.str ⟨#[101]⟩, .int (9999999999999999999999999999999999999990)], .tup [.str ⟨#[102]⟩, .int (9999999999999999999999999999999999999990)], .tup [.str ⟨#[103]⟩, .int (9999999999999999999999999999999999999990)], .tup [.str ⟨#[104]⟩, .int (9999999999999999999999999999999999999990)]]), some (.tup [.tup [.tup [.str ⟨#[97]⟩, .tup [], .bl true], .tup [.str ⟨#[98]⟩, .tup [.str ⟨#[97]⟩], .bl true], .tup [.str ⟨#[99]⟩, .tup [.str ⟨#[98]⟩], .bl false]], .tup []]), none, none, none, none, none]
def hh21 : IH := [.lst [.tup [], .tup [], .tup [.str ⟨#[98]⟩], .tup [.str ⟨#[98]⟩], .tup [.str ⟨#[98]⟩], .tup [.str ⟨#[97]⟩, .str ⟨#[98]⟩], .tup [.str ⟨#[97]⟩, .str ⟨#[98]⟩], .tup [.str ⟨#[97]⟩, .str ⟨#[98]⟩, .str ⟨#[100]⟩], .non, .non], .lst [.ref 0], .lst [.tup [], .tup [], .tup [.str ⟨#[98]⟩], .tup [.str ⟨#[98]⟩], .tup [.str ⟨#[98]⟩], .tup [.str ⟨#[97]⟩, .str ⟨#[98]⟩], .tup [.str ⟨#[97]⟩, .str ⟨#[98]⟩], .tup [.str ⟨#[97]⟩, .str ⟨#[98]⟩, .str ⟨#[100]⟩], .non, .non], .lst [.ref 2], .lst [.tup [], .tup [.str ⟨#[100]⟩], .tup [.str ⟨#[100]⟩], .tup [.str ⟨#[97]⟩, .str ⟨#[98]⟩], .tup [.str ⟨#[97]⟩, .str ⟨#[98]⟩, .str ⟨#[100]⟩]], .lst [.ref 4], .lst [.ref 0, .ref 4], .lst [.tup [], .tup [.str ⟨#[100]⟩], .tup [.str ⟨#[100]⟩], .tup [.str ⟨#[97]⟩, .str ⟨#[98]⟩], .tup [.str ⟨#[97]⟩, .str ⟨#[98]⟩, .str ⟨#[100]⟩]], .lst [.ref 7], .lst [.ref 2, .ref 7], .lst [.tup [.str ⟨#[97]⟩, .tup [], .bl true], .tup [.str ⟨#[98]⟩, .tup [.str ⟨#[97]⟩], .bl true], .tup [.str ⟨#[99]⟩, .tup [.str ⟨#[98]⟩], .bl true], .tup [.str ⟨#[100]⟩, .tup [.str ⟨#[99]⟩], .bl true], .tup [.str ⟨#[101]⟩, .tup [.str ⟨#[100]⟩], .bl true], .tup [.str ⟨#[102]⟩, .tup [.str ⟨#[101]⟩], .bl true], .tup [.str ⟨#[103]⟩, .tup [.str ⟨#[102]⟩], .bl true], .tup [.str ⟨#[104]⟩, .tup [.str ⟨#[103]⟩], .bl true]], .lst [.tup [.str ⟨#[97]⟩, .int (9999999999999999999999999999999999999990)], .tup [.str ⟨#[98]⟩, .int (9999999999999999999999999999999999999990)], .tup [.str ⟨#[99]⟩, .int (9999999999999999999999999999999999999990)], .tup [.str ⟨#[100]⟩, .int (9999999999999999999999999999999999999990)], .tup [.str ⟨#[101]⟩, .int (9999999999999999999999999999999999999990)], .tup [.str ⟨#[102]⟩, .int (9999999999999999999999999999999999999990)], .tup [.str ⟨#[103]⟩, .int (9999999999999999999999999999999999999990)], .tup [.str ⟨#[104]⟩, .int (9999999999999999999999999999999999999990)]], .lst [.tup [.str ⟨#[97]⟩, .str ⟨#[98]⟩, .str ⟨#[99]⟩, .str ⟨#[100]⟩, .str ⟨#[101]⟩, .str ⟨#[102]⟩, .str ⟨#[103]⟩, .str ⟨#[104]⟩], .non, .tup [.str ⟨#[97]⟩, .str ⟨#[98]⟩, .str ⟨#[99]⟩, .str ⟨#[100]⟩, .str ⟨#[101]⟩, .str ⟨#[102]⟩, .str ⟨#[103]⟩, .str ⟨#[104]⟩], .tup [.str ⟨#[97]⟩, .str ⟨#[98]⟩, .str ⟨#[99]⟩, .str ⟨#[100]⟩, .str ⟨#[101]⟩, .str ⟨#[102]⟩, .str ⟨#[103]⟩, .str ⟨#[104]⟩], .tup [.str ⟨#[97]⟩, .str ⟨#[98]⟩, .str ⟨#[99]⟩, .str ⟨#[100]⟩, .str ⟨#[101]⟩, .str ⟨#[102]⟩, .str ⟨#[103]⟩]], .lst [.ref 12], .lst [.ref 0, .ref 4, .ref 12], .lst [.tup [.str ⟨#[97]⟩, .str ⟨#[98]⟩, .str ⟨#[99]⟩, .str ⟨#[100]⟩, .str ⟨#[101]⟩, .str ⟨#[102]⟩, .str ⟨#[103]⟩, .str ⟨#[104]⟩], .non, .tup [.str ⟨#[97]⟩, .str ⟨#[98]⟩, .str ⟨#[99]⟩, .str ⟨#[100]⟩, .str ⟨#[101]⟩, .str ⟨#[102]⟩, .str ⟨#[103]⟩, .str ⟨#[104]⟩], .tup [.str ⟨#[97]⟩, .str ⟨#[98]⟩, .str ⟨#[99]⟩, .str ⟨#[100]⟩, .str ⟨#[101]⟩, .str ⟨#[102]⟩, .str ⟨#[103]⟩, .str ⟨#[104]⟩], .tup [.str ⟨#[97]⟩, .str ⟨#[98]⟩, .str ⟨#[99]⟩, .str ⟨#[100]⟩, .str ⟨#[101]⟩, .str ⟨#[102]⟩, .str ⟨#[103]⟩]], .lst [.ref 15], .lst [.ref 2, .ref 7, .ref 15], .lst [.tup [.str ⟨#[98]⟩]], .lst [.ref 0, .ref 4, .ref 12, .tup [.str ⟨#[98]⟩]], .lst [.tup [.str ⟨#[97]⟩]], .lst [.ref 0, .ref 4, .ref 12, .tup [.str ⟨#[98]⟩], .tup [.str ⟨#[97]⟩]], .lst [.tup [.str ⟨#[97]⟩]], .lst [.ref 0, .ref 4, .ref 12, .tup [.str ⟨#[98]⟩], .tup [.str ⟨#[97]⟩], .tup [.str ⟨#[97]⟩]], .lst [.tup []], .lst [.ref 0, .ref 4, .ref 12, .tup [.str ⟨#[98]⟩], .tup [.str ⟨#[97]⟩], .tup [.str ⟨#[97]⟩], .tup []], .lst [.tup [.str ⟨#[98]⟩], .tup [.str ⟨#[97]⟩], .tup [.str ⟨#[97]⟩], .tup []], .lst [.ref 2, .ref 7, .ref 15, .tup [.str ⟨#[98]⟩], .tup [.str ⟨#[97]⟩], .tup [.str ⟨#[97]⟩], .tup []], .lst [.tup [], .non], .lst [.ref 0, .ref 4, .ref 12, .tup [.str ⟨#[98]⟩], .tup [.str ⟨#[97]⟩], .tup [.str ⟨#[97]⟩], .tup [], .tup [], .non], .lst [.ref 49, .ref 68], .lst [.tup [.tup [.str ⟨#[97]⟩, .tup [], .bl true], .tup [.str ⟨#[98]⟩, .tup [], .bl true], .tup [.str ⟨#[99]⟩, .tup [.str ⟨#[97]⟩, .str ⟨#[98]⟩], .bl false], .tup [.str ⟨#[100]⟩, .tup [.str ⟨#[99]⟩], .bl true], .tup [.str ⟨#[101]⟩, .tup [], .bl true]], .tup [.str ⟨#[100]⟩]], .lst [.tup [.str ⟨#[97]⟩, .tup [], .bl true], .tup [.str ⟨#[98]⟩, .tup [], .bl true], .tup [.str ⟨#[99]⟩, .tup [.str ⟨#[97]⟩, .str ⟨#[98]⟩], .bl false], .tup [.str ⟨#[100]⟩, .tup [.str ⟨#[99]⟩], .bl true], .tup [.str ⟨#[101]⟩, .tup [], .bl true]], .lst [.str ⟨#[97]⟩, .tup [], .bl true], .lst [], .lst [.str ⟨#[98]⟩, .tup [], .bl true], .lst [], .lst [.str ⟨#[99]⟩, .tup [.str ⟨#[97]⟩, .str ⟨#[98]⟩], .bl false], .lst [.str ⟨#[97]⟩, .str ⟨#[98]⟩], .lst [.str ⟨#[100]⟩, .tup [.str ⟨#[99]⟩], .bl true], .lst [.str ⟨#[99]⟩], .lst [.str ⟨#[101]⟩, .tup [], .bl true], .lst [], .lst [.str ⟨#[100]⟩], .lst [.str ⟨#[97]⟩, .str ⟨#[99]⟩, .str ⟨#[98]⟩, .str ⟨#[100]⟩, .str ⟨#[101]⟩], .dic [(.inr ⟨#[97]⟩, .tup []), (.inr ⟨#[98]⟩, .tup []), (.inr ⟨#[99]⟩, .tup [.str ⟨#[97]⟩, .str ⟨#[98]⟩]), (.inr ⟨#[100]⟩, .tup [.str ⟨#[99]⟩]), (.inr ⟨#[101]⟩, .tup [])], .dic [(.inr ⟨#[97]⟩, .bl true)], .lst [], .lst [.bl true, .bl false], .lst [.str ⟨#[111, 114, 100, 101, 114]⟩, .bl true], .lst [.tup [.tup [.str ⟨#[97]⟩, .tup [], .bl true], .tup [.str ⟨#[98]⟩, .tup [], .bl true], .tup [.str ⟨#[99]⟩, .tup [.str ⟨#[97]⟩, .str ⟨#[98]⟩], .bl false], .tup [.str ⟨#[100]⟩, .tup [.str ⟨#[99]⟩], .bl true], .tup [.str ⟨#[101]⟩, .tup [], .bl true]], .tup [.str ⟨#[100]⟩]], .lst [.tup [.str ⟨#[97]⟩, .tup [], .bl true], .tup [.str ⟨#[98]⟩, .tup [], .bl true], .tup [.str ⟨#[99]⟩, .tup [.str ⟨#[97]⟩, .str ⟨#[98]⟩], .bl false], .tup [.str ⟨#[100]⟩, .tup [.str ⟨#[99]⟩], .bl true], .tup [.str ⟨#[101]⟩, .tup [], .bl true]], .lst [.str ⟨#[97]⟩, .tup [], .bl true], .lst [], .lst [.str ⟨#[98]⟩, .tup [], .bl true], .lst [], .lst [.str ⟨#[99]⟩, .tup [.str ⟨#[97]⟩, .str ⟨#[98]⟩], .bl false], .lst [.str ⟨#[97]⟩, .str ⟨#[98]⟩], .lst [.str ⟨#[100]⟩, .tup [.str ⟨#[99]⟩], .bl true], .lst [.str ⟨#[99]⟩], .lst [.str ⟨#[101]⟩, .tup [], .bl true], .lst [], .lst [.str ⟨#[100]⟩], .lst [.str ⟨#[97]⟩, .str ⟨#[99]⟩, .str ⟨#[98]⟩, .str ⟨#[100]⟩, .str ⟨#[101]⟩], .dic [(.inr ⟨#[97]⟩, .tup []), (.inr ⟨#[98]⟩, .tup []), (.inr ⟨#[99]⟩, .tup [.str ⟨#[97]⟩, .str ⟨#[98]⟩]), (.inr ⟨#[100]⟩, .tup [.str ⟨#[99]⟩]), (.inr ⟨#[101]⟩, .tup [])], .dic [(.inr ⟨#[97]⟩, .bl true)], .lst [], .lst [.bl true, .bl false], .lst [.str ⟨#[111, 114, 100, 101, 114]⟩, .bl true], .lst [.ref 0, .ref 4, .ref 12, .tup [.str ⟨#[98]⟩], .tup [.str ⟨#[97]⟩], .tup [.str ⟨#[97]⟩], .tup [], .tup [], .non, .ref 49, .ref 68], .lst [.str ⟨#[111, 114, 100, 101, 114]⟩, .bl true], .lst [.str ⟨#[111, 114, 100, 101, 114]⟩, .bl true], .lst [.tup [], .non, .ref 70, .ref 71], .lst [.ref 2, .ref 7, .ref 15, .tup [.str ⟨#[98]⟩], .tup [.str ⟨#[97]⟩], .tup [.str ⟨#[97]⟩], .tup [], .tup [], .non, .ref 70, .ref 71]]
def he22 : Iv.Env := [some (.tup [.tup [.tup [.str ⟨#[97]⟩, .tup [], .bl true], .tup [.str ⟨#[98]⟩, .tup [], .bl true], .tup [.str ⟨#[99]⟩, .tup [.str ⟨#[97]⟩, .str ⟨#[98]⟩], .bl false], .tup [.str ⟨#[100]⟩, .tup [.str ⟨#[99]⟩], .bl true], .tup [.str ⟨#[101]⟩, .tup [], .bl true]], .tup [.str ⟨#[100]⟩]]), some (.tup [.str ⟨#[97]⟩, .str ⟨#[98]⟩, .str ⟨#[99]⟩, .str ⟨#[100]⟩, .str ⟨#[101]⟩]), some (.tup [.str ⟨#[98]⟩, .str ⟨#[101]⟩, .str ⟨#[97]⟩, .str ⟨#[99]⟩, .str ⟨#[100]⟩]), some (.tup [.tup [.str ⟨#[97]⟩, .int (4)], .tup [.str ⟨#[98]⟩, .int (6)], .tup [.str ⟨#[100]⟩, .int (3)], .tup [.str ⟨#[101]⟩, .int (9)]]), some (.int (10000000000000000000000000000000000000000)), some (.ref 69), some (.ref 73), some (.tup [.str ⟨#[97]⟩, .str ⟨#[98]⟩, .str ⟨#[99]⟩, .str ⟨#[100]⟩, .str ⟨#[101]⟩, .str ⟨#[102]⟩, .str ⟨#[103]⟩, .str ⟨#[104]⟩]), some (.tup [.tup [.tup [.str ⟨#[97]⟩, .tup [], .bl true], .tup [.str ⟨#[98]⟩, .tup [.str ⟨#[97]⟩], .bl true], .tup [.str ⟨#[99]⟩, .tup [.str ⟨#[98]⟩], .bl true], .tup [.str ⟨#[100]⟩, .tup [.str ⟨#[99]⟩], .bl true], .tup [.str ⟨#[101]⟩, .tup [.str ⟨#[100]⟩], .bl true], .tup [.str ⟨#[102]⟩, .tup [.str ⟨#[101]⟩], .bl true], .tup [.str ⟨#[103]⟩, .tup [.str ⟨#[102]⟩], .bl true], .tup [.str ⟨#[104]⟩, .tup [.str ⟨#[103]⟩], .bl true]], .tup [.str ⟨#[104]⟩]]), some (.int (9999999999999999999999999999999999999990)), some (.tup [.tup [.str ⟨#[97]⟩, .int (9999999999999999999999999999999999999990)], .tup [.str ⟨#[98]⟩, .int (9999999999999999999999999999999999999990)], .tup [.str ⟨#[99]⟩, .int (9999999999999999999999999999999999999990)], .tup [.str ⟨#[100]⟩, .int (9999999999999999999999999999999999999990)], .tup [.str ⟨#[101]⟩, .int (9999999999999999999999999999999999999990)], .tup [.str ⟨#[102]⟩, .int (9999999999999999999999999999999999999990)], .tup [.str ⟨#[103]⟩, .int (9999999999999999999999999999999999999990)], .tup [.str ⟨#[104]⟩, .int (9999999999999999999999999999999999999990)]]), some (.tup [.tup [.tup [.str ⟨#[97]⟩, .tup [], .bl true], .tup [.str ⟨#[98]⟩, .tup [.str ⟨#[97]⟩], .bl true], .tup [.str ⟨#[99]⟩, .tup [.str ⟨#[98]⟩], .bl false]], .tup []]), some (.ref 93), none, none, none, none]
def hh22 : IH := [.lst [.tup [], .tup [], .tup [.str ⟨#[98]⟩], .tup [.str ⟨#[98]⟩], .tup [.str ⟨#[98]⟩], .tup [.str ⟨#[97]⟩, .str ⟨#[98]⟩], .tup [.str ⟨#[97]⟩, .str ⟨#[98]⟩], .tup [.str ⟨#[97]⟩, .str ⟨#[98]⟩, .str ⟨#[100]⟩], .non, .non], .lst [.ref 0], .lst [.tup [], .tup [], .tup [.str ⟨#[98]⟩], .tup [.str ⟨#[98]⟩], .tup [.str ⟨#[98]⟩], .tup [.str ⟨#[97]⟩, .str ⟨#[98]⟩], .tup [.str ⟨#[97]⟩, .str ⟨#[98]⟩], .tup [.str ⟨#[97]⟩, .str ⟨#[98]⟩, .str ⟨#[100]⟩], .non, .non], .lst [.ref 2], .lst [.tup [], .tup [.str ⟨#[100]⟩], .tup [.str ⟨#[100]⟩], .tup [.str ⟨#[97]⟩, .str ⟨#[98]⟩], .tup [.str ⟨#[97]⟩, .str ⟨#[98]⟩, .str ⟨#[100]⟩]], .lst [.ref 4], .lst [.ref 0, .ref 4], .lst [.tup [], .tup [.str ⟨#[100]⟩], .tup [.str ⟨#[100]⟩], .tup [.str ⟨#[97]⟩, .str ⟨#[98]⟩], .tup [.str ⟨#[97]⟩, .str ⟨#[98]⟩, .str ⟨#[100]⟩]], .lst [.ref 7], .lst [.ref 2, .ref 7], .lst [.tup [.str ⟨#[97]⟩, .tup [], .bl true], .tup [.str ⟨#[98]⟩, .tup [.str ⟨#[97]⟩], .bl true], .tup [.str ⟨#[99]⟩, .tup [.str ⟨#[98]⟩], .bl true], .tup [.str ⟨#[100]⟩, .tup [.str ⟨#[99]⟩], .bl true], .tup [.str ⟨#[101]⟩, .tup [.str ⟨#[100]⟩], .bl true], .tup [.str ⟨#[102]⟩, .tup [.str ⟨#[101]⟩], .bl true], .tup [.str ⟨#[103]⟩, .tup [.str ⟨#[102]⟩], .bl true], .tup [.str ⟨#[104]⟩, .tup [.str ⟨#[103]⟩], .bl true]], .lst [.tup [.str ⟨#[97]⟩, .int (9999999999999999999999999999999999999990)], .tup [.str ⟨#[98]⟩, .int (9999999999999999999999999999999999999990)], .tup [.str ⟨#[99]⟩, .int (9999999999999999999999999999999999999990)], .tup [.str ⟨#[100]⟩, .int (9999999999999999999999999999999999999990)], .tup [.str ⟨#[101]⟩, .int (9999999999999999999999999999999999999990)], .tup [.str ⟨#[102]⟩, .int (9999999999999999999999999999999999999990)], .tup [.str ⟨#[103]⟩, .int (9999999999999999999999999999999999999990)], .tup [.str ⟨#[104]⟩, .int (9999999999999999999999999999999999999990)]], .lst [.tup [.str ⟨#[97]⟩, .str ⟨#[98]⟩, .str ⟨#[99]⟩, .str ⟨#[100]⟩, .str ⟨#[101]⟩, .str ⟨#[102]⟩, .str ⟨#[103]⟩, .str ⟨#[104]⟩], .non, .tup [.str ⟨#[97]⟩, .str ⟨#[98]⟩, .str ⟨#[99]⟩, .str ⟨#[100]⟩, .str ⟨#[101]⟩, .str ⟨#[102]⟩, .str ⟨#[103]⟩, .str ⟨#[104]⟩], .tup [.str ⟨#[97]⟩, .str ⟨#[98]⟩, .str ⟨#[99]⟩, .str ⟨#[100]⟩, .str ⟨#[101]⟩, .str ⟨#[102]⟩, .str ⟨#[103]⟩, .str ⟨#[104]⟩], .tup [.str ⟨#[97]⟩, .str ⟨#[98]⟩, .str ⟨#[99]⟩, .str ⟨#[100]⟩, .str ⟨#[101]⟩, .str ⟨#[102]⟩, .str ⟨#[103]⟩]], .lst [.ref 12], .lst [.ref 0, .ref 4, .ref 12], .lst [.tup [.str ⟨#[97]⟩, .str ⟨#[98]⟩, .str ⟨#[99]⟩, .str ⟨#[100]⟩, .str ⟨#[101]⟩, .str ⟨#[102]⟩, .str ⟨#[103]⟩, .str ⟨#[104]⟩], .non, .tup [.str ⟨#[97]⟩, .str ⟨#[98]⟩, .str ⟨#[99]⟩, .str ⟨#[100]⟩, .str ⟨#[101]⟩, .str ⟨#[102]⟩, .str ⟨#[103]⟩, .str ⟨#[104]⟩], .tup [.str ⟨#[97]⟩, .str ⟨#[98]⟩, .str ⟨#[99]⟩, .str ⟨#[100]⟩, .str ⟨#[101]⟩, .str ⟨#[102]⟩, .str ⟨#[103]⟩, .str ⟨#[104]⟩], .tup [.str ⟨#[97]⟩, .str ⟨#[98]⟩, .str ⟨#[99]⟩, .str ⟨#[100]⟩, .str ⟨#[101]⟩, .str ⟨#[102]⟩, .str ⟨#[103]⟩]], .lst [.ref 15], .lst [.ref 2, .ref 7, .ref 15], .lst [.tup [.str ⟨#[98]⟩]], .lst [.ref 0, .ref 4, .ref 12, .tup [.str ⟨#[98]⟩]], .lst [.tup [.str ⟨#[97]⟩]], .lst [.ref 0, .ref 4, .ref 12, .tup [.str ⟨#[98]⟩], .tup [.str ⟨#[97]⟩]], .lst [.tup [.str ⟨#[97]⟩]], .lst [.ref 0, .ref 4, .ref 12, .tup [.str ⟨#[98]⟩], .tup [.str ⟨#[97]⟩], .tup [.str ⟨#[97]⟩]], .lst [.tup []], .lst [.ref 0, .ref 4, .ref 12, .tup [.str ⟨#[98]⟩], .tup [.str ⟨#[97]⟩], .tup [.str ⟨#[97]⟩], .tup []], .lst [.tup [.str ⟨#[98]⟩], .tup [.str ⟨#[97]⟩], .tup [.str ⟨#[97]⟩], .tup []], .lst [.ref 2, .ref 7, .ref 15, .tup [.str ⟨#[98]⟩], .tup [.str ⟨#[97]⟩], .tup [.str ⟨#[97]⟩], .tup []], .lst [.tup [], .non], .lst [.ref 0, .ref 4, .ref 12, .tup [.str ⟨#[98]⟩], .tup [.str ⟨#[97]⟩], .tup [.str ⟨#[97]⟩], .tup [], .tup [], .non], .lst [.ref 49, .ref 68], .lst [.tup [.tup [.str ⟨#[97]⟩, .tup [], .bl true], .tup [.str ⟨#[98]⟩, .tup [], .bl true], .tup [.str ⟨#[99]⟩, .tup [.str ⟨#[97]⟩, .str ⟨#[98]⟩], .bl false], .tup [.str ⟨#[100]⟩, .tup [.str ⟨#[99]⟩], .bl true], .tup [.str ⟨#[101]⟩, .tup [], .bl true]], .tup [.str ⟨#[100]⟩]], .lst [.tup [.str ⟨#[97]⟩, .tup [], .bl true], .tup [.str ⟨#[98]⟩, .tup [], .bl true], .tup [.str ⟨#[99]⟩, .tup [.str ⟨#[97]⟩, .str ⟨#[98]⟩], .bl false], .tup [.str ⟨#[100]⟩, .tup [.str ⟨#[99]⟩], .bl true], .tup [.str ⟨#[101]⟩, .tup [], .bl true]], .lst [.str ⟨#[97]⟩, .tup [], .bl true], .lst [], .lst [.str ⟨#[98]⟩, .tup [], .bl true], .lst [], .lst [.str ⟨#[99]⟩, .tup [.str ⟨#[97]⟩, .str ⟨#[98]⟩], .bl false], .lst [.str ⟨#[97]⟩, .str ⟨#[98]⟩], .lst [.str ⟨#[100]⟩, .tup [.str ⟨#[99]⟩], .bl true], .lst [.str ⟨#[99]⟩], .lst [.str ⟨#[101]⟩, .tup [], .bl true], .lst [], .lst [.str ⟨#[100]⟩], .lst [.str ⟨#[97]⟩, .str ⟨#[99]⟩, .str ⟨#[98]⟩, .str ⟨#[100]⟩, .str ⟨#[101]⟩], .dic [(.inr ⟨#[97]⟩, .tup []), (.inr ⟨#[98]⟩, .tup []), (.inr ⟨#[99]⟩, .tup [.str ⟨#[97]⟩, .str ⟨#[98]⟩]), (.inr ⟨#[100]⟩, .tup [.str ⟨#[99]⟩]), (.inr ⟨#[101]⟩, .tup [])], .dic [(.inr ⟨#[97]⟩, .bl true)], .lst [], .lst [.bl true, .bl false], .lst [.str ⟨#[111, 114, 100, 101, 114]⟩, .bl true], .lst [.tup [.tup [.str ⟨#[97]⟩, .tup [], .bl true], .tup [.str ⟨#[98]⟩, .tup [], .bl true], .tup [.str ⟨#[99]⟩, .tup [.str ⟨#[97]⟩, .str ⟨#[98]⟩], .bl false], .tup [.str ⟨#[100]⟩, .tup [.str ⟨#[99]⟩], .bl true], .tup [.str ⟨#[101]⟩, .tup [], .bl true]], .tup [.str ⟨#[100]⟩]], .lst [.tup [.str ⟨#[97]⟩, .tup [], .bl true], .tup [.str ⟨#[98]⟩, .tup [], .bl true], .tup [.str ⟨#[99]⟩, .tup [.str ⟨#[97]⟩, .str ⟨#[98]⟩], .bl false], .tup [.str ⟨#[100]⟩, .tup [.str ⟨#[99]⟩], .bl true], .tup [.str ⟨#[101]⟩, .tup [], .bl true]], .lst [.str ⟨#[97]⟩, .tup [], .bl true], .lst [], .lst [.str ⟨#[98]⟩, .tup [], .bl true], .lst [], .lst [.str ⟨#[99]⟩, .tup [.str ⟨#[97]⟩, .str ⟨#[98]⟩], .bl false], .lst [.str ⟨#[97]⟩, .str ⟨#[98]⟩], .lst [.str ⟨#[100]⟩, .tup [.str ⟨#[99]⟩], .bl true], .lst [.str ⟨#[99]⟩], .lst [.str ⟨#[101]⟩, .tup [], .bl true], .lst [], .lst [.str ⟨#[100]⟩], .lst [.str ⟨#[97]⟩, .str ⟨#[99]⟩, .str ⟨#[98]⟩, .str ⟨#[100]⟩, .str ⟨#[101]⟩], .dic [(.inr ⟨#[97]⟩, .tup []), (.inr ⟨#[98]⟩, .tup []), (.inr ⟨#[99]⟩, .tup [.str ⟨#[97]⟩, .str ⟨#[98]⟩]), (.inr ⟨#[100]⟩, .tup [.str ⟨#[99]⟩]), (.inr ⟨#[101]⟩, .tup [])], .dic [(.inr ⟨#[97]⟩, .bl true)], .lst [], .lst [.bl true, .bl false], .lst [.str ⟨#[111, 114, 100, 101, 114]⟩, .bl true], .lst [.ref 0, .ref 4, .ref 12, .tup [.str ⟨#[98]⟩], .tup [.str ⟨#[97]⟩], .tup [.str ⟨#[97]⟩], .tup [], .tup [], .non, .ref 49, .ref 68], .lst [.str ⟨#[111, 114, 100, 101, 114]⟩, .bl true], .lst [.str ⟨#[111, 114, 100, 101, 114]⟩, .bl true], .lst [.tup [], .non, .ref 70, .ref 71], .lst [.ref 2, .ref 7, .ref 15, .tup [.str ⟨#[98]⟩], .tup [.str ⟨#[97]⟩], .tup [.str ⟨#[97]⟩], .tup [], .tup [], .non, .ref 70, .ref 71], .lst [.ref 75, .ref 86], .lst [.ref 76, .ref 78, .ref 80, .ref 82, .ref 84], .lst [.str ⟨#[97]⟩, .ref 77, .bl true], .lst [], .lst [.str ⟨#[98]⟩, .ref 79, .bl true], .lst [], .lst [.str ⟨#[99]⟩, .ref 81, .bl false], .lst [.str ⟨#[97]⟩, .str ⟨#[98]⟩], .lst [.str ⟨#[100]⟩, .ref 83, .bl true], .lst [.str ⟨#[99]⟩], .lst [.str ⟨#[101]⟩, .ref 85, .bl true], .lst [], .lst [.str ⟨#[100]⟩], .lst [.str ⟨#[97]⟩, .str ⟨#[98]⟩, .str ⟨#[99]⟩, .str ⟨#[100]⟩, .str ⟨#[101]⟩], .lst [.ref 89, .ref 90, .ref 91, .ref 92], .lst [.str ⟨#[97]⟩, .int (4)], .lst [.str ⟨#[98]⟩, .int (6)], .lst [.str ⟨#[100]⟩, .int (3)], .lst [.str ⟨#[101]⟩, .int (9)], .lst [.ref 74, .ref 87, .ref 88]]
def he23 : Iv.Env := [some (.tup [.tup [.tup [.str ⟨#[97]⟩, .tup [], .bl true], .tup [.str ⟨#[98]⟩, .tup [], .bl true], .tup [.str ⟨#[99]⟩, .tup [.str ⟨#[97]⟩, .str ⟨#[98]⟩], .bl false], .tup [.str ⟨#[100]⟩, .tup [.str ⟨#[99]⟩], .bl true], .tup [.str ⟨#[101]⟩, .tup [], .bl true]], .tup [.str ⟨#[100]⟩]]), some (.tup [.str ⟨#[97]⟩, .str ⟨#[98]⟩, .str ⟨#[99]⟩, .str ⟨#[100]⟩, .str ⟨#[101]⟩]), some (.tup [.str ⟨#[98]⟩, .str ⟨#[101]⟩, .str ⟨#[97]⟩, .str ⟨#[99]⟩, .str ⟨#[100]⟩]), some (.tup [.tup [.str ⟨#[97]⟩, .int (4)], .tup [.str ⟨#[98]⟩, .int (6)], .tup [.str ⟨#[100]⟩, .int (3)], .tup [.str ⟨#[101]⟩, .int (9)]]), some (.int (10000000000000000000000000000000000000000)), some (.ref 69), some (.ref 73), some (.tup [.str ⟨#[97]⟩, .str ⟨#[98]⟩, .str ⟨#[99]⟩, .str ⟨#[100]⟩, .str ⟨#[101]⟩, .str ⟨#[102]⟩, .str ⟨#[103]⟩, .str ⟨#[104]⟩]), some (.tup [.tup [.tup [.str ⟨#[97]⟩, .tup [], .bl true], .tup [.str ⟨#[98]⟩, .tup [.str ⟨#[97]⟩], .bl true], .tup [.str ⟨#[99]⟩, .tup [.str ⟨#[98]⟩], .bl true], .tup [.str ⟨#[100]⟩, .tup [.str ⟨#[99]⟩], .bl true], .tup [.str ⟨#[101]⟩, .tup [.str ⟨#[100]⟩], .bl true], .tup [.str ⟨#[102]⟩, .tup [.str ⟨#[101]⟩], .bl true], .tup [.str ⟨#[103]⟩, .tup [.str ⟨#[102]⟩], .bl true], .tup [.str ⟨#[104]⟩, .tup [.str ⟨#[103]⟩], .bl true]], .tup [.str ⟨#[104]⟩]]), some (.int (9999999999999999999999999999999999999990)), some (.tup [.tup [.str ⟨#[97]⟩, .int (9999999999999999999999999999999999999990)], .tup [.str ⟨#[98]⟩, .int (9999999999999999999999999999999999999990)], .tup [.str ⟨#[99]⟩, .int (9999999999999999999999999999999999999990)], .tup [.str ⟨#[100]⟩, .int (9999999999999999999999999999999999999990)], .tup [.str ⟨#[101]⟩, .int (9999999999999999999999999999999999999990)], .tup [.str ⟨#[102]⟩, .int (9999999999999999999999999999999999999990)], .tup [.str ⟨#[103]⟩, .int (9999999999999999999999999999999999999990)], .tup [.str ⟨#[104]⟩, .int (9999999999999999999999999999999999999990)]]), some (.tup [.tup [.tup [.str ⟨#[97]⟩, .tup [], .bl true], .tup [.str ⟨#[98]⟩, .tup [.str ⟨#[97]⟩], .bl true], .tup [.str ⟨#[99]⟩, .tup [.str ⟨#[98]⟩], .bl false]], .tup []]), some (.ref 93), none, none, none, none]
def hh23 : IH := [.lst [.tup [], .tup [], .tup [.str ⟨#[98]⟩], .tup [.str ⟨#[98]⟩], .tup [.str ⟨#[98]⟩], .tup [.str ⟨#[97]⟩, .str ⟨#[98]⟩], .tup [.str ⟨#[97]⟩, .str ⟨#[98]⟩], .tup [.str ⟨#[97]⟩, .str ⟨#[98]⟩, .str ⟨#[100]⟩], .non, .non], .lst [.ref 0], .lst [.tup [], .tup [], .tup [.str ⟨#[98]⟩], .tup [.str ⟨#[98]⟩], .tup [.str ⟨#[98]⟩], .tup [.str ⟨#[97]⟩, .str ⟨#[98]⟩], .tup [.str ⟨#[97]⟩, .str ⟨#[98]⟩], .tup [.str ⟨#[97]⟩, .str ⟨#[98]⟩, .str ⟨#[100]⟩], .non, .non], .lst [.ref 2], .lst [.tup [], .tup [.str ⟨#[100]⟩], .tup [.str ⟨#[100]⟩], .tup [.str ⟨#[97]⟩, .str ⟨#[98]⟩], .tup [.str ⟨#[97]⟩, .str ⟨#[98]⟩, .str ⟨#[100]⟩]], .lst [.ref 4], .lst [.ref 0, .ref 4], .lst [.tup [], .tup [.str ⟨#[100]⟩], .tup [.str ⟨#[100]⟩], .tup [.str ⟨#[97]⟩, .str ⟨#[98]⟩], .tup [.str ⟨#[97]⟩, .str ⟨#[98]⟩, .str ⟨#[100]⟩]], .lst [.ref 7], .lst [.ref 2, .ref 7], .lst [.tup [.str ⟨#[97]⟩, .tup [], .bl true], .tup [.str ⟨#[98]⟩, .tup [.str ⟨#[97]⟩], .bl true], .tup [.str ⟨#[99]⟩, .tup [.str ⟨#[98]⟩], .bl true], .tup [.str ⟨#[100]⟩, .tup [.str ⟨#[99]⟩], .bl true], .tup [.str ⟨#[101]⟩, .tup [.str ⟨#[100]⟩], .bl true], .tup [.str ⟨#[102]⟩, .tup [.str ⟨#[101]⟩], .bl true], .tup [.str ⟨#[103]⟩, .tup [.str ⟨#[102]⟩], .bl true], .tup [.str ⟨#[104]⟩, .tup [.str ⟨#[103]⟩], .bl true]], .lst [.tup [.str ⟨#[97]⟩, .int (9999999999999999999999999999999999999990)], .tup [.str ⟨#[98]⟩, .int (9999999999999999999999999999999999999990)], .tup [.str ⟨#[99]⟩, .int (9999999999999999999999999999999999999990)], .tup [.str ⟨#[100]⟩, .int (9999999999999999999999999999999999999990)], .tup [.str ⟨#[101]⟩, .int (9999999999999999999999999999999999999990)], .tup [.str ⟨#[102]⟩, .int (9999999999999999999999999999999999999990)], .tup [.str ⟨#[103]⟩, .int (9999999999999999999999999999999999999990)], .tup [.str ⟨#[104]⟩, .int (9999999999999999999999999999999999999990)]], .lst [.tup [.str ⟨#[97]⟩, .str ⟨#[98]⟩, .str ⟨#[99]⟩, .str ⟨#[100]⟩, .str ⟨#[101]⟩, .str ⟨#[102]⟩, .str ⟨#[103]⟩, .str ⟨#[104]⟩], .non, .tup [.str ⟨#[97]⟩, .str ⟨#[98]⟩, .str ⟨#[99]⟩, .str ⟨#[100]⟩, .str ⟨#[101]⟩, .str ⟨#[102]⟩, .str ⟨#[103]⟩, .str ⟨#[104]⟩], .tup [.str ⟨#[97]⟩, .str ⟨#[98]⟩, .str ⟨#[99]⟩, .str ⟨#[100]⟩, .str ⟨#[101]⟩, .str ⟨#[102]⟩, .str ⟨#[103]⟩, .str ⟨#[104]⟩], .tup [.str ⟨#[97]⟩, .str ⟨#[98]⟩, .str ⟨#[99]⟩, .str ⟨#[100]⟩, .str ⟨#[101]⟩, .str ⟨#[102]⟩, .str ⟨#[103]⟩]], .lst [.ref 12], .lst [.ref 0, .ref 4, .ref 12], .lst [.tup [.str ⟨#[97]⟩, .str ⟨#[98]⟩, .str ⟨#[99]⟩, .str ⟨#[100]⟩, .str ⟨#[101]⟩, .str ⟨#[102]⟩, .str ⟨#[103]⟩, .str ⟨#[104]⟩], .non, .tup [.str ⟨#[97]⟩, .str ⟨#[98]⟩, .str ⟨#[99]⟩, .str ⟨#[100]⟩, .str ⟨#[101]⟩, .str ⟨#[102]⟩, .str ⟨#[103]⟩, .str ⟨#[104]⟩], .tup [.str ⟨#[97]⟩, .str ⟨#[98]⟩, .str ⟨#[99]⟩, .str ⟨#[100]⟩, .str ⟨#[101]⟩, .str ⟨#[102]⟩, .str ⟨#[103]⟩, .str ⟨#[104]⟩], .tup [.str ⟨#[97]⟩, .str ⟨#[98]⟩, .str ⟨#[99]⟩, .str ⟨#[100]⟩, .str ⟨#[101]⟩, .str ⟨#[102]⟩, .str ⟨#[103]⟩]], .lst [.ref 15], .lst [.ref 2, .ref 7, .ref 15], .lst [.tup [.str ⟨#[98]⟩]], .lst [.ref 0, .ref 4, .ref 12, .tup [.str ⟨#[98]⟩]], .lst [.tup [.str ⟨#[97]⟩]], .lst [.ref 0, .ref 4, .ref 12, .tup [.str ⟨#[98]⟩], .tup [.str ⟨#[97]⟩]], .lst [.tup [.str ⟨#[97]⟩]], .lst [.ref 0, .ref 4, .ref 12, .tup [.str ⟨#[98]⟩], .tup [.str ⟨#[97]⟩], .tup [.str ⟨#[97]⟩]], .lst [.tup []], .lst [.ref 0, .ref 4, .ref 12, .tup [.str ⟨#[98]⟩], .tup [.str ⟨#[97]⟩], .tup [.str ⟨#[97]⟩], .tup []], .lst [.tup [.str ⟨#[98]⟩], .tup [.str ⟨#[97]⟩], .tup [.str ⟨#[97]⟩], .tup []], .lst [.ref 2, .ref 7, .ref 15, .tup [.str ⟨#[98]⟩], .tup [.str ⟨#[97]⟩], .tup [.str ⟨#[97]⟩], .tup []], .lst [.tup [], .non], .lst [.ref 0, .ref 4, .ref 12, .tup [.str ⟨#[98]⟩], .tup [.str ⟨#[97]⟩], .tup [.str ⟨#[97]⟩], .tup [], .tup [], .non], .lst [.ref 49, .ref 68], .lst [.tup [.tup [.str ⟨#[97]⟩, .tup [], .bl true], .tup [.str ⟨#[98]⟩, .tup [], .bl true], .tup [.str ⟨#[99]⟩, .tup [.str ⟨#[97]⟩, .str ⟨#[98]⟩], .bl false], .tup [.str ⟨#[100]⟩, .tup [.str ⟨#[99]⟩], .bl true], .tup [.str ⟨#[101]⟩, .tup [], .bl true]], .tup [.str ⟨#[100]⟩]], .lst [.tup [.str ⟨#[97]⟩, .tup [], .bl true], .tup [.str ⟨#[98]⟩, .tup [], .bl true], .tup [.str ⟨#[99]⟩, .tup [.str ⟨#[97]⟩, .str ⟨#[98]⟩], .bl false], .tup [.str ⟨#[100]⟩, .tup [.str ⟨#[99]⟩], .bl true], .tup [.str ⟨#[101]⟩, .tup [], .bl true]], .lst [.str ⟨#[97]⟩, .tup [], .bl true], .lst [], .lst [.str ⟨#[98]⟩, .tup [], .bl true], .lst [], .lst [.str ⟨#[99]⟩, .tup [.str ⟨#[97]⟩, .str ⟨#[98]⟩], .bl false], .lst [.str ⟨#[97]⟩, .str ⟨#[98]⟩], .lst [.str ⟨#[100]⟩, .tup [.str ⟨#[99]⟩], .bl true], .lst [.str ⟨#[99]⟩], .lst [.str ⟨#[101]⟩, .tup [], .bl true], .lst [], .lst [.str ⟨#[100]⟩], .lst [.str ⟨#[97]⟩, .str ⟨#[99]⟩, .str ⟨#[98]⟩, .str ⟨#[100]⟩, .str ⟨#[101]⟩], .dic [(.inr ⟨#[97]⟩, .tup []), (.inr ⟨#[98]⟩, .tup []), (.inr ⟨#[99]⟩, .tup [.str ⟨#[97]⟩, .str ⟨#[98]⟩]), (.inr ⟨#[100]⟩, .tup [.str ⟨#[99]⟩]), (.inr ⟨#[101]⟩, .tup [])], .dic [(.inr ⟨#[97]⟩, .bl true)], .lst [], .lst [.bl true, .bl false], .lst [.str ⟨#[111, 114, 100, 101, 114]⟩, .bl true], .lst [.tup [.tup [.str ⟨#[97]⟩, .tup [], .bl true], .tup [.str ⟨#[98]⟩, .tup [], .bl true], .tup [.str ⟨#[99]⟩, .tup [.str ⟨#[97]⟩, .str ⟨#[98]⟩], .bl false], .tup [.str ⟨#[100]⟩, .tup [.str ⟨#[99]⟩], .bl true], .tup [.str ⟨#[101]⟩, .tup [], .bl true]], .tup [.str ⟨#[100]⟩]], .lst [.tup [.str ⟨#[97]⟩, .tup [], .bl true], .tup [.str ⟨#[98]⟩, .tup [], .bl true], .tup [.str ⟨#[99]⟩, .tup [.str ⟨#[97]⟩, .str ⟨#[98]⟩], .bl false], .tup [.str ⟨#[100]⟩, .tup [.str ⟨#[99]⟩], .bl true], .tup [.str ⟨#[101]⟩, .tup [], .bl true]], .lst [.str ⟨#[97]⟩, .tup [], .bl true], .lst [], .lst [.str ⟨#[98]⟩, .tup [], .bl true], .lst [], .lst [.str ⟨#[99]⟩, .tup [.str ⟨#[97]⟩, .str ⟨#[98]⟩], .bl false], .lst [.str ⟨#[97]⟩, .str ⟨#[98]⟩], .lst [.str ⟨#[100]⟩, .tup [.str ⟨#[99]⟩], .bl true], .lst [.str ⟨#[99]⟩], .lst [.str ⟨#[101]⟩, .tup [], .bl true], .lst [], .lst [.str ⟨#[100]⟩], .lst [.str ⟨#[97]⟩, .str ⟨#[99]⟩, .str ⟨#[98]⟩, .str ⟨#[100]⟩, .str ⟨#[101]⟩], .dic [(.inr ⟨#[97]⟩, .tup []), (.inr ⟨#[98]⟩, .tup []), (.inr ⟨#[99]⟩, .tup [.str ⟨#[97]⟩, .str ⟨#[98]⟩]), (.inr ⟨#[100]⟩, .tup [.str ⟨#[99]⟩]), (.inr ⟨#[101]⟩, .tup [])], .dic [(.inr ⟨#[97]⟩, .bl true)], .lst [], .lst [.bl true, .bl false], .lst [.str ⟨#[111, 114, 100, 101, 114]⟩, .bl true], .lst [.ref 0, .ref 4, .ref 12, .tup [.str ⟨#[98]⟩], .tup [.str ⟨#[97]⟩], .tup [.str ⟨#[97]⟩], .tup [], .tup [], .non, .ref 49, .ref 68, .tup [.str ⟨#[97]⟩, .str ⟨#[98]⟩]], .lst [.str ⟨#[111, 114, 100, 101, 114]⟩, .bl true], .lst [.str ⟨#[111, 114, 100, 101, 114]⟩, .bl true], .lst [.tup [], .non, .ref 70, .ref 71], .lst [.ref 2, .ref 7, .ref 15, .tup [.str ⟨#[98]⟩], .tup [.str ⟨#[97]⟩], .tup [.str ⟨#[97]⟩], .tup [], .tup [], .non, .ref 70, .ref 71], .lst [.ref 75, .ref 86], .lst [.ref 76, .ref 78, .ref 80, .ref 82, .ref 84], .lst [.str ⟨#[97]⟩, .ref 77, .bl true], .lst [], .lst [.str ⟨#[98]⟩, .ref 79, .bl true], .lst [], .lst [.str ⟨#[99]⟩, .ref 81, .bl false], .lst [.str ⟨#[97]⟩, .str ⟨#[98]⟩], .lst [.str ⟨#[100]⟩, .ref 83, .bl true], .lst [.str ⟨#[99]⟩], .lst [.str ⟨#[101]⟩, .ref 85, .bl true], .lst [], .lst [.str ⟨#[100]⟩], .lst [.str ⟨#[97]⟩, .str ⟨#[98]⟩, .str ⟨#[99]⟩, .str ⟨#[100]⟩, .str ⟨#[101]⟩], .lst [.ref 89, .ref 90, .ref 91, .ref 92], .lst [.str ⟨#[97]⟩, .int (4)], .lst [.str ⟨#[98]⟩, .int (6)], .lst [.str ⟨#[100]⟩, .int (3)], .lst [.str ⟨#[101]⟩, .int (9)], .lst [.ref 74, .ref 87, .ref 88], .lst [.tup [.tup [.str ⟨#[97]⟩, .tup [], .bl true], .tup [.str ⟨#[98]⟩, .tup [], .bl true], .tup [.str ⟨#[99]⟩, .tup [.str ⟨#[97]⟩, .str ⟨#[98]⟩], .bl false], .tup [.str ⟨#[100]⟩, .tup [.str ⟨#[99]⟩], .bl true], .tup [.str ⟨#[101]⟩, .tup [], .bl true]], .tup [.str ⟨#[100]⟩]], .lst [.tup [.str ⟨#[97]⟩, .tup [], .bl true], .tup [.str ⟨#[98]⟩, .tup [], .bl true], .tup [.str ⟨#[99]⟩, .tup [.str ⟨#[97]⟩, .str ⟨#[98]⟩], .bl false], .tup [.str ⟨#[100]⟩, .tup [.str ⟨#[99]⟩], .bl true], .tup [.str ⟨#[101]⟩, .tup [], .bl true]], .lst [.str ⟨#[97]⟩, .tup [], .bl true], .lst [], .lst [.str ⟨#[98]⟩, .tup [], .bl true], .lst [], .lst [.str ⟨#[99]⟩, .tup [.str ⟨#[97]⟩, .str ⟨#[98]⟩], .bl false], .lst [.str ⟨#[97]⟩, .str ⟨#[98]⟩], .lst [.str ⟨#[100]⟩, .tup [.str ⟨#[99]⟩], .bl true], .lst [.str ⟨#[99]⟩], .lst [.str ⟨#[101]⟩, .tup [], .bl true], .lst [], .lst [.str ⟨#[100]⟩], .lst [.str ⟨#[97]⟩, .str ⟨#[98]⟩, .str ⟨#[99]⟩, .str ⟨#[100]⟩, .str ⟨#[101]⟩], .dic [(.inr ⟨#[97]⟩, .tup []), (.inr ⟨#[98]⟩, .tup []), (.inr ⟨#[99]⟩, .tup [.str ⟨#[97]⟩, .str ⟨#[98]⟩]), (.inr ⟨#[100]⟩, .tup [.str ⟨#[99]⟩]), (.inr ⟨#[101]⟩, .tup [])], .dic [(.inr ⟨#[97]⟩, .bl true), (.inr ⟨#[98]⟩, .bl true), (.inr ⟨#[99]⟩, .bl true), (.inr ⟨#[100]⟩, .bl true), (.inr ⟨#[101]⟩, .bl true)], .lst [], .lst [], .lst [.bl true, .bl true], .lst [.bl true], .lst [], .dic [(.inr ⟨#[97]⟩, .tup []), (.inr ⟨#[98]⟩, .tup []), (.inr ⟨#[99]⟩, .tup [.str ⟨#[97]⟩, .str ⟨#[98]⟩]), (.inr ⟨#[100]⟩, .tup [.str ⟨#[99]⟩]), (.inr ⟨#[101]⟩, .tup [])], .dic [(.inr ⟨#[97]⟩, .ref 117), (.inr ⟨#[98]⟩, .ref 118), (.inr ⟨#[99]⟩, .ref 119), (.inr ⟨#[100]⟩, .ref 120), (.inr ⟨#[101]⟩, .ref 121)], .lst [.str ⟨#[99]⟩], .lst [.str ⟨#[99]⟩], .lst [.str ⟨#[100]⟩], .lst [], .lst [], .dic [(.inr ⟨#[97]⟩, .int (0)), (.inr ⟨#[98]⟩, .int (1)), (.inr ⟨#[99]⟩, .int (2)), (.inr ⟨#[100]⟩, .int (3)), (.inr ⟨#[101]⟩, .int (4))], .dic [(.inr ⟨#[97]⟩, .int (2)), (.inr ⟨#[98]⟩, .int (2)), (.inr ⟨#[99]⟩, .int (3)), (.inr ⟨#[100]⟩, .int (5)), (.inr ⟨#[101]⟩, .int (5))], .lst [.int (2)], .lst [.int (2)], .lst [.int (3)], .lst [], .lst [], .lst [.tup [.tup [.str ⟨#[97]⟩, .tup [], .bl true], .tup [.str ⟨#[98]⟩, .tup [], .bl true], .tup [.str ⟨#[99]⟩, .tup [.str ⟨#[97]⟩, .str ⟨#[98]⟩], .bl false], .tup [.str ⟨#[100]⟩, .tup [.str ⟨#[99]⟩], .bl true], .tup [.str ⟨#[101]⟩, .tup [], .bl true]], .tup [.str ⟨#[100]⟩]], .lst [.tup [.str ⟨#[97]⟩, .tup [], .bl true], .tup [.str ⟨#[98]⟩, .tup [], .bl true], .tup [.str ⟨#[99]⟩, .tup [.str ⟨#[97]⟩, .str ⟨#[98]⟩], .bl false], .tup [.str ⟨#[100]⟩, .tup [.str ⟨#[99]⟩], .bl true], .tup [.str ⟨#[101]⟩, .tup [], .bl true]], .lst [.str ⟨#[97]⟩, .tup [], .bl true], .lst [], .lst [.str ⟨#[98]⟩, .tup [], .bl true], .lst [], .lst [.str ⟨#[99]⟩, .tup [.str ⟨#[97]⟩, .str ⟨#[98]⟩], .bl false], .lst [.str ⟨#[97]⟩, .str ⟨#[98]⟩], .lst [.str ⟨#[100]⟩, .tup [.str ⟨#[99]⟩], .bl true], .lst [.str ⟨#[99]⟩], .lst [.str ⟨#[101]⟩, .tup [], .bl true], .lst [], .lst [.str ⟨#[100]⟩], .dic [(.inr ⟨#[97]⟩, .tup []), (.inr ⟨#[98]⟩, .tup []), (.inr ⟨#[99]⟩, .tup [.str ⟨#[97]⟩, .str ⟨#[98]⟩]), (.inr ⟨#[100]⟩, .tup [.str ⟨#[99]⟩]), (.inr ⟨#[101]⟩, .tup [])], .dic [(.inr ⟨#[97]⟩, .ref 144), (.inr ⟨#[98]⟩, .ref 145), (.inr ⟨#[99]⟩, .ref 146), (.inr ⟨#[100]⟩, .ref 147), (.inr ⟨#[101]⟩, .ref 148)], .lst [.str ⟨#[99]⟩], .lst [.str ⟨#[99]⟩], .lst [.str ⟨#[100]⟩], .lst [], .lst [], .lst [.str ⟨#[97]⟩, .str ⟨#[98]⟩, .str ⟨#[100]⟩], .dic [(.inr ⟨#[97]⟩, .int (0)), (.inr ⟨#[98]⟩, .int (1)), (.inr ⟨#[99]⟩, .int (2)), (.inr ⟨#[100]⟩, .int (3)), (.inr ⟨#[101]⟩, .int (4))], .dic [(.inr ⟨#[97]⟩, .tup [.int (0), .int (2)]), (.inr ⟨#[98]⟩, .tup [.int (1), .int (2)]), (.inr ⟨#[100]⟩, .tup [.int (3), .int (5)])], .lst [.tup [.str ⟨#[97]⟩, .int (4)], .tup [.str ⟨#[98]⟩, .int (6)], .tup [.str ⟨#[100]⟩, .int (3)], .tup [.str ⟨#[101]⟩, .int (9)]], .lst [.str ⟨#[97]⟩, .int (4)], .lst [.str ⟨#[98]⟩, .int (6)], .lst [.str ⟨#[100]⟩, .int (3)], .lst [.str ⟨#[101]⟩, .int (9)], .dic [(.inr ⟨#[97]⟩, .int (3)), (.inr ⟨#[98]⟩, .int (5)), (.inr ⟨#[100]⟩, .int (2)), (.inr ⟨#[101]⟩, .int (8))], .lst [.tup [.int (2), .tup [.str ⟨#[97]⟩, .str ⟨#[98]⟩]], .tup [.int (2), .tup [.str ⟨#[98]⟩, .str ⟨#[100]⟩]], .tup [.int (3), .tup [.str ⟨#[97]⟩, .str ⟨#[98]⟩, .str ⟨#[100]⟩]]], .lst [.str ⟨#[97]⟩, .str ⟨#[98]⟩, .str ⟨#[100]⟩], .lst [.tup []], .lst [.tup [.str ⟨#[97]⟩]], .lst [.tup [], .tup [.str ⟨#[97]⟩]], .lst [.tup [.str ⟨#[98]⟩], .tup [.str ⟨#[97]⟩, .str ⟨#[98]⟩]], .lst [.tup [], .tup [.str ⟨#[97]⟩], .tup [.str ⟨#[98]⟩], .tup [.str ⟨#[97]⟩, .str ⟨#[98]⟩]], .lst [.tup [.str ⟨#[100]⟩], .tup [.str ⟨#[97]⟩, .str ⟨#[100]⟩], .tup [.str ⟨#[98]⟩, .str ⟨#[100]⟩], .tup [.str ⟨#[97]⟩, .str ⟨#[98]⟩, .str ⟨#[100]⟩]], .lst [.tup [], .tup [.str ⟨#[97]⟩], .tup [.str ⟨#[98]⟩], .tup [.str ⟨#[97]⟩, .str ⟨#[98]⟩], .tup [.str ⟨#[100]⟩], .tup [.str ⟨#[97]⟩, .str ⟨#[100]⟩], .tup [.str ⟨#[98]⟩, .str ⟨#[100]⟩], .tup [.str ⟨#[97]⟩, .str ⟨#[98]⟩, .str ⟨#[100]⟩]], .dic [(.inr ⟨#[97]⟩, .int (3)), (.inr ⟨#[98]⟩, .int (5)), (.inr ⟨#[100]⟩, .int (2))], .lst [.int (0), .int (1), .int (7), .int (8), .int (9), .int (11)], .lst [], .lst [.int (1)], .lst [.int (1)], .lst [.int (4), .int (7)], .lst [.int (2)], .lst [.int (2), .int (4), .int (7)], .lst [], .lst [.int (8)], .lst [.int (8)], .lst [], .lst [.int (9)], .lst [.int (9)], .lst [.int (11)], .lst [.int (10)], .lst [.int (10), .int (11)], .dic [(.inr ⟨#[97]⟩, .int (0)), (.inr ⟨#[98]⟩, .int (5)), (.inr ⟨#[100]⟩, .int (2))], .lst [.int (0), .int (1), .int (7), .int (8), .int (9), .int (11)], .lst [], .lst [.int (1)], .lst [.int (1)], .lst [.int (1), .int (7)], .lst [.int (2)], .lst [.int (2), .int (1), .int (7)], .lst [], .lst [.int (8)], .lst [.int (8)], .lst [], .lst [.int (9)], .lst [.int (9)], .lst [.int (11)], .lst [.int (10)], .lst [.int (10), .int (11)], .dic [(.inr ⟨#[97]⟩, .int (3)), (.inr ⟨#[98]⟩, .int (0)), (.inr ⟨#[100]⟩, .int (2))], .lst [.int (0), .int (1), .int (4), .int (5), .int (6), .int (8)], .lst [], .lst [.int (1)], .lst [.int (1)], .lst [.int (4), .int (2)], .lst [.int (2)], .lst [.int (2), .int (4), .int (2)], .lst [], .lst [.int (5)], .lst [.int (5)], .lst [], .lst [.int (6)], .lst [.int (6)], .lst [.int (8)], .lst [.int (7)], .lst [.int (7), .int (8)], .dic [(.inr ⟨#[97]⟩, .int (0)), (.inr ⟨#[98]⟩, .int (0)), (.inr ⟨#[100]⟩, .int (2))], .lst [.int (0), .int (1), .int (2), .int (3), .int (4), .int (6)], .lst [], .lst [.int (1)], .lst [.int (1)], .lst [.int (1), .int (2)], .lst [.int (2)], .lst [.int (2), .int (1), .int (2)], .lst [], .lst [.int (3)], .lst [.int (3)], .lst [], .lst [.int (4)], .lst [.int (4)], .lst [.int (6)], .lst [.int (5)], .lst [.int (5), .int (6)], .dic [(.inr ⟨#[97]⟩, .int (3)), (.inr ⟨#[98]⟩, .int (5)), (.inr ⟨#[100]⟩, .int (0))], .lst [.int (0), .int (1), .int (7), .int (8), .int (9), .int (10)], .lst [], .lst [.int (1)], .lst [.int (1)], .lst [.int (4), .int (7)], .lst [.int (2)], .lst [.int (2), .int (4), .int (7)], .lst [], .lst [.int (8)], .lst [.int (8)], .lst [], .lst [.int (9)], .lst [.int (9)], .lst [.int (9)], .lst [.int (10)], .lst [.int (10), .int (9)], .dic [(.inr ⟨#[97]⟩, .int (0)), (.inr ⟨#[98]⟩, .int (5)), (.inr ⟨#[100]⟩, .int (0))], .lst [.int (0), .int (1), .int (7), .int (8), .int (9), .int (10)], .lst [], .lst [.int (1)], .lst [.int (1)], .lst [.int (1), .int (7)], .lst [.int (2)], .lst [.int (2), .int (1), .int (7)], .lst [], .lst [.int (8)], .lst [.int (8)], .lst [], .lst [.int (9)], .lst [.int (9)], .lst [.int (9)], .lst [.int (10)], .lst [.int (10), .int (9)], .dic [(.inr ⟨#[97]⟩, .int (3)), (.inr ⟨#[98]⟩, .int (0)), (.inr ⟨#[100]⟩, .int (0))], .lst [.int (0), .int (1), .int (4), .int (5), .int (6), .int (7)], .lst [], .lst [.int (1)], .lst [.int (1)], .lst [.int (4), .int (2)], .lst [.int (2)], .lst [.int (2), .int (4), .int (2)], .lst [], .lst [.int (5)], .lst [.int (5)], .lst [], .lst [.int (6)], .lst [.int (6)], .lst [.int (6)], .lst [.int (7)], .lst [.int (7), .int (6)], .dic [(.inr ⟨#[97]⟩, .int (0)), (.inr ⟨#[98]⟩, .int (0)), (.inr ⟨#[100]⟩, .int (0))], .lst [.int (0), .int (1), .int (2), .int (3), .int (4), .int (5)], .lst [], .lst [.int (1)], .lst [.int (1)], .lst [.int (1), .int (2)], .lst [.int (2)], .lst [.int (2), .int (1), .int (2)], .lst [], .lst [.int (3)], .lst [.int (3)], .lst [], .lst [.int (4)], .lst [.int (4)], .lst [.int (4)], .lst [.int (5)], .lst [.int (5), .int (4)]]
theorem hs0 : hc0 he0 hh0 = some (.ok (.nx he1), hh1) := step_of (by decide +kernel)
theorem hs1 : hc1 he1 hh1 = some (.ok (.nx he2), hh2) := step_of (by decide +kernel)
theorem hs2 : hc2 he2 hh2 = some (.ok (.nx he3), hh3) := step_of (by decide +kernel)
theorem hs3 : hc3 he3 hh3 = some (.ok (.nx he4), hh4) := step_of (by decide +kernel)
theorem hs4 : hc4 he4 hh4 = some (.ok (.nx he5), hh5) := step_of (by decide +kernel)
theorem hs5 : hc5 he5 hh5 = some (.ok (.nx he6), hh6) := step_of (by decide +kernel)
theorem hs6 : hc6 he6 hh6 = some (.ok (.nx he7), hh7) := step_of (by decide +kernel)
theorem hs7 : hc7 he7 hh7 = some (.ok (.nx he8), hh8) := step_of (by decide +kernel)
theorem hs8 : hc8 he8 hh8 = some (.ok (.nx he9), hh9) := step_of (by decide +kernel)
theorem hs9 : hc9 he9 hh9 = some (.ok (.nx he10), hh10) := step_of (by decide +kernel)
theorem hs11 : hc11 he11 hh11 = some (.ok (.nx he12), hh12) := step_of (by decide +kernel)
theorem hs12 : hc12 he12 hh12 = some (.ok (.nx he13), hh13) := step_of (by decide +kernel)
theorem hs13 : hc13 he13 hh13 = some (.ok (.nx he14), hh14) := step_of (by decide +kernel)
theorem hs14 : hc14 he14 hh14 = some (.ok (.nx he15), hh15) := step_of (by decide +kernel)
theorem hs15 : hc15 he15 hh15 = some (.ok (.nx he16), hh16) := step_of (by decide +kernel)
theorem hs16 : hc16 he16 hh16 = some (.ok (.nx he17), hh17) := step_of (by decide +kernel)
theorem hs17 : hc17 he17 hh17 = some (.ok (.nx he18), hh18) := step_of (by decide +kernel)
theorem hs18 : hc18 he18 hh18 = some (.ok (.nx he19), hh19) := step_of (by decide +kernel)
theorem hs19 : hc19 he19 hh19 = some (.ok (.nx he20), hh20) := step_of (by decide +kernel)
theorem hs20 : hc20 he20 hh20 = some (.ok (.nx he21), hh21) := step_of (by decide +kernel)
theorem hs21 : hc21 he21 hh21 = some (.ok (.nx he22), hh22) := step_of (by decide +kernel)
theorem hs22 : hc22 he22 hh22 = some (.ok (.nx he23), hh23) := step_of (by decide +kernel)
def okR (o : Option (Out Fl × IH)) : Bool := match o with
  | some (.ok (.rt (.bl true)), _) => true
  | _ => false
theorem okR_of {o : Option (Out Fl × IH)} (e : okR o = true) : ∃ h', o = some (.ok (.rt (.bl true)), h') := by
  unfold okR at e
  split at e
  · exact ⟨_, rfl⟩
  · cases e
theorem hsE : ∃ h', hcE he23 hh23 = some (.ok (.rt (.bl true)), h') := okR_of (by decide +kernel)
end K28
set_option autoImplicit true
set_option Elab.async false
set_option linter.all false
set_option maxRecDepth 100000
set_option maxHeartbeats 600000
namespace K28
open PySem L2 Iv
/-- the urn at u, with at most c draws of the second sort behind it -/
structure Urn (h : IH) (u : Nat) (c : Nat) (a b d : Int) : Prop where
  at_ : h[u]? = some (.lst [.int a, .int b, .int d])
  a0 : 0 ≤ a
  b0 : 0 ≤ b
  b1 : b < 4611686018427387904
  d0 : 0 ≤ d
  d1 : d ≤ c
theorem ix3_0 {h : IH} {a b c : IV} : ixS h [a, b, c] (.int 0) = some (.ok a, h) := rfl
theorem ix3_1 {h : IH} {a b c : IV} : ixS h [a, b, c] (.int 1) = some (.ok b, h) := rfl
theorem ix3_2 {h : IH} {a b c : IV} : ixS h [a, b, c] (.int 2) = some (.ok c, h) := rfl
theorem take_spec {h : IH} {u c : Nat} {a b d n : Int} (U : Urn h u c a b d) (hc : c < 1000000000) (h0 : 0 < n) (h1 : n < 1000000) :
    ∃ r a' d', F__law_take [.ref u, .int n] h = some (.ok (.int r), h.set u (.lst [.int a', .int b, .int d'])) ∧ 0 ≤ r ∧ r < n ∧ 0 ≤ a' ∧ 0 ≤ d' ∧ d' ≤ c + 1 := by
  have hu := U.at_
  have hul : u < h.length := (List.getElem?_eq_some_iff.mp hu).1
  by_cases ha : 0 < a
  · refine ⟨a % n, a / n, d, ?_, Int.emod_nonneg _ (by omega), Int.emod_lt_of_pos _ h0, Int.ediv_nonneg U.a0 (by omega), U.d0, by have := U.d1; omega⟩
    simp [F__law_take, b__law_take, Fn, SeqS, IfS, AsgS, TgN, TgSub, RetS, NextS, Bin, Var, Cst, CallB, Cons, Nil, Tst, asB, gtI, ordI, ixM, ix3_0, modI, divI, intC, intM, setM, M.bind, M.pure, hu, ha, modOk_of h0, divOk_of h0 (by omega : n < 18446744073709551616), ixN, keyI]
  · have ea : a = 0 := by have := U.a0; omega
    subst ea
    have hd := U.d1
    have hd0 := U.d0
    have hb0 := U.b0
    have hb1 := U.b1
    generalize e1 : (b + 48271 * (d + 1)) * (39373 + (d + 1)) % 2147483647 = t1
    have t1a : 0 ≤ t1 := by rw [← e1]; exact Int.emod_nonneg _ (by decide)
    have t1b : t1 < 2147483647 := by rw [← e1]; exact Int.emod_lt_of_pos _ (by decide)
    generalize e2 : t1 % 40009 + 7 = t2
    have t2a : 0 ≤ t2 := by omega
    have t2b : t2 < 50000 := by omega
    generalize e3 : (t1 + (d + 1) + b / 1000003) * t2 % 2147483629 = t3
    have t3a : 0 ≤ t3 := by rw [← e3]; exact Int.emod_nonneg _ (by decide)
    have t3b : t3 < 2147483629 := by rw [← e3]; exact Int.emod_lt_of_pos _ (by decide)
    refine ⟨(t3 * 48271 + t1) % 2147483587 / 64 % n, 0, d + 1, ?_, Int.emod_nonneg _ (by omega), Int.emod_lt_of_pos _ h0, Int.le_refl _, by omega, by omega⟩
    have m1 : mulOk 48271 (d + 1) = true := mulOk_l (by omega) (by omega)
    have m2 : mulOk (b + 48271 * (d + 1)) (39373 + (d + 1)) = true := mulOk_r (by omega) (by omega)
    have m3 : mulOk (t1 + (d + 1) + b / 1000003) t2 = true := mulOk_r (by omega) (by omega)
    have m4 : mulOk t3 48271 = true := mulOk_r (by omega) (by omega)
    have q1 : divOk b 1000003 = true := divOk_of (by omega) (by omega)
    have q2 : divOk ((t3 * 48271 + t1) % 2147483587) 64 = true := divOk_of (by omega) (by omega)
    have k0 : ∀ i, modOk i n = true := fun i => modOk_of h0
    have k1 : ∀ i, modOk i 2147483647 = true := fun i => modOk_of (by omega)
    have k2 : ∀ i, modOk i 2147483629 = true := fun i => modOk_of (by omega)
    have k3 : ∀ i, modOk i 2147483587 = true := fun i => modOk_of (by omega)
    have k4 : ∀ i, modOk i 40009 = true := fun i => modOk_of (by omega)
    have g : (h.set u (.lst [.int 0, .int b, .int (d + 1)]))[u]? = some (.lst [.int 0, .int b, .int (d + 1)]) := List.getElem?_set_self hul
    simp [F__law_take, b__law_take, Fn, SeqS, IfS, AsgS, TgN, TgSub, RetS, NextS, Bin, Var, Cst, CallB, Cons, Nil, Tst, asB, gtI, ordI, ixM, ix3_0, ix3_1, ix3_2, modI, divI, addI_int, mulI_int, intC, intM, setM, M.bind, M.pure, hu, g, ixN, keyI, e1, e2, e3,
      k0, k1, k2, k3, k4, m1, m2, m3, m4, q1, q2]
end K28
set_option autoImplicit true
set_option Elab.async false
set_option linter.all false
set_option maxRecDepth 100000
set_option maxHeartbeats 600000
namespace K28
open PySem L2 Iv
theorem LN_ok {n : Nat} (h : n < 100000) : n < LN := by unfold LN; exact h
def Ur (h : IH) (u c : Nat) : Prop := ∃ a b d : Int, h[u]? = some (.lst [.int a, .int b, .int d]) ∧ 0 ≤ a ∧ 0 ≤ b ∧ b < 4611686018427387904 ∧ 0 ≤ d ∧ d + c ≤ 900000000
theorem Ur.le {h : IH} {u c c' : Nat} (U : Ur h u c) (e : c' ≤ c) : Ur h u c' := let ⟨a, b, d, e1, e2, e3, e4, e5, e6⟩ := U; ⟨a, b, d, e1, e2, e3, e4, e5, by omega⟩
theorem Ur.lt {h : IH} {u c : Nat} (U : Ur h u c) : u < h.length := let ⟨a, b, d, e1, _⟩ := U; (List.getElem?_eq_some_iff.mp e1).1
theorem Ur.to {h h' : IH} {u c : Nat} (U : Ur h u c) (e : h'[u]? = h[u]?) : Ur h' u c := let ⟨a, b, d, e1, r⟩ := U; ⟨a, b, d, e.trans e1, r⟩
theorem Ur.gr {h h' : IH} {u c : Nat} (U : Ur h u c) (e : Gr h h') : Ur h' u c := let ⟨a, b, d, e1, r⟩ := U; ⟨a, b, d, e _ _ e1, r⟩
theorem Ur.set {h : IH} {u c n : Nat} {o : IO} (U : Ur h u c) (e : u ≠ n) : Ur (h.set n o) u c := U.to (List.getElem?_set_ne (Ne.symm e))
theorem take_ok {h : IH} {u c : Nat} {n : Int} (U : Ur h u (c + 1)) (h0 : 0 < n) (h1 : n < 1000000) :
    Ok (F__law_take [.ref u, .int n]) h fun x h' => ∃ r : Int, x = .int r ∧ 0 ≤ r ∧ r < n ∧ Ur h' u c ∧ GrX u h h' ∧ h'.length = h.length := by
  obtain ⟨a, b, d, e1, e2, e3, e4, e5, e6⟩ := U
  obtain ⟨r, a', d', q, r0, r1, a0, d0, d1⟩ := take_spec (c := d.toNat) ⟨e1, e2, e3, e4, e5, by omega⟩ (by omega) h0 h1
  have hl := (List.getElem?_eq_some_iff.mp e1).1
  exact ⟨_, _, q, r, rfl, r0, r1, ⟨a', b, d', by rw [List.getElem?_set_self hl], a0, e3, e4, d0, by omega⟩, GrX.set, by simp⟩
theorem of_ok {h : IH} {u l c : Nat} {xs : List IV} (hne : u ≠ l) (U : Ur h u (c + 1)) (e : h[l]? = some (.lst xs)) (h0 : 0 < xs.length) (h1 : xs.length < 1000000) :
    Ok (F__law_of [.ref u, .ref l]) h fun x h' => x ∈ xs ∧ Ur h' u c ∧ GrX u h h' ∧ h'.length = h.length := by
  obtain ⟨x, h', q, r, rfl, r0, r1, U2, G, L⟩ := take_ok (n := xs.length) U (by omega) (by omega)
  have e2 := G l _ (Ne.symm hne) e
  have hi : r.toNat < xs.length := by omega
  refine ⟨xs[r.toNat], h', ?_, List.getElem_mem hi, U2, G, L⟩
  have a1 : atI xs r = some xs[r.toNat] := by rw [atI_nn r0 r1]; simp [hi]
  simp [F__law_of, b__law_of, Fn, RetS, Bin, Var, CallF, CallB, Cons, Nil, M.bind, M.pure, len_lst e, noex_ok q, ix_lst e2 a1]
theorem min2_ok {i j : Nat} {h : IH} : min2 [.int i, .int j] h = some (.ok (.int (min i j : Nat)), h) := by
  have e : (if (j : Int) < i then (j : Int) else i) = ((min i j : Nat) : Int) := by split <;> omega
  show M.pure (IV.int (if (j : Int) < i then (j : Int) else i)) h = _
  rw [e]; rfl
theorem pick_ok {h : IH} {u l c k : Nat} {xs : List IV} (hne : u ≠ l) (U : Ur h u (c + k)) (e : h[l]? = some (.lst xs)) (h1 : xs.length ≤ 1000) :
    Ok (F__law_pick [.ref u, .ref l, .int k]) h fun v h' => ∃ m ys rest, v = .ref m ∧ h.length ≤ m ∧ h'[m]? = some (.lst ys) ∧ (ys ++ rest).Perm xs ∧ ys.length = min k xs.length ∧ Ur h' u c ∧ GrX u h h' := by
  have hu := U.lt
  have hl := (List.getElem?_eq_some_iff.mp e).1
  obtain ⟨f, h3, q, e2, rfl, o, rest, found, rfl, r1, r2, r3, r4, r5, r6, r7⟩ := forS_ok (src := IterA rng1 (Cons (CallB min2 (Cons (Var 2) (Cons (CallB lenM (Cons (Var 3) Nil)) Nil))) Nil)) (s := SRange 0 (min k xs.length)) (t := TgN 5)
    (b := DropS (Mth chkL appM (Var 4) (Cons (Mth chkL popAtM (Var 3) (Cons (CallF 2 F__law_take (Cons (Var 0) (Cons (CallB lenM (Cons (Var 3) Nil)) Nil))) Nil)) Nil)))
    (n := min k xs.length) (k := LN) (env := [some (.ref u), some (.ref l), some (.int k), some (.ref h.length), some (.ref (h.length + 1)), none]) (h := h ++ [.lst xs, .lst []]) (h1 := h ++ [.lst xs, .lst []])
    (fun i env h' => ∃ o rest found, env = [some (.ref u), some (.ref l), some (.int k), some (.ref h.length), some (.ref (h.length + 1)), o] ∧ h'[h.length]? = some (.lst rest) ∧ h'[h.length + 1]? = some (.lst found) ∧ rest.length + i = xs.length ∧ found.length = i ∧ (found ++ rest).Perm xs ∧ Ur h' u (c + (min k xs.length - i)) ∧ GrX u h h')
    (iterA_ok (one_ok (x := .int (min k xs.length : Nat)) (callB_ok (two_ok (x := .int k) (y := .int (xs.length : Nat)) rfl (callB_ok (one_ok (x := .ref h.length) rfl) (len_lst (by simp)))) min2_ok)) (rng1_ok (by omega)))
    (LN_ok (by omega))
    ⟨none, xs, [], rfl, by simp, by simp, by omega, rfl, by simp, (U.le (by omega)).to (by show (h ++ _)[u]? = _; rw [List.getElem?_append_left hu]), (GrX.refl u h).pushx⟩
    (by
      rintro i env h' hi ⟨o, rest, found, rfl, r1, r2, r3, r4, r5, r6, r7⟩
      have hr : 0 < rest.length := by omega
      obtain ⟨x, h3, q, r, rfl, q0, q1, U2, G, L⟩ := take_ok (c := c + (min k xs.length - (i + 1))) (n := rest.length) (r6.le (by omega)) (by omega) (by omega)
      have g1 := G h.length _ (by omega) r1
      have hi2 : r.toNat < rest.length := by omega
      have g2 : (h3.set h.length (.lst (rest.eraseIdx r.toNat)))[h.length + 1]? = some (.lst found) := by
        rw [List.getElem?_set_ne (by omega)]; exact G (h.length + 1) _ (by omega) r2
      refine ⟨_, srange hi, _, (h3.set h.length (.lst (rest.eraseIdx r.toNat))).set (h.length + 1) (.lst (found ++ [rest[r.toNat]])), (bind_ok (x := [some (.ref u), some (.ref l), some (.int k), some (.ref h.length), some (.ref (h.length + 1)), some (.int i)]) (h1 := h') rfl).trans (drop_ok (x := .non) ?_), _, .inl rfl, some (.int i), rest.eraseIdx r.toNat, found ++ [rest[r.toNat]], rfl, ?_, ?_, ?_, ?_, ?_, ?_, ?_⟩
      · exact mth_ok (x := .ref (h.length + 1)) rfl (chk_lst r2) (one_ok (mth_ok (x := .ref h.length) rfl (chk_lst r1) (one_ok (callF_ok (two_ok (x := .ref u) (y := .int (rest.length : Nat)) rfl (callB_ok (one_ok (x := .ref h.length) rfl) (len_lst r1))) rfl q)) (popAt_lst g1 q0 q1 (by omega) (List.getElem?_eq_getElem hi2)))) (app_lst g2 (by omega))
      · rw [List.getElem?_set_ne (by omega), List.getElem?_set_self (List.getElem?_eq_some_iff.mp g1).1]
      · rw [List.getElem?_set_self (List.getElem?_eq_some_iff.mp g2).1]
      · rw [List.length_eraseIdx_of_lt hi2]; omega
      · simp [r4]
      · refine List.Perm.trans ?_ r5
        rw [List.append_assoc]
        exact List.Perm.append_left _ (perm_erase hi2)
      · exact (U2.set (by omega)).set (by omega)
      · exact ((r7.trans G).setx (Nat.le_refl _)).setx (by omega))
    (by
      rintro env h' ⟨o, rest, found, rfl, r1, r2, r3, r4, r5, r6, r7⟩
      exact srange_end)
  refine ⟨.ref (h.length + 1), h3, fn_rt ((seq_nx (env2 := [some (.ref u), some (.ref l), some (.int k), some (.ref h.length), some (.ref (h.length + 1)), none]) (h1 := h ++ [.lst xs, .lst []]) ?_).trans ((seq_nx q).trans (ret_ok (x := .ref (h.length + 1)) rfl))), h.length + 1, found, rest, rfl, by omega, r2, r5, r4, r6.le (by omega), r7⟩
  unfold ParS
  have e2 : h ++ [Iv.IO.lst xs, .lst []] = (h ++ [.lst xs]) ++ [.lst []] := by simp
  rw [e2]
  have k2 := mkL_ok (xs := []) (h := h ++ [.lst xs]) (by show 0 ≤ 100000; omega)
  rw [show (h ++ [Iv.IO.lst xs]).length = h.length + 1 by simp] at k2
  exact (bind_ok (two_ok (x := .ref h.length) (y := .ref (h.length + 1)) (callB_ok (one_ok (x := .ref l) rfl) (list_lst e (by omega))) (lst_ok2 (xs := []) rfl k2))).trans rfl
end K28
set_option autoImplicit true
set_option Elab.async false
set_option linter.all false
set_option maxRecDepth 100000
set_option maxHeartbeats 1000000
namespace K28
open PySem L2 Iv
theorem push_len {h : IH} {o : Iv.IO} : (h ++ [o])[h.length]? = some o := by simp
theorem Ur.push {h l : IH} {u c : Nat} (U : Ur h u c) : Ur (h ++ l) u c := U.to (List.getElem?_append_left U.lt)
/-! sorted -/
theorem sort_gen {α : Type} {h : IH} {n : Nat} {l : List α} {v : α → IV} {d : α → PyData} (e : h[n]? = some (.lst (l.map v))) (enc : (l.map v).mapM (encH h 66) = some (l.map d)) (ha : alikeB (l.map d) = true) (hs : sortableB (l.map d) = true) (hd : ((l.map d).all fun d => decide (d.depth ≤ 60)) = true) (hl : l.length ≤ 100000) :
    sortM [.ref n] h = some (.ok (.ref h.length), h ++ [.lst ((l.mergeSort (PySem.W.dataLe false d)).map v)]) := by
  have hd2 : ((l.map d).all fun d => decide (d.depth ≤ depLim)) = true := by unfold depLim; exact hd
  have ez : (l.map v).zip (l.map d) = l.map fun a => (v a, d a) := by rw [List.zip_map']
  have em : ((l.map fun a => (v a, d a)).mergeSort (PySem.W.dataLe false fun p : IV × PyData => p.2)).map (fun p : IV × PyData => p.1) = (l.mergeSort (PySem.W.dataLe false d)).map v := by
    have q := List.map_mergeSort (r := PySem.W.dataLe false d) (s := PySem.W.dataLe false fun p : IV × PyData => p.2) (f := fun a => (v a, d a)) (l := l) (fun a _ b _ => rfl)
    rw [← q, List.map_map]; rfl
  show (match lstI h (.ref n) with
      | some xs => match xs.mapM (encH h 66) with
        | some ds => if alikeB ds = true ∧ sortableB ds = true ∧ (ds.all fun d => decide (d.depth ≤ depLim)) = true then mkL (((xs.zip ds).mergeSort (PySem.W.dataLe false fun p : IV × PyData => p.2)).map (fun p : IV × PyData => p.1)) h else none
        | none => none
      | none => none) = _
  rw [lst_lst e]
  simp only [enc]
  rw [if_pos ⟨ha, hs, hd2⟩, ez, em]
  exact mkL_ok (by rw [List.length_map, (List.mergeSort_perm _ _).length_eq]; exact hl)
def leS : Str → Str → Bool := PySem.W.dataLe false PyData.str
theorem leS_eq (a b : Str) : leS a b = !decide (b.cps.toList < a.cps.toList) := by
  show (!PySem.W.dataLt (.str b) (.str a)) = _
  rw [PySem.W.dataLt_str]
theorem leS_trans (a b c : Str) (h1 : leS a b = true) (h2 : leS b c = true) : leS a c = true := (PySem.W.sortLe_total (PyProof.Rows.listOrd PyProof.Rows.itemOrd) false fun b : Str => PySem.W.keyToks (.str b)).trans a b c h1 h2
theorem leS_total (a b : Str) : (leS a b || leS b a) = true := by
  rw [Bool.or_eq_true]
  exact (PySem.W.sortLe_total (PyProof.Rows.listOrd PyProof.Rows.itemOrd) false fun b : Str => PySem.W.keyToks (.str b)).total a b
theorem leS_anti (a b : Str) (h1 : leS a b = true) (h2 : leS b a = true) : a = b := by
  rw [leS_eq, Bool.not_eq_true', decide_eq_false_iff_not] at h1 h2
  exact str_ext (List.le_antisymm (show a.cps.toList ≤ b.cps.toList from h1) (show b.cps.toList ≤ a.cps.toList from h2))
def Asc (l : List Str) : Prop := l.Pairwise fun a b => leS a b = true
theorem asc_sort (l : List Str) : Asc (l.mergeSort leS) := List.pairwise_mergeSort leS_trans leS_total l
theorem asc_one {a b : List Str} (ha : Asc a) (p : a.Perm b) : a = b.mergeSort leS := PySem.W.Srt.the_of_perm leS leS_trans leS_total leS_anti p ha
theorem sort_strs2 {h : IH} {n : Nat} {ss : List Str} (e : h[n]? = some (.lst (ss.map .str))) (hl : ss.length ≤ 100000) : sortM [.ref n] h = some (.ok (.ref h.length), h ++ [.lst ((ss.mergeSort leS).map .str)]) := by
  refine sort_gen (v := IV.str) (d := PyData.str) e (enc_strs 65 ss) (alike_strs ss) ?_ ?_ hl
  · unfold sortableB
    rw [Bool.or_eq_true]; right
    rw [List.all_eq_true]
    intro d hd
    obtain ⟨s, _, rfl⟩ := List.mem_map.mp hd
    rfl
  · rw [List.all_eq_true]
    intro d hd
    obtain ⟨s, _, rfl⟩ := List.mem_map.mp hd
    rfl
/-- two nodup lists with the same members -/
theorem perm_nodup {α : Type} [DecidableEq α] : ∀ {a b : List α}, a.Nodup → b.Nodup → (∀ x, x ∈ a ↔ x ∈ b) → a.Perm b
  | [], b, _, _, k => by
    cases b with
    | nil => exact .refl _
    | cons y b => exact absurd ((k y).mpr (by simp)) (by simp)
  | x :: a, b, ha, hb, k => by
    rw [List.nodup_cons] at ha
    have hx : x ∈ b := (k x).mp (by simp)
    have p := List.perm_cons_erase hx
    refine .trans (.cons x (perm_nodup ha.2 (hb.erase x) fun y => ?_)) p.symm
    rw [hb.mem_erase_iff]
    constructor
    · intro hy
      have ne : y ≠ x := by rintro rfl; exact ha.1 hy
      exact ⟨ne, (k y).mp (by simp [hy])⟩
    · rintro ⟨ne, hy⟩
      have := (k y).mpr hy
      rcases List.mem_cons.mp this with rfl | z
      · exact absurd rfl ne
      · exact z
end K28
set_option autoImplicit true
set_option Elab.async false
set_option linter.all false
set_option maxRecDepth 100000
set_option maxHeartbeats 1000000
namespace K28
open PySem L2 Iv
/-- a row of a block -/
structure Row where
  name : Str
  reads : List Str
  slow : Bool
def Row.v (r : Row) : IV := .tup [.str r.name, .tup (r.reads.map .str), .bl r.slow]
def Row.d (r : Row) : PyData := .tuple [.str r.name, .tuple (r.reads.map .str), .bool r.slow]
theorem enc_row {h : IH} (r : Row) : encH h 66 r.v = some r.d := by
  have q : encH h 65 (.tup (r.reads.map .str)) = some (.tuple (r.reads.map .str)) := by
    show ((r.reads.map IV.str).mapM (encH h 64)).map PyData.tuple = _
    rw [enc_strs 63]; rfl
  show ([IV.str r.name, .tup (r.reads.map .str), .bl r.slow].mapM (encH h 65)).map PyData.tuple = _
  rw [List.mapM_cons, List.mapM_cons, List.mapM_cons, q]
  rfl
theorem enc_rows {h : IH} : ∀ q : List Row, (q.map Row.v).mapM (encH h 66) = some (q.map Row.d)
  | [] => rfl
  | r :: q => by
    show ((r.v :: q.map Row.v).mapM (encH h 66)) = _
    rw [List.mapM_cons, enc_row, enc_rows q]; rfl
theorem alike_strs2 : ∀ a b : List Str, PySem.W.alikeAll (a.map PyData.str) (b.map PyData.str) = true
  | [], _ => by simp [PySem.W.alikeAll]
  | _ :: _, [] => by simp [PySem.W.alikeAll]
  | x :: a, y :: b => by
    simp [PySem.W.alikeAll, PySem.W.alike]
    exact alike_strs2 a b
theorem alike_rows (a b : Row) : PySem.W.alike a.d b.d = true := by
  simp [Row.d, PySem.W.alike, PySem.W.alikeAll, alike_strs2]
theorem depth_strs : ∀ a : List Str, PyData.depthAll (a.map PyData.str) = 0
  | [] => rfl
  | x :: a => by
    have := depth_strs a
    simp [PyData.depthAll, PyData.depth, this]
theorem depth_row (a : Row) : a.d.depth ≤ 60 := by
  simp [Row.d, PyData.depth, PyData.depthAll, depth_strs]
def leR : Row → Row → Bool := PySem.W.dataLe false Row.d
theorem sort_rows {h : IH} {n : Nat} {q : List Row} (e : h[n]? = some (.lst (q.map Row.v))) (hl : q.length ≤ 100) : sortM [.ref n] h = some (.ok (.ref h.length), h ++ [.lst ((q.mergeSort leR).map Row.v)]) := by
  refine sort_gen (v := Row.v) (d := Row.d) e (enc_rows q) ?_ ?_ ?_ (by omega)
  · unfold alikeB
    rw [List.all_eq_true]
    intro d hd
    rw [List.all_eq_true]
    intro e he
    obtain ⟨x, _, rfl⟩ := List.mem_map.mp hd
    obtain ⟨y, _, rfl⟩ := List.mem_map.mp he
    exact alike_rows x y
  · unfold sortableB
    rw [Bool.or_eq_true]; left
    rw [List.all_eq_true]
    intro d hd
    obtain ⟨x, _, rfl⟩ := List.mem_map.mp hd
    rfl
  · rw [List.all_eq_true]
    intro d hd
    obtain ⟨x, _, rfl⟩ := List.mem_map.mp hd
    exact decide_eq_true (depth_row x)
/-- rows in order have names in order -/
theorem leR_name {a b : Row} (h : leR a b = true) : leS a.name b.name = true := by
  by_cases e : a.name = b.name
  · rw [e]
    have := leS_total b.name b.name
    simpa using this
  · have h' : (!PySem.W.dataLt b.d a.d) = true := h
    have q : PySem.W.dataLt b.d a.d = PySem.W.dataLt (.str b.name) (.str a.name) := by
      show PySem.W.dataLt (.tuple _) (.tuple _) = _
      rw [PySem.W.dataLt_tuple]
      refine PySem.W.dataLt_all_no (by simp [PySem.W.alike]) ?_
      simp [PyData.eqv]
      exact fun z => e z.symm
    show (!PySem.W.dataLt (.str b.name) (.str a.name)) = true
    rw [← q]; exact h'
theorem asc_rows (q : List Row) : Asc ((q.mergeSort leR).map Row.name) := by
  have tr : ∀ a b c : Row, leR a b = true → leR b c = true → leR a c = true := (PySem.W.sortLe_total (PyProof.Rows.listOrd PyProof.Rows.itemOrd) false fun b : Row => PySem.W.keyToks b.d).trans
  have tt : ∀ a b : Row, (leR a b || leR b a) = true := fun a b => by
    rw [Bool.or_eq_true]
    exact (PySem.W.sortLe_total (PyProof.Rows.listOrd PyProof.Rows.itemOrd) false fun b : Row => PySem.W.keyToks b.d).total a b
  exact List.pairwise_map.mpr ((List.pairwise_mergeSort tr tt q).imp fun h => leR_name h)
/-- each reads earlier ones, each once -/
def Goods : List Row → Prop := fun q => ∀ (i : Nat) (r : Row), q[i]? = some r → r.reads.Nodup ∧ ∀ s ∈ r.reads, s ∈ (q.take i).map Row.name
theorem Goods.snoc {q : List Row} {r : Row} (g : Goods q) (e1 : r.reads.Nodup) (e2 : ∀ s ∈ r.reads, s ∈ q.map Row.name) : Goods (q ++ [r]) := by
  intro i z hz
  rcases Nat.lt_or_ge i q.length with c | c
  · rw [List.getElem?_append_left c] at hz
    rw [List.take_append_of_le_length (by omega)]
    exact g i z hz
  · have hi : i = q.length := by
      have := (List.getElem?_eq_some_iff.mp hz).1
      simp at this; omega
    subst hi
    simp at hz
    subst hz
    simpa using ⟨e1, by simpa using e2⟩
theorem perm_strs {ys : List IV} {ss : List Str} (p : ys.Perm (ss.map .str)) : ∃ zs : List Str, ys = zs.map .str ∧ zs.Perm ss := by
  have hm : ∀ y ∈ ys, ∃ s, y = IV.str s := fun y hy => by
    obtain ⟨s, _, e⟩ := List.mem_map.mp (p.mem_iff.mp hy)
    exact ⟨s, e.symm⟩
  have : ∃ zs : List Str, ys = zs.map .str := by
    clear p
    induction ys with
    | nil => exact ⟨[], rfl⟩
    | cons y ys ih =>
      obtain ⟨s, rfl⟩ := hm y (by simp)
      obtain ⟨zs, rfl⟩ := ih fun y hy => hm y (by simp [hy])
      exact ⟨s :: zs, rfl⟩
  obtain ⟨zs, rfl⟩ := this
  refine ⟨zs, rfl, ?_⟩
  have f : ∀ l : List Str, (l.map IV.str).filterMap (fun x => match x with | .str s => some s | _ => none) = l := fun l => by
    rw [List.filterMap_map]
    have : ((fun x => match x with | IV.str s => some s | _ => none) ∘ IV.str) = fun s : Str => some s := by funext s; rfl
    rw [this, List.filterMap_some]
  have := p.filterMap (fun x => match x with | .str s => some s | _ => none)
  rwa [f, f] at this
/-- names picked -/
theorem picked {ys rest : List IV} {ss : List Str} (p : (ys ++ rest).Perm (ss.map .str)) (hn : ss.Nodup) : ∃ zs : List Str, ys = zs.map .str ∧ zs.Nodup ∧ ∀ s ∈ zs, s ∈ ss := by
  obtain ⟨ws, e, q⟩ := perm_strs p
  refine ⟨ws.take ys.length, ?_, List.Nodup.sublist (List.take_sublist _ _) (q.symm.nodup hn), fun s hs => q.mem_iff.mp (List.mem_of_mem_take hs)⟩
  have := congrArg (List.take ys.length) e
  rw [List.take_left', ← List.map_take] at this
  · exact this
  · rfl
end K28
set_option autoImplicit true
set_option Elab.async false
set_option linter.all false
set_option maxRecDepth 100000
set_option maxHeartbeats 600000
namespace K28
open PySem L2 Iv
theorem orV_tt {m n : Iv.Env → M IV} {env : Iv.Env} {h h1 : IH} {x : IV} (e : m env h = some (.ok x, h1)) (e2 : truM x h1 = some (.ok true, h1)) : OrV m n env h = some (.ok x, h1) := by
  unfold OrV; exact (bind_ok e).trans ((bind_ok e2).trans rfl)
theorem orV_ff {m n : Iv.Env → M IV} {env : Iv.Env} {h h1 : IH} {x : IV} {z : Option (Out IV × IH)} (e : m env h = some (.ok x, h1)) (e2 : truM x h1 = some (.ok false, h1)) (e3 : n env h1 = z) : OrV m n env h = z := by
  unfold OrV; exact (bind_ok e).trans ((bind_ok e2).trans e3)
theorem tru_lst {h : IH} {n : Nat} {xs : List IV} (e : h[n]? = some (.lst xs)) : truM (.ref n) h = some (.ok (!xs.isEmpty), h) := by
  show (match h[n]? with
    | some (.lst xs) => some (!xs.isEmpty)
    | some (.dic kvs) => some (!kvs.isEmpty)
    | some (.fdc _) => none
    | none => none).map (fun b => (Out.ok b, h)) = _
  simp only [e]; rfl
theorem set_lst {h : IH} {n : Nat} {xs : List IV} {k : Int} {v : IV} (e : h[n]? = some (.lst xs)) (h0 : 0 ≤ k) (h1 : k < xs.length) : setM (.ref n) (.int k) v h = some (.ok (), h.set n (.lst (xs.set k.toNat v))) := by
  show (match h[n]? with
    | some (.lst xs) => (match ixN xs.length k with
      | some j => some (Out.ok (), h.set n (.lst (xs.set j v)))
      | none => none)
    | some (.dic kvs) => (match keyI (.int k) with
      | some k => if kvs.length < lim then some (Out.ok (), h.set n (.dic (putI kvs k v))) else none
      | none => none)
    | some (.fdc _) => none
    | none => none) = _
  simp only [e]
  unfold ixN
  rw [if_pos h0, if_pos h1]
theorem tgSub_ok {o i : Iv.Env → M IV} {env : Iv.Env} {h h1 h2 h3 : IH} {x y v : IV} (e1 : o env h = some (.ok x, h1)) (e2 : i env h1 = some (.ok y, h2)) (e3 : setM x y v h2 = some (.ok (), h3)) : TgSub o i v env h = some (.ok env, h3) := by
  unfold TgSub; exact (bind_ok e1).trans ((bind_ok e2).trans ((bind_ok e3).trans rfl))
theorem sl_both {o a b : Iv.Env → M IV} {env : Iv.Env} {h h1 h2 h3 : IH} {x : IV} {j k : Int} {z : Option (Out IV × IH)} (e : o env h = some (.ok x, h1)) (e1 : a env h1 = some (.ok (.int j), h2)) (e2 : b env h2 = some (.ok (.int k), h3)) (e3 : slM x (some j) (some k) h3 = z) : Sl o (SoO a) (SoO b) env h = z := by
  have q1 : SoO a env h1 = some (.ok (some j), h2) := by unfold SoO; exact (bind_ok e1).trans rfl
  have q2 : SoO b env h2 = some (.ok (some k), h3) := by unfold SoO; exact (bind_ok e2).trans rfl
  unfold Sl; exact (bind_ok e).trans ((bind_ok q1).trans ((bind_ok q2).trans e3))
theorem cutI_map {ns : List Int} {lo hi : Option Int} : ∃ vs : List Int, cutI (ns.map IV.int) lo hi = vs.map .int ∧ vs.length ≤ ns.length ∧ ∀ k : Nat, lo = some (k : Int) → vs ≠ [] → k < ns.length := by
  refine ⟨(ns.drop (HT.sIx (ns.map IV.int).length 0 lo)).take (HT.sIx (ns.map IV.int).length (ns.map IV.int).length hi - HT.sIx (ns.map IV.int).length 0 lo), ?_, ?_, ?_⟩
  · unfold cutI; rw [List.map_take, List.map_drop]
  · simp only [List.length_take, List.length_drop]; omega
  · rintro k rfl hne
    rw [HT.sIx_nat, List.length_map] at hne
    rcases Nat.lt_or_ge k ns.length with c | c
    · exact c
    · exfalso; apply hne
      rw [Nat.min_eq_right c]; simp
def atomI : IV → Bool
  | .non => true
  | .bl _ => true
  | .int _ => true
  | .str _ => true
  | _ => false
/-- plain data at most k deep -/
def Pd : Nat → IV → Prop
  | 0, _ => False
  | k + 1, .tup ys => ys.length < 100000 ∧ ∀ y ∈ ys, Pd k y
  | _ + 1, y => atomI y = true
mutual
/-- y, perhaps with lists (all at lo or above) for some tuples -/
inductive LR (lo : Nat) (h : IH) : IV → IV → Prop
  | atom {y : IV} : atomI y = true → LR lo h y y
  | ref {n : Nat} {xs ys : List IV} : lo ≤ n → h[n]? = some (.lst xs) → LRs lo h xs ys → LR lo h (.ref n) (.tup ys)
  | tup {xs ys : List IV} : LRs lo h xs ys → LR lo h (.tup xs) (.tup ys)
inductive LRs (lo : Nat) (h : IH) : List IV → List IV → Prop
  | nil : LRs lo h [] []
  | cons {x y : IV} {xs ys : List IV} : LR lo h x y → LRs lo h xs ys → LRs lo h (x :: xs) (y :: ys)
end
mutual
theorem LR.mono {lo lo' : Nat} {h h' : IH} (l : lo' ≤ lo) (g : ∀ n o, lo ≤ n → h[n]? = some o → h'[n]? = some o) : ∀ {x y : IV}, LR lo h x y → LR lo' h' x y
  | _, _, .atom a => .atom a
  | _, _, .ref a b c => .ref (by omega) (g _ _ a b) (LRs.mono l g c)
  | _, _, .tup c => .tup (LRs.mono l g c)
theorem LRs.mono {lo lo' : Nat} {h h' : IH} (l : lo' ≤ lo) (g : ∀ n o, lo ≤ n → h[n]? = some o → h'[n]? = some o) : ∀ {xs ys : List IV}, LRs lo h xs ys → LRs lo' h' xs ys
  | _, _, .nil => .nil
  | _, _, .cons a b => .cons (LR.mono l g a) (LRs.mono l g b)
end
theorem LRs.len {lo : Nat} {h : IH} : ∀ {xs ys : List IV}, LRs lo h xs ys → xs.length = ys.length
  | _, _, .nil => rfl
  | _, _, .cons _ b => by simp [LRs.len b]
theorem LRs.get {lo : Nat} {h : IH} : ∀ {xs ys : List IV}, LRs lo h xs ys → ∀ i (h1 : i < xs.length) (h2 : i < ys.length), LR lo h xs[i] ys[i]
  | _, _, .nil, i, h1, _ => by simp at h1
  | _, _, .cons a b, 0, _, _ => a
  | _, _, .cons a b, i + 1, h1, h2 => LRs.get b i (by simpa using h1) (by simpa using h2)
theorem LRs.snoc {lo : Nat} {h : IH} {x y : IV} (a : LR lo h x y) : ∀ {xs ys : List IV}, LRs lo h xs ys → LRs lo h (xs ++ [x]) (ys ++ [y])
  | _, _, .nil => .cons a .nil
  | _, _, .cons b c => .cons b (LRs.snoc a c)
mutual
theorem LR.self {lo : Nat} {h : IH} : ∀ (k : Nat) (y : IV), Pd k y → LR lo h y y
  | 0, y, p => p.elim
  | k + 1, .tup ys, p => .tup (LRs.self k ys p.2)
  | k + 1, .non, p => .atom rfl
  | k + 1, .bl _, p => .atom rfl
  | k + 1, .int _, p => .atom rfl
  | k + 1, .str _, p => .atom rfl
  | k + 1, .fl _, p => by cases p
  | k + 1, .kl _, p => by cases p
  | k + 1, .exo, p => by cases p
  | k + 1, .ref _, p => by cases p
theorem LRs.self {lo : Nat} {h : IH} (k : Nat) : ∀ (ys : List IV), (∀ y ∈ ys, Pd k y) → LRs lo h ys ys
  | [], _ => .nil
  | y :: ys, p => .cons (LR.self k y (p y (by simp))) (LRs.self k ys fun z hz => p z (by simp [hz]))
end
theorem isi_ref {env : Iv.Env} {h h1 : IH} {n : Nat} {xs : List IV} {m : Iv.Env → M IV} (e : m env h = some (.ok (.ref n), h1)) (e1 : h1[n]? = some (.lst xs)) : Isi [.lst, .tup] m env h = some (.ok (.bl true), h1) := by
  unfold Isi
  refine (bind_ok e).trans ?_
  have : tyI h1 (.ref n) = some .lst := by
    show (match h1[n]? with
    | some (.lst _) => some Ty.lst
    | some (.dic _) => some .dic
    | some (.fdc _) => none
    | none => none) = _
    simp only [e1]
  simp only [this]; rfl
theorem isi_tup {env : Iv.Env} {h h1 : IH} {xs : List IV} {m : Iv.Env → M IV} (e : m env h = some (.ok (.tup xs), h1)) : Isi [.lst, .tup] m env h = some (.ok (.bl true), h1) := by
  unfold Isi
  exact (bind_ok e).trans rfl
theorem isi_atom {env : Iv.Env} {h h1 : IH} {x : IV} {m : Iv.Env → M IV} (e : m env h = some (.ok x, h1)) (a : atomI x = true) : Isi [.lst, .tup] m env h = some (.ok (.bl false), h1) := by
  unfold Isi
  refine (bind_ok e).trans ?_
  cases x <;> first | rfl | cases a
theorem tru_bl {env : Iv.Env} {h h1 : IH} {b : Bool} {m : Iv.Env → M IV} (e : m env h = some (.ok (.bl b), h1)) : Tru m env h = some (.ok b, h1) := tru_ok e rfl
theorem gr_set {h h' : IH} {n : Nat} {o : Iv.IO} (g : Gr h h') (e : h.length ≤ n) : Gr h (h'.set n o) := fun m p q => by
  have := (List.getElem?_eq_some_iff.mp q).1
  rw [List.getElem?_set_ne (by omega)]; exact g m p q
theorem gr_setd {h h' : IH} {o : Iv.IO} (g : Gr h h') : Gr h (h'.set h.length o) := gr_set g (Nat.le_refl _)
/-- one step of tupled over what G makes tuples of -/
theorem tupled_ok : ∀ (k : Nat) (x y : IV) (h : IH), Pd k y → LR 0 h x y → Ok (F_tupled k [x]) h fun v h' => v = y ∧ Gr h h'
  | 0, x, y, h, p, _ => p.elim
  | k + 1, x, y, h, p, r => by
    have go : ∀ (xs ys : List IV) (s : Src), y = .tup ys → LRs 0 h xs ys → srcI x h = some (.ok s, h) → (∀ h' i, Gr h h' → s h' i = some xs[i]?) → Isi [.lst, .tup] (Var 0) [some x, none] h = some (.ok (.bl true), h) → Ok (F_tupled (k + 1) [x]) h fun v h' => v = y ∧ Gr h h' := by
      intro xs ys s ey rs es hs ei
      subst ey
      have p1 : ys.length < 100000 := p.1
      have p2 : ∀ y ∈ ys, Pd k y := p.2
      have ln := rs.len
      obtain ⟨v, h2, q2, rfl, acc, rfl, b2, b3⟩ := lcE_ok (k := LN) (n := ys.length) (src := Iter (Var 0)) (s := s) (h := h) (h1 := h) (p := .n 1) (vs := [1]) (c := YesT) (el := CallF 1 (F_tupled k) (Cons (Var 1) Nil)) (env := [some x, none])
        (fun i acc h' => acc = ys.take i ∧ h'[h.length]? = some (.lst acc) ∧ Gr h h')
        (iter_ok (x := x) rfl es) (LN_ok p1) ⟨rfl, push_len, Gr.push _ _⟩
        (by
          rintro i acc h' hi ⟨rfl, b2, b3⟩
          have hi2 : i < xs.length := by omega
          obtain ⟨v, h3, q3, rfl, g3⟩ := tupled_ok k xs[i] ys[i] h' (p2 _ (List.getElem_mem hi)) (LR.mono (Nat.le_refl _) (fun n o _ e => b3 n o e) (rs.get i hi2 hi))
          refine ⟨xs[i], _, by rw [hs h' i b3, List.getElem?_eq_getElem hi2], rfl, true, h', rfl, ?_⟩
          show Ok _ _ _
          have b2' := g3 _ _ b2
          refine ⟨ys[i], h3, callF_ok (one_ok (x := xs[i]) rfl) rfl q3, b2', by rw [List.length_take]; omega, ?_, ?_, gr_setd (b3.trans g3)⟩
          · rw [List.take_succ, List.getElem?_eq_getElem hi]; rfl
          · rw [List.getElem?_set_self (List.getElem?_eq_some_iff.mp b2').1])
        (by
          rintro acc h' ⟨rfl, b2, b3⟩
          rw [hs h' _ b3, List.getElem?_eq_none (by omega)])
      rw [List.take_length] at b2
      exact ⟨.tup ys, h2, fn_rt (seq_rt (ifS_tt (tru_bl ei) (ret_ok (callB_ok (one_ok q2) (tuple_lst b2))))), rfl, b3⟩
    cases r with
    | atom a => exact ⟨x, h, fn_rt ((seq_nx (ifS_ff (tru_bl (isi_atom (x := x) rfl a)) rfl)).trans (ret_ok (x := x) rfl)), rfl, Gr.refl h⟩
    | @ref n xs ys l e rs => exact go xs ys (SLive n) rfl rs (src_lst e) (fun h' i g => slive (g _ _ e) i) (isi_ref rfl e)
    | @tup xs ys rs => exact go xs ys (SItems xs) rfl rs rfl (fun h' i g => rfl) (isi_tup rfl)
theorem Gr.le {h h' : IH} (g : Gr h h') : h.length ≤ h'.length := by
  rcases Nat.lt_or_ge h'.length h.length with c | c
  · exfalso
    have hl : h.length - 1 < h.length := by omega
    have q := g (h.length - 1) h[h.length - 1] (List.getElem?_eq_getElem hl)
    have := (List.getElem?_eq_some_iff.mp q).1
    omega
  · exact c
theorem lists_ok : ∀ (k : Nat) (y : IV) (h : IH), Pd k y → Ok (F__law_lists k [y]) h fun v h' => LR h.length h' v y ∧ Gr h h'
  | 0, y, h, p => p.elim
  | k + 1, y, h, p => by
    have at_ : atomI y = true → Ok (F__law_lists (k + 1) [y]) h fun v h' => LR h.length h' v y ∧ Gr h h' := fun a =>
      ⟨y, h, fn_rt (ret_ok (ifE_ff (tru_bl (isi_atom (x := y) rfl a)) rfl)), .atom a, Gr.refl h⟩
    cases y with
    | tup ys =>
      have p1 : ys.length < 100000 := p.1
      have p2 : ∀ y ∈ ys, Pd k y := p.2
      obtain ⟨v, h2, q2, rfl, acc, b1, b2, b3⟩ := lcE_ok (k := LN) (n := ys.length) (src := Iter (Var 0)) (s := SItems ys) (h := h) (h1 := h) (p := .n 1) (vs := [1]) (c := YesT) (el := CallF 1 (F__law_lists k) (Cons (Var 1) Nil)) (env := [some (.tup ys), none])
        (fun i acc h' => LRs (h.length + 1) h' acc (ys.take i) ∧ h'[h.length]? = some (.lst acc) ∧ Gr h h')
        (iter_ok (x := .tup ys) rfl rfl) (LN_ok p1) ⟨.nil, push_len, Gr.push _ _⟩
        (by
          rintro i acc h' hi ⟨b1, b2, b3⟩
          obtain ⟨v, h3, q3, l3, g3⟩ := lists_ok k ys[i] h' (p2 _ (List.getElem_mem hi))
          have hl := (List.getElem?_eq_some_iff.mp b2).1
          have b2' := g3 _ _ b2
          have ln := b1.len
          rw [List.length_take] at ln
          have keep : ∀ n o, h.length + 1 ≤ n → h3[n]? = some o → (h3.set h.length (.lst (acc ++ [v])))[n]? = some o := fun n o l e => by
            rw [List.getElem?_set_ne (by omega)]; exact e
          refine ⟨ys[i], _, by show some ys[i]? = _; rw [List.getElem?_eq_getElem hi], rfl, true, h', rfl, ?_⟩
          show Ok _ _ _
          refine ⟨v, h3, callF_ok (one_ok (x := ys[i]) rfl) rfl q3, b2', by omega, ?_, ?_, gr_setd (b3.trans g3)⟩
          · rw [List.take_succ, List.getElem?_eq_getElem hi]
            exact LRs.snoc (LR.mono (by omega) (fun n o l e => keep n o (by omega) e) l3) (LRs.mono (Nat.le_refl _) (fun n o l e => keep n o l (g3 n o e)) b1)
          · rw [List.getElem?_set_self (List.getElem?_eq_some_iff.mp b2').1])
        (by
          rintro acc h' ⟨b1, b2, b3⟩
          show some ys[ys.length]? = _
          rw [List.getElem?_eq_none (Nat.le_refl _)])
      rw [List.take_length] at b1
      exact ⟨.ref h.length, h2, fn_rt (ret_ok (ifE_tt (tru_bl (isi_tup rfl)) q2)), .ref (Nat.le_refl _) b2 (LRs.mono (by omega) (fun n o _ e => e) b1), b3⟩
    | non => exact at_ rfl
    | bl _ => exact at_ rfl
    | int _ => exact at_ rfl
    | str _ => exact at_ rfl
    | fl _ => cases p
    | kl _ => cases p
    | exo => cases p
    | ref _ => cases p
/-- tupled (lists y) = y -/
theorem tupled_lists {k : Nat} {y : IV} {h : IH} (p : Pd k y) : Ok (F__law_lists k [y]) h fun v h' => Gr h h' ∧ ∀ h2, Gr h' h2 → Ok (F_tupled k [v]) h2 fun w h3 => w = y ∧ Gr h2 h3 :=
  (lists_ok k y h p).mono fun v h' ⟨l, g⟩ => ⟨g, fun h2 g2 => tupled_ok k v y h2 p (LR.mono (Nat.zero_le _) (fun n o _ e => g2 n o e) l)⟩
theorem tupled_self {k : Nat} {y : IV} {h : IH} (p : Pd k y) : Ok (F_tupled k [y]) h fun w h3 => w = y ∧ Gr h h3 := tupled_ok k y y h p (LR.self k y p)
theorem sub_len {l m : List Str} (n : l.Nodup) (s : ∀ x ∈ l, x ∈ m) : l.length ≤ m.length := by
  induction l generalizing m with
  | nil => simp
  | cons a l ih =>
    rw [List.nodup_cons] at n
    have ha := s a (by simp)
    have := ih (m := m.erase a) n.2 fun x hx => by
      have hne : x ≠ a := by rintro rfl; exact n.1 hx
      exact (List.mem_erase_of_ne hne).mpr (s x (by simp [hx]))
    rw [List.length_erase_of_mem ha] at this
    have := List.length_pos_of_mem ha
    simp only [List.length_cons]; omega
theorem same_int (k : Nat) (i : Int) (h : IH) : F__law_same (k + 1) [.int i, .int i] h = some (.ok (.bl true), h) := by
  have e : F__law_same (k + 1) [.int i, .int i] h = some (.ok (.bl (decide (i = i))), h) := rfl
  rw [e, decide_eq_true rfl]
theorem ne_bl (b : Bool) (h : IH) : neI (.bl b) (.bl b) h = some (.ok (.bl false), h) := by cases b <;> rfl
theorem isi_l {env : Iv.Env} {h h1 : IH} {n : Nat} {xs : List IV} {m : Iv.Env → M IV} (e : m env h = some (.ok (.ref n), h1)) (e1 : h1[n]? = some (.lst xs)) : Isi [.lst] m env h = some (.ok (.bl true), h1) ∧ Isi [.tup] m env h = some (.ok (.bl false), h1) := by
  have : tyI h1 (.ref n) = some .lst := by
    show (match h1[n]? with
    | some (.lst _) => some Ty.lst
    | some (.dic _) => some .dic
    | some (.fdc _) => none
    | none => none) = _
    simp only [e1]
  constructor
  · unfold Isi
    refine (bind_ok e).trans ?_
    simp only [this]; rfl
  · unfold Isi
    refine (bind_ok e).trans ?_
    simp only [this]; rfl
theorem or_ff {c d : Iv.Env → M Bool} {env : Iv.Env} {h h1 : IH} {z : Option (Out Bool × IH)} (e : c env h = some (.ok false, h1)) (e2 : d env h1 = z) : OrT c d env h = z := by
  unfold OrT; exact (bind_ok e).trans e2
theorem andV_tt {m n : Iv.Env → M IV} {env : Iv.Env} {h h1 : IH} {x : IV} {z : Option (Out IV × IH)} (e : m env h = some (.ok x, h1)) (e2 : truM x h1 = some (.ok true, h1)) (e3 : n env h1 = z) : AndV m n env h = z := by
  unfold AndV; exact (bind_ok e).trans ((bind_ok e2).trans (by rw [if_pos rfl]; exact e3))
theorem zip_lst {h : IH} {n m : Nat} {xs ys : List IV} (e : h[n]? = some (.lst xs)) (e2 : h[m]? = some (.lst ys)) : zipM [.ref n, .ref m] h = some (.ok (SZip (SLive n) (SLive m)), h) := by
  show (match h[n]?, h[m]? with
    | some (.lst _), some (.lst _) => some (Out.ok (SZip (SLive n) (SLive m)), h)
    | _, _ => none) = _
  simp only [e, e2]
theorem same_go {k : Nat} {x y : IV} {xs : List IV} {s t : Src} {h : IH} (ih : ∀ z ∈ xs, ∀ h, Ok (F__law_same k [z, z]) h fun v h' => v = .bl true ∧ Gr h h') (ez : zipM [x, y] h = some (.ok (SZip s t), h)) (es : ∀ h' i, Gr h h' → s h' i = some xs[i]?) (et : ∀ h' i, Gr h h' → t h' i = some xs[i]?) (hl : xs.length < 100000)
    (i1 : Isi [.lst, .tup] (Var 1) [some x, some y, none, none, none] h = some (.ok (.bl true), h)) {b c : Bool} (i2 : Isi [.lst] (Var 0) [some x, some y, none, none, none] h = some (.ok (.bl b), h)) (i3 : Isi [.lst] (Var 1) [some x, some y, none, none, none] h = some (.ok (.bl b), h)) (i4 : Isi [.tup] (Var 0) [some x, some y, none, none, none] h = some (.ok (.bl c), h)) (i5 : Isi [.tup] (Var 1) [some x, some y, none, none, none] h = some (.ok (.bl c), h))
    (l0 : lenM [x] h = some (.ok (.int xs.length), h)) (l1 : lenM [y] h = some (.ok (.int xs.length), h)) : Ok (F__law_same (k + 1) [x, y]) h fun v h' => v = .bl true ∧ Gr h h' := by
  obtain ⟨v, h2, q2, rfl, acc, rfl, b2, b3⟩ := lcE_ok (k := LN) (n := xs.length) (src := IterA zipM (Cons (Var 0) (Cons (Var 1) Nil))) (s := SZip s t) (h := h) (h1 := h) (p := .t [4, 3]) (vs := [4, 3]) (c := YesT) (el := CallF 2 (F__law_same k) (Cons (Var 4) (Cons (Var 3) Nil))) (env := [some x, some y, none, none, none])
    (fun i acc h' => acc = (List.replicate i true).map .bl ∧ h'[h.length]? = some (.lst acc) ∧ Gr h h')
    (iterA_ok (two_ok (x := x) (y := y) rfl rfl) ez) (LN_ok hl) ⟨rfl, push_len, Gr.push _ _⟩
    (by
      rintro i acc h' hi ⟨rfl, b2, b3⟩
      obtain ⟨v, h3, q3, rfl, g3⟩ := ih xs[i] (List.getElem_mem hi) h'
      have b2' := g3 _ _ b2
      refine ⟨.tup [xs[i], xs[i]], _, ?_, rfl, true, h', rfl, ?_⟩
      · unfold SZip
        rw [es h' i b3, et h' i b3, List.getElem?_eq_getElem hi]
      · show Ok _ _ _
        refine ⟨.bl true, h3, callF_ok (two_ok (x := xs[i]) (y := xs[i]) rfl rfl) rfl q3, b2', by simp; omega, ?_, ?_, gr_setd (b3.trans g3)⟩
        · rw [List.replicate_succ', List.map_append]; rfl
        · rw [List.getElem?_set_self (List.getElem?_eq_some_iff.mp b2').1])
    (by
      rintro acc h' ⟨rfl, b2, b3⟩
      unfold SZip
      rw [es h' _ b3, et h' _ b3, List.getElem?_eq_none (by omega)])
  have hall := all_lst b2
  have e1 : ((List.replicate xs.length true).all id) = true := by simp
  rw [e1] at hall
  have ql : Bin eqI (CallB lenM (Cons (Var 0) Nil)) (CallB lenM (Cons (Var 1) Nil)) [some x, some y, none, none, none] h = some (.ok (.bl true), h) := by
    refine (bin_ok (callB_ok (one_ok (x := x) rfl) l0) (callB_ok (one_ok (x := y) rfl) l1) eqI_int).trans ?_
    rw [decide_eq_true rfl]
  exact ⟨.bl true, h2, fn_rt (seq_rt (ifS_tt (tru_bl i1) ((seq_nx (ifS_ff (tst_ok (bin_ok i2 i3 (ne_bl b h))) rfl)).trans ((seq_nx (ifS_ff (tst_ok (bin_ok i4 i5 (ne_bl c h))) rfl)).trans (ret_ok (andV_tt ql rfl (callB_ok (one_ok q2) hall))))))), rfl, b3⟩
theorem same_str (k : Nat) (a : Str) (h : IH) : F__law_same (k + 1) [.str a, .str a] h = some (.ok (.bl true), h) := by
  have e : F__law_same (k + 1) [.str a, .str a] h = some (.ok (.bl (decide (a = a))), h) := rfl
  rw [e, decide_eq_true rfl]
/-- numbers, texts and tuples of them -/
def Pq : Nat → IV → Prop
  | 0, _ => False
  | _ + 1, .int _ => True
  | _ + 1, .str _ => True
  | k + 1, .tup ys => ys.length < 100000 ∧ ∀ y ∈ ys, Pq k y
  | _ + 1, _ => False
theorem same_pq : ∀ (k : Nat) (y : IV) (h : IH), Pq k y → Ok (F__law_same k [y, y]) h fun v h' => v = .bl true ∧ Gr h h'
  | 0, y, h, p => p.elim
  | k + 1, .int i, h, p => ⟨_, _, same_int k i h, rfl, Gr.refl h⟩
  | k + 1, .str i, h, p => ⟨_, _, same_str k i h, rfl, Gr.refl h⟩
  | k + 1, .tup ys, h, p => same_go (xs := ys) (s := SItems ys) (t := SItems ys) (fun z hz h => same_pq k z h (p.2 z hz)) rfl (fun _ _ _ => rfl) (fun _ _ _ => rfl) p.1 rfl rfl rfl rfl rfl rfl rfl
  | k + 1, .non, h, p => p.elim
  | k + 1, .bl _, h, p => p.elim
  | k + 1, .fl _, h, p => p.elim
  | k + 1, .kl _, h, p => p.elim
  | k + 1, .exo, h, p => p.elim
  | k + 1, .ref _, h, p => p.elim
theorem same_lst {k a b : Nat} {xs : List IV} {h : IH} (ea : h[a]? = some (.lst xs)) (eb : h[b]? = some (.lst xs)) (hl : xs.length < 100000) (p : ∀ x ∈ xs, Pq k x) : Ok (F__law_same (k + 1) [.ref a, .ref b]) h fun v h' => v = .bl true ∧ Gr h h' := by
  have l0 := isi_l (m := Var 0) (env := [some (.ref a), some (.ref b), none, none, none]) (h := h) rfl ea
  have l1 := isi_l (m := Var 1) (env := [some (.ref a), some (.ref b), none, none, none]) (h := h) rfl eb
  exact same_go (xs := xs) (fun z hz h => same_pq k z h (p z hz)) (zip_lst ea eb) (fun h' i g => slive (g _ _ ea) i) (fun h' i g => slive (g _ _ eb) i) hl (isi_ref (n := b) rfl eb) l0.1 l1.1 l0.2 l1.2 (len_lst ea) (len_lst eb)
theorem dcL_ok {s : Src} {p : Pat} {c : Iv.Env → M Bool} {kx el : Iv.Env → M IV} {d : Nat} {env : Iv.Env} {n : Nat} (J : Nat → List (Key × IV) → IH → Prop)
    (hs : ∀ i kvs h, i < n → J i kvs h → ∃ x env2 y z kk h1 h2 h3, s h i = some (some x) ∧ p.set x env = some env2 ∧ c env2 h = some (.ok true, h1) ∧ kx env2 h1 = some (.ok y, h2) ∧ el env2 h2 = some (.ok z, h3) ∧ keyI y = some kk ∧ h3[d]? = some (.dic kvs) ∧ kvs.length < 100000 ∧ J (i + 1) (putI kvs kk z) (h3.set d (.dic (putI kvs kk z))))
    (he : ∀ kvs h, J n kvs h → s h n = some none) : ∀ (k i : Nat) (kvs : List (Key × IV)) (h : IH), i ≤ n → n - i < k → J i kvs h → Ok (DcL s p c kx el d env k i) h fun _ h' => ∃ kvs', J n kvs' h'
  | 0, i, kvs, h, a1, a2, a3 => by omega
  | k + 1, i, kvs, h, a1, a2, a3 => by
    by_cases ci : i < n
    · obtain ⟨x, env2, y, z, kk, h1, h2, h3, e1, e2, e3, e4, e5, e6, e7, e8, e9⟩ := hs i kvs h ci a3
      obtain ⟨u, h4, e10, e11⟩ := dcL_ok J hs he k (i + 1) _ _ (by omega) (by omega) e9
      refine ⟨u, h4, ?_, e11⟩
      unfold DcL
      simp only [e1, e2]
      rw [bind_ok e3, if_pos rfl]
      refine (bind_ok e4).trans ((bind_ok e5).trans ?_)
      simp only [e6, e7]
      rw [if_pos (lt_lim e8)]
      exact e10
    · have ei : i = n := by omega
      subst ei
      refine ⟨(), h, ?_, kvs, a3⟩
      unfold DcL
      simp only [he kvs h a3]
theorem dcE_ok {src : Iv.Env → M Src} {s : Src} {p : Pat} {c : Iv.Env → M Bool} {kx el : Iv.Env → M IV} {vs : List Nat} {env : Iv.Env} {n k : Nat} {h h1 : IH} (J : Nat → List (Key × IV) → IH → Prop) (e0 : src env h = some (.ok s, h1)) (hk : n < k)
    (h0 : J 0 [] (h1 ++ [.dic []]))
    (hs : ∀ i kvs h, i < n → J i kvs h → ∃ x env2 y z kk h2 h3 h4, s h i = some (some x) ∧ p.set x (wipeE env vs) = some env2 ∧ c env2 h = some (.ok true, h2) ∧ kx env2 h2 = some (.ok y, h3) ∧ el env2 h3 = some (.ok z, h4) ∧ keyI y = some kk ∧ h4[h1.length]? = some (.dic kvs) ∧ kvs.length < 100000 ∧ J (i + 1) (putI kvs kk z) (h4.set h1.length (.dic (putI kvs kk z))))
    (he : ∀ kvs h, J n kvs h → s h n = some none) : Ok (DcE k src p c kx el vs env) h fun v h' => v = .ref h1.length ∧ ∃ kvs', J n kvs' h' := by
  unfold DcE
  obtain ⟨x, h', e, p⟩ := dcL_ok (env := wipeE env vs) J hs he k 0 [] _ (by omega) (by omega) h0
  refine ⟨_, h', ?_, rfl, p⟩
  refine (bind_ok e0).trans ?_
  simp only [e]
theorem any_key {kvs : List (Key × IV)} {k : Key} : (kvs.any fun kv => decide (kv.1 = k)) = true ↔ k ∈ kvs.map (·.1) := by
  rw [List.any_eq_true]
  constructor
  · rintro ⟨kv, h, e⟩; exact List.mem_map.mpr ⟨kv, h, of_decide_eq_true e⟩
  · intro m
    obtain ⟨kv, h, e⟩ := List.mem_map.mp m
    exact ⟨kv, h, decide_eq_true e⟩
theorem put_in {kvs : List (Key × IV)} {k : Key} {v : IV} (c : k ∈ kvs.map (·.1)) : (putI kvs k v).map (·.1) = kvs.map (·.1) := by
  unfold putI
  rw [if_pos (any_key.mpr c), List.map_map]
  apply List.map_congr_left
  intro kv _
  show (if kv.1 = k then (kv.1, v) else kv).1 = kv.1
  split <;> rfl
theorem put_out {kvs : List (Key × IV)} {k : Key} {v : IV} (c : ¬ k ∈ kvs.map (·.1)) : (putI kvs k v).map (·.1) = kvs.map (·.1) ++ [k] := by
  unfold putI
  rw [if_neg (fun q => c (any_key.mp q)), List.map_append]; rfl
theorem val_put (kvs : List (Key × IV)) (k k' : Key) (v : IV) : valI (putI kvs k v) k' = if k' = k then some v else valI kvs k' := by
  unfold putI
  by_cases c : (kvs.any fun kv => decide (kv.1 = k)) = true
  · rw [if_pos c]
    unfold valI
    rw [List.find?_map]
    have e : ((fun kv : Key × IV => decide (kv.1 = k')) ∘ fun kv : Key × IV => if kv.1 = k then (kv.1, v) else kv) = fun kv => decide (kv.1 = k') := by
      funext kv
      show decide ((if kv.1 = k then (kv.1, v) else kv).1 = k') = _
      split <;> rfl
    rw [e]
    cases q : kvs.find? fun kv => decide (kv.1 = k') with
    | none =>
      have hn : k' ≠ k := by
        rintro rfl
        obtain ⟨kv, h, e⟩ := List.any_eq_true.mp c
        have := List.find?_eq_none.mp q kv h
        exact this e
      rw [if_neg hn]; rfl
    | some kv =>
      have e1 : kv.1 = k' := of_decide_eq_true (List.find?_some (p := fun kv : Key × IV => decide (kv.1 = k')) q)
      show some (if kv.1 = k then (kv.1, v) else kv).2 = _
      rw [e1]
      by_cases d : k' = k
      · rw [if_pos d, if_pos d]
      · rw [if_neg d, if_neg d]; rfl
  · rw [if_neg c]
    unfold valI
    rw [List.find?_append]
    by_cases d : k' = k
    · subst d
      rw [if_pos rfl]
      have : (kvs.find? fun kv => decide (kv.1 = k')) = none := by
        rw [List.find?_eq_none]
        intro kv h e
        exact c (List.any_eq_true.mpr ⟨kv, h, e⟩)
      rw [this]
      simp
    · rw [if_neg d]
      have : ([(k, v)] : List (Key × IV)).find? (fun kv => decide (kv.1 = k')) = none := by
        rw [List.find?_eq_none]
        intro kv h e
        rw [List.mem_singleton.mp h] at e
        exact d (of_decide_eq_true e).symm
      rw [this, Option.or_none]
theorem set_dic {h : IH} {n : Nat} {kvs : List (Key × IV)} {k : Key} {y v : IV} (e : h[n]? = some (.dic kvs)) (e1 : keyI y = some k) (e2 : kvs.length < 100000) : setM (.ref n) y v h = some (.ok (), h.set n (.dic (putI kvs k v))) := by
  unfold setM
  simp only [e, e1]
  rw [if_pos (lt_lim e2)]
theorem senum_lst {h : IH} {n i : Nat} {xs : List IV} (e : h[n]? = some (.lst xs)) : SEnum (SLive n) h i = some (xs[i]?.map fun x => .tup [.int i, x]) := by
  unfold SEnum; rw [slive e]; rfl
theorem ge_int {i j : Int} {h : IH} : geI (.int i) (.int j) h = some (.ok (.bl (decide (j ≤ i))), h) := rfl
theorem pow_ok {i j : Int} {h : IH} (h0 : 0 ≤ j) (h1 : j ≤ 1000) (h2 : i.natAbs < 1000000) : powI (.int i) (.int j) h = some (.ok (.int (i ^ j.toNat)), h) := by
  refine intC_ok ?_
  unfold powOk powLim powBase
  simp [h0]
  omega
theorem mul_one_ok {i : Int} {b : Bool} {h : IH} : mulI (.int i) (.int (if b then 1 else 0)) h = some (.ok (.int (i * (if b then 1 else 0))), h) := by
  have : mulOk i (if b = true then 1 else 0) = true := mulOk_r (by cases b <;> simp <;> omega) (by cases b <;> simp <;> omega)
  rw [mulI_int this]; rfl
theorem box_ok {h : IH} {m k : Nat} {cs : List Int} (e : h[m]? = some (.lst (cs.map .int))) (hk : k < cs.length) (hk2 : k < 1000) : Ok (F__law_box [.ref m, .int k]) h fun v h' => v = .ref h.length ∧ Ur h' h.length 900000000 ∧ Gr h h' := by
  have ec : atI (cs.map IV.int) (k : Int) = some (.int cs[k]) := by
    rw [atI_nn (by omega) (by simp; exact hk)]; simp [hk]
  generalize cs[k] = c at ec
  have hk' : decide ((k : Int) < ((cs.map IV.int).length : Nat)) = true := by simp; exact hk
  have hb0 : 0 ≤ c % 2305843009213693951 := Int.emod_nonneg _ (by omega)
  have hb1 : c % 2305843009213693951 < 2305843009213693951 := Int.emod_lt_of_pos _ (by omega)
  have m1 : mulOk 39373 (k : Int) = true := mulOk_l (by omega) (by omega)
  refine ⟨.ref h.length, h ++ [.lst [.int ((if c < 0 then -c else c) * (if decide (10 ^ (18 : Int).toNat ≤ (if c < 0 then -c else c)) then 1 else 0)), .int (c % 2305843009213693951 + 39373 * k + 1052928), .int 0]], ?_, rfl, ?_, Gr.push _ _⟩
  · refine fn_rt ((seq_nx (asg_ok (x := .int c) (h1 := h) ?_)).trans (ret_ok (lst_ok2 (h1 := h) (cons_ok (h1 := h) ?_ (cons_ok (h1 := h) ?_ (one_ok (x := .int 0) rfl))) (mkL_ok (by show 3 ≤ 100000; omega)))))
    · refine ifE_tt (h1 := h) ?_ (bin_ok (x := .ref m) (y := .int k) rfl rfl (ix_lst e ec))
      rw [← hk']
      exact tst_ok (bin_ok (x := .int k) rfl (callB_ok (one_ok (x := .ref m) rfl) (len_lst e)) lt_int)
    · exact bin_ok (x := .int (if c < 0 then -c else c)) (callB_ok (one_ok (x := .int c) rfl) rfl) (callB_ok (one_ok (bin_ok (x := .int (if c < 0 then -c else c)) (callB_ok (one_ok (x := .int c) rfl) rfl) (bin_ok (x := .int 10) (y := .int 18) rfl rfl (pow_ok (by omega) (by omega) (by decide))) ge_int)) rfl) mul_one_ok
    · refine bin_ok (x := .int (c % 2305843009213693951 + 39373 * k)) (h1 := h) (bin_ok (x := .int (c % 2305843009213693951)) (y := .int (39373 * k)) (h1 := h) (h2 := h) (bin_ok (x := .int c) (y := .int 2305843009213693951) (h1 := h) (callB_ok (one_ok (x := .int c) rfl) rfl) rfl (modI_ok (by omega))) ?_ rfl) (y := .int 1052928) rfl rfl
      exact bin_ok (x := .int 39373) (y := .int k) rfl rfl (by rw [mulI_int m1]; rfl)
  · refine ⟨_, _, _, push_len, ?_, by omega, by omega, by omega, by omega⟩
    exact Int.mul_nonneg (by split <;> omega) (by split <;> omega)
end K28
set_option autoImplicit true
set_option Elab.async false
set_option linter.all false
set_option maxRecDepth 100000
set_option maxHeartbeats 600000
namespace K28
open PySem L2 Iv
theorem cells_ok {h : IH} {ns : List Int} {x : IV} (hn : ns.length ≤ 63) (hx : x = .fl (ns.map .int) ∨ x = .kl (ns.map .int)) : Ok (F__law_cells [x, .int 2]) h fun v h' => ∃ (m : Nat) (cs : List Int), v = .ref m ∧ h'[m]? = some (.lst (cs.map .int)) ∧ 0 < cs.length ∧ cs.length ≤ 2 := by
  have hsl : ∀ lo hi (h : IH), (cutI (ns.map IV.int) lo hi).length ≤ 100000 → slM x lo hi h = some (.ok (.ref h.length), h ++ [.lst (cutI (ns.map IV.int) lo hi)]) := by
    intro lo hi h e
    rcases hx with rfl | rfl <;> exact mkL_ok e
  have len_cut : ∀ lo hi, (cutI (ns.map IV.int) lo hi).length ≤ 63 := fun lo hi => by
    obtain ⟨vs, e, l, _⟩ := cutI_map (ns := ns) (lo := lo) (hi := hi)
    rw [e, List.length_map]; omega
  have c3 : cutI (ns.map IV.int) none (some 2) = (ns.take 2).map .int := by
    have := cutI_to (xs := ns.map IV.int) (k := 2)
    rw [List.map_take]; exact this
  have s1 := hsl none (some 2) h (by have := len_cut none (some 2); omega)
  rw [c3] at s1
  have l1 := list_lst (h := h ++ [.lst ((ns.take 2).map .int)]) (n := h.length) (xs := (ns.take 2).map .int) push_len (by simp; omega)
  -- the first cells
  have first : ∃ (n1 : Nat) (cs : List Int) (h1 : IH), OrV (CallB listM (Cons (Sl (Var 0) NoO (SoO (Var 1))) Nil)) (Lst (Cons (Cst (.int 0)) Nil)) [some x, some (.int 2), none, none, none, none] h = some (.ok (.ref n1), h1) ∧ h1[n1]? = some (.lst (cs.map .int)) ∧ 0 < cs.length ∧ cs.length ≤ 2 ∧ (2 < ns.length → cs.length = 2) := by
    have e1 := callB_ok (g := listM) (one_ok (sl_to (env := [some x, some (.int 2), none, none, none, none]) (o := Var 0) (a := Var 1) (x := x) (j := 2) rfl rfl s1)) l1
    have t1 := tru_lst (h := (h ++ [.lst ((ns.take 2).map .int)]) ++ [.lst ((ns.take 2).map .int)]) (n := (h ++ [Iv.IO.lst ((ns.take 2).map IV.int)]).length) (xs := (ns.take 2).map .int) push_len
    cases ns with
    | nil => exact ⟨_, [0], _, orV_ff e1 t1 (lst_ok2 (xs := [.int 0]) rfl (mkL_ok (by show 1 ≤ 100000; omega))), push_len, by simp, by simp, by simp⟩
    | cons n ns => exact ⟨_, (n :: ns).take 2, _, orV_tt e1 t1, push_len, by simp, by simp; omega, by simp; omega⟩
  obtain ⟨n1, cs, h1, q1, f1, f2, f3, f4⟩ := first
  obtain ⟨vs, ev, lv, bv⟩ := cutI_map (ns := ns) (lo := some 2) (hi := some 63)
  have s2 := hsl (some 2) (some 63) h1 (by have := len_cut (some 2) (some 63); omega)
  rw [ev] at s2
  have n1l := (List.getElem?_eq_some_iff.mp f1).1
  obtain ⟨f, h2, q2, env2, rfl, o3, o4, o5, cs2, rfl, b1, b2, b3⟩ := forS_ok (src := IterA enumM (Cons (Sl (Var 0) (SoO (Var 1)) (SoO (Cst (.int 63)))) Nil)) (s := SEnum (SLive h1.length)) (t := TgUn 2 (TgCons (TgN 3) (TgCons (TgN 4) TgNil)))
    (b := (SeqS (AsgS (Bin modI (CallB intM (Cons (Var 3) Nil)) (Var 1)) (TgN 5))
    (AsgS (Bin addI (Bin ixM (Var 2) (Var 5)) (Bin mulI (Var 4) (Bin addI (Var 3) (Cst (.int 2))))) (TgSub (Var 2) (Var 5)))))
    (n := vs.length) (k := LN) (env := [some x, some (.int 2), some (.ref n1), none, none, none]) (h := h1) (h1 := h1 ++ [.lst (vs.map .int)])
    (fun i env h' => ∃ (o3 o4 o5 : Option IV) (cs2 : List Int), env = [some x, some (.int 2), some (.ref n1), o3, o4, o5] ∧ cs2.length = cs.length ∧ h'[n1]? = some (.lst (cs2.map .int)) ∧ h'[h1.length]? = some (.lst (vs.map .int)))
    (iterA_ok (one_ok (sl_both (x := x) (j := 2) (k := 63) rfl rfl rfl s2)) (enum_lst push_len))
    (LN_ok (by omega))
    ⟨none, none, none, cs, rfl, rfl, by rw [List.getElem?_append_left n1l]; exact f1, push_len⟩
    (by
      rintro i env h' hi ⟨o3, o4, o5, cs2, rfl, b1, b2, b3⟩
      have hc : cs.length = 2 := f4 (bv 2 rfl (by intro e; rw [e] at hi; simp at hi))
      have e0 : (vs.map IV.int)[i]? = some (.int vs[i]) := by simp [hi]
      have m0 : 0 ≤ (i : Int) % 2 := Int.emod_nonneg _ (by omega)
      have m1 : (i : Int) % 2 < 2 := Int.emod_lt_of_pos _ (by omega)
      have lt3 : (i : Int) % 2 < ((cs2.map IV.int).length : Nat) := by rw [List.length_map]; omega
      have hj : ((i : Int) % 2).toNat < cs2.length := by omega
      have ea : atI (cs2.map IV.int) ((i : Int) % 2) = some (.int cs2[((i : Int) % 2).toNat]) := by
        rw [atI_nn m0 lt3]; simp [hj]
      have mo : mulOk vs[i] ((i : Int) + 2) = true := mulOk_r (by omega) (by omega)
      have st := set_lst (v := .int (cs2[((i : Int) % 2).toNat] + vs[i] * ((i : Int) + 2))) b2 m0 lt3
      have hne : n1 ≠ h1.length := by omega
      refine ⟨.tup [.int i, .int vs[i]], by rw [senum_lst b3, e0]; rfl, _, h'.set n1 (.lst ((cs2.map IV.int).set ((i : Int) % 2).toNat (.int (cs2[((i : Int) % 2).toNat] + vs[i] * ((i : Int) + 2))))), (bind_ok (x := [some x, some (.int 2), some (.ref n1), some (.int i), some (.int vs[i]), o5]) (h1 := h') rfl).trans ((seq_nx (env2 := [some x, some (.int 2), some (.ref n1), some (.int i), some (.int vs[i]), some (.int ((i : Int) % 2))]) (h1 := h') (asg_ok (bin_ok (x := .int i) (y := .int 2) (h1 := h') (callB_ok (one_ok (x := .int i) rfl) rfl) rfl (modI_ok (by omega))))).trans
        (asgT_ok (h1 := h') (x := .int (cs2[((i : Int) % 2).toNat] + vs[i] * ((i : Int) + 2))) (bin_ok (x := .int cs2[((i : Int) % 2).toNat]) (y := .int (vs[i] * ((i : Int) + 2))) (h1 := h') (h2 := h') (bin_ok (x := .ref n1) (y := .int ((i : Int) % 2)) rfl rfl (ix_lst b2 ea)) (bin_ok (x := .int vs[i]) (y := .int ((i : Int) + 2)) (h1 := h') (h2 := h') rfl (bin_ok (x := .int i) (y := .int 2) rfl rfl rfl) (by rw [mulI_int mo]; rfl)) rfl) (tgSub_ok (x := .ref n1) (y := .int ((i : Int) % 2)) rfl rfl st))), _, .inl rfl, _, _, _, cs2.set ((i : Int) % 2).toNat (cs2[((i : Int) % 2).toNat] + vs[i] * ((i : Int) + 2)), rfl, by rw [List.length_set]; exact b1, ?_, ?_⟩
      · rw [List.getElem?_set_self (List.getElem?_eq_some_iff.mp b2).1, List.map_set]
      · rw [List.getElem?_set_ne hne]; exact b3)
    (by
      rintro env h' ⟨o3, o4, o5, cs2, rfl, b1, b2, b3⟩
      rw [senum_lst b3, List.getElem?_eq_none (by rw [List.length_map]; omega)]; rfl)
  exact ⟨.ref n1, h2, fn_rt ((seq_nx (asg_ok q1)).trans ((seq_nx q2).trans (ret_ok (x := .ref n1) rfl))), n1, cs2, rfl, b2, by omega, by omega⟩
end K28
set_option autoImplicit true
set_option Elab.async false
set_option linter.all false
set_option maxRecDepth 100000
set_option maxHeartbeats 600000
namespace K28
open PySem L2 Iv
/-- the ten names -/
def pool : List Str := [⟨#[97]⟩, ⟨#[98]⟩, ⟨#[99]⟩, ⟨#[100]⟩, ⟨#[97, 98]⟩, ⟨#[108, 111, 97, 100]⟩, ⟨#[117, 115, 101]⟩, ⟨#[122, 122, 122, 122, 122, 122, 122, 122]⟩, ⟨#[120]⟩, ⟨#[121]⟩]
theorem pool_nd : pool.Nodup := by decide +kernel
def five : List IV := [.int 0, .int 1, .int 1, .int 1, .int 2]
theorem five_mem {x : IV} (e : x ∈ five) : ∃ k : Nat, x = .int k ∧ k ≤ 2 := by
  unfold five at e
  simp at e
  rcases e with rfl | rfl | rfl
  · exact ⟨0, rfl, by omega⟩
  · exact ⟨1, rfl, by omega⟩
  · exact ⟨2, rfl, by omega⟩
theorem app_rows {q : List Row} {r : Row} : (q ++ [r]).map Row.v = q.map Row.v ++ [r.v] := by simp
/-- one turn of the block's loop -/
theorem block_turn {h : IH} {u nq nf c i : Nat} {names : List Str} {q : List Row} {name : Str} {o1 o2 o7 o8 : Option IV} (U : Ur h u (c + 10)) (hl : names.length ≤ 10) (hi : names[i]? = some name) (eq : h[nq]? = some (.lst (names.map .str))) (ef : h[nf]? = some (.lst (q.map Row.v))) (hq : q.map Row.name = names.take i) (hg : Goods q) (hn : names.Nodup) (huq : u ≠ nq) (huf : u ≠ nf) :
    Ok ((SeqS (AsgS (CallF 3 F__law_pick (Cons (Var 0) (Cons (Sl (Var 3) NoO (SoO (Var 5))) (Cons (CallF 2 F__law_of (Cons (Var 0) (Cons (Lst (Cons (Cst (.int 0)) (Cons (Cst (.int 1)) (Cons (Cst (.int 1)) (Cons (Cst (.int 1)) (Cons (Cst (.int 2)) Nil)))))) Nil))) Nil)))) (TgN 7))
    (DropS (Mth chkL appM (Var 4) (Cons (Tup (Cons (Var 6) (Cons (CallB tupleM (Cons (CallB sortM (Cons (Var 7) Nil)) Nil)) (Cons (Bin ltI (CallF 2 F__law_take (Cons (Var 0) (Cons (Cst (.int 5)) Nil))) (Cst (.int 3))) Nil)))) Nil))))
      [some (.ref u), o1, o2, some (.ref nq), some (.ref nf), some (.int i), some (.str name), o7, o8]) h fun f h' => ∃ (o : IV) (r : Row), f = .nx [some (.ref u), o1, o2, some (.ref nq), some (.ref nf), some (.int i), some (.str name), some o, o8] ∧ r.name = name ∧ Goods (q ++ [r]) ∧
        h'[nf]? = some (.lst ((q ++ [r]).map Row.v)) ∧ Ur h' u c ∧ ∀ n p, n ≠ u → n ≠ nf → h[n]? = some p → h'[n]? = some p := by
  have hil : i < names.length := (List.getElem?_eq_some_iff.mp hi).1
  have ul := U.lt
  have hfl := (List.getElem?_eq_some_iff.mp ef).1
  have c1 : cutI (names.map .str) none (some (i : Int)) = (names.take i).map IV.str := by rw [cutI_to, List.map_take]
  have s1 := sl_lst (lo := none) (hi := some (i : Int)) eq (by rw [c1]; simp; omega)
  rw [c1] at s1
  have hu0 : u ≠ (h ++ [Iv.IO.lst ((names.take i).map IV.str)]).length := by rw [List.length_append]; omega
  obtain ⟨x, hD, qD, mD, UD, GD, LD⟩ := of_ok (h := (h ++ [.lst ((names.take i).map IV.str)]) ++ [.lst five]) (u := u) (l := (h ++ [Iv.IO.lst ((names.take i).map IV.str)]).length) (c := c + 9) (xs := five) hu0 U.push.push push_len (by decide) (by show 5 < 1000000; omega)
  obtain ⟨k, rfl, hk⟩ := five_mem mD
  have qD' : F__law_of [.ref u, .ref (h ++ [Iv.IO.lst ((names.take i).map IV.str)]).length] ((h ++ [Iv.IO.lst ((names.take i).map IV.str)]) ++ [.lst [.int 0, .int 1, .int 1, .int 1, .int 2]]) = some (.ok (.int k), hD) := qD
  have eD : hD[h.length]? = some (.lst ((names.take i).map .str)) := GD _ _ (by omega) (by rw [List.getElem?_append_left (by simp)]; exact push_len)
  obtain ⟨v, hB, qB, m, ys, rest, rfl, b1, b2, b3, b4, UB, GB⟩ := pick_ok (h := hD) (u := u) (l := h.length) (c := c + 1) (k := k) (xs := (names.take i).map IV.str) (by omega) (UD.le (by omega)) eD (by simp; omega)
  obtain ⟨zs, rfl, nz, mz⟩ := picked b3 (List.Nodup.sublist (List.take_sublist i names) hn)
  have zl : zs.length ≤ 2 := by rw [List.length_map] at b4; omega
  have qw := sort_strs2 (h := hB) (n := m) (ss := zs) b2 (by omega)
  have tw := tuple_lst (h := hB ++ [.lst ((zs.mergeSort leS).map IV.str)]) (n := hB.length) (xs := (zs.mergeSort leS).map IV.str) push_len
  obtain ⟨x, hG, qG, r, rfl, r0, r1, UG, GG, LG⟩ := take_ok (h := hB ++ [.lst ((zs.mergeSort leS).map IV.str)]) (u := u) (c := c) (n := 5) UB.push (by omega) (by omega)
  let row : Row := ⟨name, zs.mergeSort leS, decide (r < 3)⟩
  have GB0 : GrX u h hB := (((GrX.pushx (GrX.pushx (GrX.refl u h))).trans GD)).trans GB
  have G0 : GrX u h hG := (GrX.pushx GB0).trans GG
  have efG := G0 nf _ (Ne.symm huf) ef
  have qlen : q.length ≤ 10 := by
    have := congrArg List.length hq
    rw [List.length_map, List.length_take] at this; omega
  have hap := app_lst (y := row.v) efG (by rw [List.length_map]; omega)
  refine ⟨_, hG.set nf (.lst (q.map Row.v ++ [row.v])), (seq_nx (asg_ok (x := .ref m) (h1 := hB) ?_)).trans (drop_ok (x := .non) ?_), .ref m, row, rfl, rfl, hg.snoc ?_ ?_, ?_, UG.set huf, ?_⟩
  · refine callF_ok (xs := [.ref u, .ref h.length, .int k]) (h1 := hD) ?_ rfl qB
    refine cons_ok (x := .ref u) rfl (cons_ok (x := .ref h.length) (sl_to (x := .ref nq) (j := i) rfl rfl s1) (one_ok (callF_ok (two_ok (x := .ref u) (y := .ref (h ++ [Iv.IO.lst ((names.take i).map IV.str)]).length) rfl ?_) rfl qD')))
    exact lst_ok2 (xs := five) rfl (mkL_ok (by show 5 ≤ 100000; omega))
  · refine mth_ok (x := .ref nf) (h1 := hB) (h2 := hB) (h3 := hG) (xs := [row.v]) rfl ?_ ?_ hap
    · exact chk_lst (xs := q.map Row.v) (GB0 nf _ (Ne.symm huf) ef)
    · refine one_ok (tup_ok (xs := [.str name, .tup ((zs.mergeSort leS).map .str), .bl (decide (r < 3))]) ?_ (by show 3 ≤ 100000; omega))
      refine cons_ok (x := .str name) rfl (cons_ok (callB_ok (one_ok (callB_ok (one_ok (x := .ref m) rfl) qw)) tw) (one_ok (bin_ok (x := .int r) (y := .int 3) (callF_ok (two_ok (x := .ref u) (y := .int 5) rfl rfl) rfl qG) rfl lt_int)))
  · exact (List.mergeSort_perm zs leS).symm.nodup nz
  · intro s hs
    rw [hq]
    exact mz s ((List.mergeSort_perm zs leS).mem_iff.mp hs)
  · rw [List.getElem?_set_self (List.getElem?_eq_some_iff.mp efG).1, app_rows]
  · intro n p h1 h2 e
    rw [List.getElem?_set_ne (Ne.symm h2)]
    exact G0 n p h1 e
end K28
set_option autoImplicit true
set_option Elab.async false
set_option linter.all false
set_option maxRecDepth 100000
set_option maxHeartbeats 600000
namespace K28
open PySem L2 Iv
/-- a drawn block -/
structure Blk (v : IV) (many : Nat) where
  q : List Row
  rows : List Row
  live : List Str
  eq : v = .tup [.tup (rows.map Row.v), .tup (live.map .str)]
  perm : rows.Perm q
  good : Goods q
  nodup : (q.map Row.name).Nodup
  pool : ∀ s ∈ q.map Row.name, s ∈ pool
  asc : Asc (rows.map Row.name)
  len : q.length = many
  lens : live.length ≤ many
  lv : ∀ s ∈ live, s ∈ q.map Row.name
def poolL : Iv.Env → M IV := Lst (Cons (Cst (.str "a")) (Cons (Cst (.str "b")) (Cons (Cst (.str "c")) (Cons (Cst (.str "d")) (Cons (Cst (.str "ab")) (Cons (Cst (.str "load")) (Cons (Cst (.str "use")) (Cons (Cst (.str "zzzzzzzz")) (Cons (Cst (.str "x")) (Cons (Cst (.str "y")) Nil))))))))))
theorem pool_ok {env : Iv.Env} {h : IH} : poolL env h = some (.ok (.ref h.length), h ++ [.lst (pool.map .str)]) := lst_ok2 (xs := pool.map .str) rfl (mkL_ok (by show 10 ≤ 100000; omega))
theorem block_ok {h : IH} {u c many : Nat} (U : Ur h u (c + 12 * many + 12)) (hm : many ≤ 8) : Ok (F__law_block [.ref u, .int many]) h fun v h' => Nonempty (Blk v many) ∧ Ur h' u c ∧ GrX u h h' := by
  have ul := U.lt
  obtain ⟨v, h1, q1, nq, ys, rest, rfl, a1, a2, a3, a4, U1, G1⟩ := pick_ok (h := h ++ [.lst (pool.map .str)]) (u := u) (l := h.length) (c := c + 11 * many) (k := many) (xs := pool.map .str) (by omega) (U.push.le (by omega)) push_len (by show 10 ≤ 1000; omega)
  obtain ⟨names, rfl, nn, np⟩ := picked a3 pool_nd
  have nl : names.length = many := by
    rw [List.length_map] at a4
    have : (pool.map IV.str).length = 10 := rfl
    omega
  rw [List.length_append] at a1
  have u1 := U1.lt
  have nql := (List.getElem?_eq_some_iff.mp a2).1
  have hq0 : u ≠ nq := by omega
  have G1' : GrX u h h1 := (GrX.pushx (GrX.refl u h)).trans G1
  have L1 := G1'.le u1
  let env0 : Iv.Env := [some (.ref u), some (.int many), some (.ref h.length), some (.ref nq), some (.ref h1.length), none, none, none, none]
  obtain ⟨f, h2, q2, env2, rfl, o5, o6, o7, q, rfl, b1, b2, b3, b4, U2, G2⟩ := forS_ok (src := IterA enumM (Cons (Var 3) Nil)) (s := SEnum (SLive nq)) (t := TgUn 2 (TgCons (TgN 5) (TgCons (TgN 6) TgNil)))
    (b := (SeqS (AsgS (CallF 3 F__law_pick (Cons (Var 0) (Cons (Sl (Var 3) NoO (SoO (Var 5))) (Cons (CallF 2 F__law_of (Cons (Var 0) (Cons (Lst (Cons (Cst (.int 0)) (Cons (Cst (.int 1)) (Cons (Cst (.int 1)) (Cons (Cst (.int 1)) (Cons (Cst (.int 2)) Nil)))))) Nil))) Nil)))) (TgN 7))
    (DropS (Mth chkL appM (Var 4) (Cons (Tup (Cons (Var 6) (Cons (CallB tupleM (Cons (CallB sortM (Cons (Var 7) Nil)) Nil)) (Cons (Bin ltI (CallF 2 F__law_take (Cons (Var 0) (Cons (Cst (.int 5)) Nil))) (Cst (.int 3))) Nil)))) Nil)))))
    (n := many) (k := LN) (env := env0) (h := h1 ++ [.lst []]) (h1 := h1 ++ [.lst []])
    (fun i env h' => ∃ o5 o6 o7 q, env = [some (.ref u), some (.int many), some (.ref h.length), some (.ref nq), some (.ref h1.length), o5, o6, o7, none] ∧ q.map Row.name = names.take i ∧ Goods q ∧ h'[nq]? = some (.lst (names.map .str)) ∧ h'[h1.length]? = some (.lst (q.map Row.v)) ∧ Ur h' u (c + many + 10 * (many - i)) ∧ GrX u h h')
    (iterA_ok (one_ok (x := .ref nq) rfl) (enum_lst (xs := names.map .str) (by rw [List.getElem?_append_left nql]; exact a2)))
    (LN_ok (by omega))
    ⟨none, none, none, [], rfl, rfl, (by intro i r e; simp at e), (by rw [List.getElem?_append_left nql]; exact a2), by simp, U1.push.le (by omega), GrX.pushx G1'⟩
    (by
      rintro i env h' hi ⟨o5, o6, o7, q, rfl, b1, b2, b3, b4, b5, b6⟩
      have hi' : i < names.length := by omega
      have e0 : names[i]? = some names[i] := List.getElem?_eq_getElem hi'
      obtain ⟨f, h3, q3, o, r, rfl, r1, r2, r3, r4, r5⟩ := block_turn (c := c + many + 10 * (many - (i + 1))) (o1 := some (.int many)) (o2 := some (.ref h.length)) (o7 := o7) (o8 := none) (b5.le (by omega)) (by omega) e0 b3 b4 b1 b2 nn hq0 (by omega : u ≠ h1.length)
      refine ⟨.tup [.int i, .str names[i]], ?_, _, h3, (bind_ok (x := [some (.ref u), some (.int many), some (.ref h.length), some (.ref nq), some (.ref h1.length), some (.int i), some (.str names[i]), o7, none]) (h1 := h') rfl).trans q3, _, .inl rfl, _, _, _, q ++ [r], rfl, ?_, r2, ?_, r3, r4, ?_⟩
      · rw [senum_lst b3, List.getElem?_map, e0]; rfl
      · rw [List.map_append, b1, List.take_succ, e0, List.map_cons, r1]; rfl
      · exact r5 nq _ (Ne.symm hq0) (by omega) b3
      · intro n p z e
        have := (List.getElem?_eq_some_iff.mp e).1
        exact r5 n p z (by omega) (b6 n p z e))
    (by
      rintro env h' ⟨o5, o6, o7, q, rfl, b1, b2, b3, b4, b5, b6⟩
      rw [senum_lst b3, List.getElem?_map, List.getElem?_eq_none (by omega)]; rfl)
  rw [List.take_of_length_le (by omega)] at b1
  have ql : q.length = many := by have := congrArg List.length b1; rw [List.length_map] at this; omega
  have hf0 : u ≠ h1.length := by omega
  -- the live ones
  obtain ⟨v, h5, q5, rfl, acc, ls, rfl, c1, cm, c2, c3, c4, c5, c6⟩ := lcE_ok (k := LN) (n := many) (src := Iter (Var 3)) (s := SLive nq) (h := h2) (h1 := h2) (p := .n 6) (vs := [6])
    (c := Tst (Bin eqI (CallF 2 F__law_take (Cons (Var 0) (Cons (Cst (.int 4)) Nil))) (Cst (.int 0)))) (el := Var 6) (env := [some (.ref u), some (.int many), some (.ref h.length), some (.ref nq), some (.ref h1.length), o5, o6, o7, none])
    (fun i acc h' => ∃ ls : List Str, acc = ls.map .str ∧ ls.length ≤ i ∧ (∀ s ∈ ls, s ∈ names) ∧ h'[nq]? = some (.lst (names.map .str)) ∧ h'[h2.length]? = some (.lst acc) ∧ h'[h1.length]? = some (.lst (q.map Row.v)) ∧ Ur h' u (c + (many - i)) ∧ GrX u h h')
    (iter_ok (x := .ref nq) rfl (src_lst b3)) (LN_ok (by omega))
    ⟨[], rfl, by simp, by simp, (by rw [List.getElem?_append_left (List.getElem?_eq_some_iff.mp b3).1]; exact b3), push_len, (by rw [List.getElem?_append_left (List.getElem?_eq_some_iff.mp b4).1]; exact b4), U2.push.le (by omega), GrX.pushx G2⟩
    (by
      rintro i acc h' hi ⟨ls, rfl, c1, cm, c2, c3, c4, c5, c6⟩
      have hiz : i < names.length := by omega
      have u2 := U2.lt
      obtain ⟨x, h6, q6, r, rfl, r0, r1, U6, G6, L6⟩ := take_ok (c := c + (many - (i + 1))) (n := 4) (c5.le (by omega)) (by omega) (by omega)
      have d2 := G6 nq _ (by omega) c2
      have d3 := G6 h2.length _ (by omega) c3
      have d4 := G6 h1.length _ (by omega) c4
      have n1 : nq < h2.length := (List.getElem?_eq_some_iff.mp b3).1
      have n2 : h1.length < h2.length := (List.getElem?_eq_some_iff.mp b4).1
      refine ⟨.str names[i], _, by rw [slive c2, List.getElem?_map, List.getElem?_eq_getElem hiz]; rfl, rfl, decide (r = 0), h6, tst_ok (bin_ok (x := .int r) (y := .int 0) (callF_ok (two_ok (x := .ref u) (y := .int 4) rfl rfl) rfl q6) rfl eqI_int), ?_⟩
      show if decide (r = 0) = true then _ else _
      by_cases hr : r = 0
      · rw [if_pos (decide_eq_true hr)]
        refine ⟨.str names[i], h6, rfl, d3, by rw [List.length_map]; omega, ls ++ [names[i]], by simp, by simp; omega, fun s hs => (List.mem_append.mp hs).elim (cm s) (fun q => by rw [List.mem_singleton.mp q]; exact List.getElem_mem hiz), ?_, ?_, ?_, U6.set (by omega), ?_⟩
        · rw [List.getElem?_set_ne (by omega)]; exact d2
        · rw [List.getElem?_set_self (List.getElem?_eq_some_iff.mp d3).1]
        · rw [List.getElem?_set_ne (by omega)]; exact d4
        · exact (c6.trans G6).setx (by have := G2.le u2; omega)
      · rw [if_neg (by simp [hr])]
        exact ⟨ls, rfl, by omega, cm, d2, d3, d4, U6, c6.trans G6⟩)
    (by
      rintro acc h' ⟨ls, rfl, c1, cm, c2, c3, c4, c5⟩
      rw [slive c2, List.getElem?_eq_none (by rw [List.length_map]; omega)])
  have qs := sort_strs2 c3 (by omega)
  have tl := tuple_lst (h := h5 ++ [.lst ((ls.mergeSort leS).map .str)]) (n := h5.length) (xs := (ls.mergeSort leS).map .str) push_len
  have c4' : (h5 ++ [Iv.IO.lst ((ls.mergeSort leS).map IV.str)])[h1.length]? = some (.lst (q.map Row.v)) := by
    rw [List.getElem?_append_left (List.getElem?_eq_some_iff.mp c4).1]; exact c4
  have qr := sort_rows c4' (by omega)
  have tr := tuple_lst (h := (h5 ++ [Iv.IO.lst ((ls.mergeSort leS).map IV.str)]) ++ [.lst ((q.mergeSort leR).map Row.v)]) (n := (h5 ++ [Iv.IO.lst ((ls.mergeSort leS).map IV.str)]).length) (xs := (q.mergeSort leR).map Row.v) push_len
  have pr := List.mergeSort_perm q leR
  refine ⟨.tup [.tup ((q.mergeSort leR).map Row.v), .tup ((ls.mergeSort leS).map .str)], _, fn_rt ((seq_nx (env2 := [some (.ref u), some (.int many), some (.ref h.length), none, none, none, none, none, none]) (asg_ok (pool_ok (h := h)))).trans ((seq_nx (env2 := env0) (h1 := h1 ++ [.lst []]) ?_).trans ((seq_nx q2).trans ((seq_nx (asg_ok (callB_ok (one_ok (callB_ok (one_ok q5) qs)) tl))).trans (ret_ok (tup_ok (two_ok (callB_ok (one_ok (callB_ok (one_ok (x := .ref h1.length) rfl) qr)) tr) rfl) (by show 2 ≤ 100000; omega))))))), ⟨⟨q, q.mergeSort leR, ls.mergeSort leS, rfl, pr, b2, by rw [b1]; exact nn, ?_, asc_rows q, ql, ?_, fun s hs => by rw [b1]; exact cm s ((List.mergeSort_perm ls leS).mem_iff.mp hs)⟩⟩, (c5.push.push).le (by omega), GrX.pushx (GrX.pushx c6)⟩
  · unfold ParS
    refine (bind_ok (two_ok (x := .ref nq) (y := .ref h1.length) (h1 := h1) (h2 := h1 ++ [.lst []]) (callF_ok (cons_ok (x := .ref u) rfl (two_ok (x := .ref h.length) (y := .int many) rfl rfl)) rfl q1) (lst_ok2 (xs := []) rfl (mkL_ok (by show 0 ≤ 100000; omega))))).trans rfl
  · rw [b1]; exact np
  · rw [(List.mergeSort_perm ls leS).length_eq]; exact c1
end K28
set_option autoImplicit true
set_option Elab.async false
set_option linter.all false
set_option maxRecDepth 100000
set_option maxHeartbeats 600000
namespace K28
open PySem L2 Iv
theorem inV_strs (s : Str) : ∀ p : List Str, inV (toV (.str s)) ((p.map IV.str).map toV) = decide (s ∈ p)
  | [] => rfl
  | a :: p => by
    show (eqV (V.str a) (V.str s) || inV (toV (.str s)) ((p.map IV.str).map toV)) = _
    rw [inV_strs s p]
    show ((a == s) || decide (s ∈ p)) = _
    rw [Bool.eq_iff_iff]
    simp
    constructor
    · rintro (rfl | h)
      · exact .inl rfl
      · exact .inr h
    · rintro (rfl | h)
      · exact .inl rfl
      · exact .inr h
theorem nin_tup {s : Str} {p : List Str} {h : IH} : inM true (.str s) (.tup (p.map .str)) h = some (.ok (.bl (!decide (s ∈ p))), h) := by
  have f : (p.map IV.str).all flatI = true := by
    rw [List.all_eq_true]
    intro x hx
    obtain ⟨a, _, rfl⟩ := List.mem_map.mp hx
    rfl
  show (if flatI (.str s) = true ∧ (p.map IV.str).all flatI = true then some (Out.ok (IV.bl (if true = true then !inV (toV (.str s)) ((p.map IV.str).map toV) else inV (toV (.str s)) ((p.map IV.str).map toV))), h) else none) = _
  rw [if_pos ⟨rfl, f⟩, if_pos rfl, inV_strs]
theorem in_tup {s : Str} {p : List Str} {h : IH} : inM false (.str s) (.tup (p.map .str)) h = some (.ok (.bl (decide (s ∈ p))), h) := by
  have f : (p.map IV.str).all flatI = true := by
    rw [List.all_eq_true]
    intro x hx
    obtain ⟨a, _, rfl⟩ := List.mem_map.mp hx
    rfl
  show (if flatI (.str s) = true ∧ (p.map IV.str).all flatI = true then some (Out.ok (IV.bl (if false = true then !inV (toV (.str s)) ((p.map IV.str).map toV) else inV (toV (.str s)) ((p.map IV.str).map toV))), h) else none) = _
  rw [if_pos ⟨rfl, f⟩, if_neg (by decide), inV_strs]
theorem canAll : ∀ ss : List Str, (∀ s ∈ ss, PyData.strOk s = true) → PyData.canLayAll0 (ss.map PyData.str) = true
  | [], _ => by simp [PyData.canLayAll0]
  | s :: ss, o => by
    have := canAll ss fun x hx => o x (by simp [hx])
    simp [PyData.canLayAll0, PyData.canLay0, this, o s (by simp)]
theorem shaped_strs {ss : List Str} (o : ∀ s ∈ ss, PyData.strOk s = true) : SeqAt.shaped (.list (ss.map PyData.str)) = true := by
  unfold SeqAt.shaped
  simp [PyData.canLay0, canAll ss o, PyData.depth, depth_strs]
theorem eqv_nil (ss : List Str) : PyData.eqv (.list (ss.map PyData.str)) (.list []) = ss.isEmpty := by
  cases ss <;> simp [PyData.eqv, PyData.eqvAll]
theorem eqI_strs_nil {h : IH} {a b : Nat} {ss : List Str} (o : ∀ s ∈ ss, PyData.strOk s = true) (e : h[a]? = some (.lst (ss.map .str))) (e2 : h[b]? = some (.lst [])) : eqI (.ref a) (.ref b) h = some (.ok (.bl ss.isEmpty), h) := by
  have q1 : encH h 66 (.ref a) = some (.list (ss.map .str)) := by
    show (match h[a]? with
    | some (.lst xs) => (xs.mapM (encH h 65)).map PyData.list
    | _ => none) = _
    simp only [e]
    rw [enc_strs 64]; rfl
  have q2 : encH h 66 (.ref b) = some (.list []) := by
    show (match h[b]? with
    | some (.lst xs) => (xs.mapM (encH h 65)).map PyData.list
    | _ => none) = _
    simp only [e2]; rfl
  show (eqG h (.ref a) (.ref b)).map _ = _
  unfold eqG
  rw [q1, q2]
  simp only
  rw [if_pos ⟨shaped_strs o, shaped_strs (ss := []) (by simp)⟩, eqv_nil]; rfl
theorem neI_strs_nil {h : IH} {a b : Nat} {ss : List Str} (o : ∀ s ∈ ss, PyData.strOk s = true) (e : h[a]? = some (.lst (ss.map .str))) (e2 : h[b]? = some (.lst [])) : neI (.ref a) (.ref b) h = some (.ok (.bl (!ss.isEmpty)), h) := by
  have q1 : encH h 66 (.ref a) = some (.list (ss.map .str)) := by
    show (match h[a]? with
    | some (.lst xs) => (xs.mapM (encH h 65)).map PyData.list
    | _ => none) = _
    simp only [e]
    rw [enc_strs 64]; rfl
  have q2 : encH h 66 (.ref b) = some (.list []) := by
    show (match h[b]? with
    | some (.lst xs) => (xs.mapM (encH h 65)).map PyData.list
    | _ => none) = _
    simp only [e2]; rfl
  show (eqG h (.ref a) (.ref b)).map _ = _
  unfold eqG
  rw [q1, q2]
  simp only
  rw [if_pos ⟨shaped_strs o, shaped_strs (ss := []) (by simp)⟩, eqv_nil]; rfl

/-- a comprehension whose parts only make new objects -/
theorem lcE_gr {src : Iv.Env → M Src} {s : Src} {p : Pat} {c : Iv.Env → M Bool} {el : Iv.Env → M IV} {vs : List Nat} {env : Iv.Env} {k : Nat} {h h1 : IH} (xs : List IV) (f : IV → Bool) (g : IV → IV) (e0 : src env h = some (.ok s, h1)) (hk : xs.length < k) (hl : xs.length < 100000)
    (hs : ∀ h' i, Gr h1 h' → s h' i = some xs[i]?)
    (ht : ∀ x ∈ xs, ∃ env2, p.set x (wipeE env vs) = some env2 ∧ ∀ h', Gr h1 h' → Ok (c env2) h' fun b h2 => b = f x ∧ Gr h' h2 ∧ (b = true → Ok (el env2) h2 fun y h3 => y = g x ∧ Gr h2 h3)) :
    Ok (LcE k src p c el vs env) h fun v h' => v = .ref h1.length ∧ h'[h1.length]? = some (.lst ((xs.filter f).map g)) ∧ Gr h1 h' := by
  obtain ⟨v, h2, q2, rfl, acc, rfl, b2, b3⟩ := lcE_ok (k := k) (n := xs.length) (src := src) (s := s) (h := h) (h1 := h1) (p := p) (vs := vs) (c := c) (el := el) (env := env)
    (fun i acc h' => acc = ((xs.take i).filter f).map g ∧ h'[h1.length]? = some (.lst acc) ∧ Gr h1 h')
    e0 hk ⟨rfl, push_len, Gr.push _ _⟩
    (by
      rintro i acc h' hi ⟨rfl, b2, b3⟩
      obtain ⟨env2, e1, e2⟩ := ht xs[i] (List.getElem_mem hi)
      obtain ⟨b, h3, q3, eb, g3, r3⟩ := e2 h' b3
      have step : (xs.take (i + 1)).filter f = (xs.take i).filter f ++ (if f xs[i] = true then [xs[i]] else []) := by
        rw [List.take_succ, List.getElem?_eq_getElem hi, List.filter_append]
        show _ ++ List.filter f [xs[i]] = _
        congr 1
        rw [List.filter_cons, List.filter_nil]
      refine ⟨xs[i], env2, by rw [hs h' i b3, List.getElem?_eq_getElem hi], e1, b, h3, q3, ?_⟩
      have b2' := g3 _ _ b2
      show if b = true then _ else _
      by_cases fb : f xs[i] = true
      · rw [eb, if_pos fb]
        obtain ⟨y, h4, q4, rfl, g4⟩ := r3 (eb.trans fb)
        have b4 := g4 _ _ b2'
        refine ⟨_, h4, q4, b4, ?_, ?_, ?_, gr_setd ((b3.trans g3).trans g4)⟩
        · rw [List.length_map]
          have := List.length_filter_le f (xs.take i)
          rw [List.length_take] at this; omega
        · rw [step, if_pos fb, List.map_append]; rfl
        · rw [List.getElem?_set_self (List.getElem?_eq_some_iff.mp b4).1]
      · rw [eb, if_neg fb]
        refine ⟨?_, b2', b3.trans g3⟩
        rw [step, if_neg fb, List.append_nil])
    (by
      rintro acc h' ⟨rfl, b2, b3⟩
      rw [hs h' _ b3, List.getElem?_eq_none (Nat.le_refl _)])
  rw [List.take_length] at b2
  exact ⟨_, h2, q2, rfl, b2, b3⟩
theorem pool_sok {s : Str} (h : s ∈ pool) : PyData.strOk s = true := by
  have : pool.all PyData.strOk = true := by decide +kernel
  exact List.all_eq_true.mp this s h
theorem inside_ok {h : IH} {rs p : List Str} (ok : ∀ s ∈ rs, PyData.strOk s = true) (hl : rs.length < 100000) : Ok (F__law_inside [.tup (rs.map .str), .tup (p.map .str)]) h fun v h' => v = .bl (rs.all fun s => decide (s ∈ p)) ∧ Gr h h' := by
  have inner : LcE LN (Iter (Var 0)) (.n 2) (Tst (Bin (inM true) (Var 2) (Var 1))) (Var 2) [2] [some (.tup (rs.map .str)), some (.tup (p.map .str)), none] h = some (.ok (.ref h.length), h ++ [.lst ((rs.filter fun s => !decide (s ∈ p)).map .str)]) := by
    refine (lcE_pure (k := LN) (s := SItems (rs.map .str)) (h1 := h) (rs.map .str) (fun x => match x with | .str s => !decide (s ∈ p) | _ => false) (fun x => x) (iter_ok (x := .tup (rs.map .str)) rfl rfl) (LN_ok (by rw [List.length_map]; exact hl)) (by rw [List.length_map]; exact hl) (fun acc i => rfl) ?_).trans ?_
    · intro x hx
      obtain ⟨s, hs, rfl⟩ := List.mem_map.mp hx
      exact ⟨_, rfl, fun acc => ⟨tst_ok (bin_ok (x := .str s) (y := .tup (p.map .str)) rfl rfl nin_tup), fun _ => rfl⟩⟩
    · rw [List.filter_map, List.map_map]
      rfl
  have ee := eqI_strs_nil (h := (h ++ [Iv.IO.lst ((rs.filter fun s => !decide (s ∈ p)).map .str)]) ++ [.lst []]) (a := h.length) (b := (h ++ [Iv.IO.lst ((rs.filter fun s => !decide (s ∈ p)).map IV.str)]).length) (ss := rs.filter fun s => !decide (s ∈ p)) (fun s hs => ok s (List.mem_filter.mp hs).1) (by rw [List.getElem?_append_left (by simp)]; exact push_len) push_len
  have q : (rs.filter fun s => !decide (s ∈ p)).isEmpty = rs.all fun s => decide (s ∈ p) := by
    rw [Bool.eq_iff_iff, List.isEmpty_iff, List.filter_eq_nil_iff, List.all_eq_true]
    simp
  rw [q] at ee
  exact ⟨_, _, fn_rt (ret_ok (bin_ok (x := .ref h.length) (y := .ref (h ++ [Iv.IO.lst ((rs.filter fun s => !decide (s ∈ p)).map IV.str)]).length) inner (lst_ok2 (xs := []) rfl (mkL_ok (by show 0 ≤ 100000; omega))) ee)), rfl, (Gr.push _ _).trans (Gr.push _ _)⟩
/-- an order of rows -/
structure Ord (rows : List Row) (o : List Str) : Prop where
  perm : o.Perm (rows.map Row.name)
  reads : ∀ r ∈ rows, ∀ i : Nat, o[i]? = some r.name → ∀ s ∈ r.reads, s ∈ o.take i
def freeB (o : List Str) (r : Row) : Bool := !decide (r.name ∈ o) && r.reads.all fun s => decide (s ∈ o)
theorem free_ne {q : List Row} {o : List Str} (g : Goods q) (n : (q.map Row.name).Nodup) (l : o.length < q.length) : ∃ r ∈ q, freeB o r = true := by
  have ex : ∃ r ∈ q, r.name ∉ o := by
    apply Classical.byContradiction
    intro c
    have : (q.map Row.name).length ≤ o.length := sub_len n fun x hx => by
      obtain ⟨r, hr, rfl⟩ := List.mem_map.mp hx
      exact Classical.byContradiction fun m => c ⟨r, hr, m⟩
    rw [List.length_map] at this; omega
  have hi : q.findIdx (fun r => decide (r.name ∉ o)) < q.length := by
    rw [List.findIdx_lt_length]
    obtain ⟨r, hr, e⟩ := ex
    exact ⟨r, hr, decide_eq_true e⟩
  have h1 := List.findIdx_getElem (xs := q) (p := fun r => decide (r.name ∉ o)) (w := hi)
  refine ⟨q[q.findIdx fun r => decide (r.name ∉ o)], List.getElem_mem hi, ?_⟩
  unfold freeB
  rw [Bool.and_eq_true]
  refine ⟨by simpa using h1, ?_⟩
  rw [List.all_eq_true]
  intro s hs
  have := (g _ _ (List.getElem?_eq_getElem hi)).2 s hs
  obtain ⟨r, hr, rfl⟩ := List.mem_map.mp this
  obtain ⟨j, hj, e⟩ := List.getElem_of_mem hr
  rw [List.length_take] at hj
  rw [List.getElem_take] at e
  have nj := List.not_of_lt_findIdx (xs := q) (p := fun r => decide (r.name ∉ o)) (i := j) (by omega)
  rw [e] at nj
  simpa using nj
end K28
set_option autoImplicit true
set_option Elab.async false
set_option linter.all false
set_option maxRecDepth 100000
set_option maxHeartbeats 600000
namespace K28
open PySem L2 Iv
theorem sub_len2 {q : List Row} (g : Goods q) {r : Row} (hr : r ∈ q) : r.reads.length ≤ q.length := by
  obtain ⟨i, hi, e⟩ := List.getElem_of_mem hr
  obtain ⟨n1, n2⟩ := g i r (by rw [List.getElem?_eq_getElem hi, e])
  have sub : r.reads.length ≤ ((q.take i).map Row.name).length := sub_len n1 n2
  rw [List.length_map, List.length_take] at sub
  omega
theorem Blk.rd {v : IV} {many : Nat} (B : Blk v many) {r : Row} (hr : r ∈ B.rows) : r.reads.Nodup ∧ r.reads.length ≤ many ∧ ∀ s ∈ r.reads, s ∈ B.rows.map Row.name := by
  have hq := B.perm.mem_iff.mp hr
  obtain ⟨i, hi, e⟩ := List.getElem_of_mem hq
  obtain ⟨n1, n2⟩ := B.good i r (by rw [List.getElem?_eq_getElem hi, e])
  refine ⟨n1, by rw [← B.len]; exact sub_len2 B.good hq, fun s hs => ?_⟩
  have := n2 s hs
  obtain ⟨z, hz, rfl⟩ := List.mem_map.mp this
  exact List.mem_map.mpr ⟨z, B.perm.mem_iff.mpr (List.mem_of_mem_take hz), rfl⟩
theorem Blk.nd {v : IV} {many : Nat} (B : Blk v many) : (B.rows.map Row.name).Nodup := (B.perm.map Row.name).symm.nodup B.nodup
theorem Blk.pl {v : IV} {many : Nat} (B : Blk v many) {s : Str} (h : s ∈ B.rows.map Row.name) : s ∈ K28.pool := B.pool s ((B.perm.map Row.name).mem_iff.mp h)
theorem Blk.ln {v : IV} {many : Nat} (B : Blk v many) : B.rows.length = many := B.perm.length_eq.trans B.len
theorem Blk.sok {v : IV} {many : Nat} (B : Blk v many) {r : Row} (hr : r ∈ B.rows) : ∀ s ∈ r.reads, PyData.strOk s = true := fun s hs => pool_sok (B.pl ((B.rd hr).2.2 s hs))
def rowI (r : IV) (i : Nat) : IV := match r with
  | .tup xs => xs.getD i .non
  | _ => .non
theorem name_inj : ∀ {q : List Row} {a b : Row}, (q.map Row.name).Nodup → a ∈ q → b ∈ q → a.name = b.name → a = b
  | [], a, b, _, h, _, _ => by simp at h
  | r :: q, a, b, n, ha, hb, e => by
    rw [List.map_cons, List.nodup_cons] at n
    rcases List.mem_cons.mp ha with ea | ma
    · rcases List.mem_cons.mp hb with eb | mb
      · rw [ea, eb]
      · exact absurd (List.mem_map.mpr ⟨b, mb, by rw [← e, ea]⟩) n.1
    · rcases List.mem_cons.mp hb with eb | mb
      · exact absurd (List.mem_map.mpr ⟨a, ma, by rw [e, eb]⟩) n.1
      · exact name_inj n.2 ma mb e
theorem ix_eq {v : IV} {xs : List IV} {i : Int} {x : IV} {h : IH} (ev : v = .tup xs) (e : atI xs i = some x) : ixM v (.int i) h = some (.ok x, h) := by subst ev; exact ix_tup e
def strIn (o : List Str) : IV → Bool
  | .str s => decide (s ∈ o)
  | _ => false
def freeI (o : List Str) : IV → Bool
  | .tup [.str n, .tup rs, _] => !decide (n ∈ o) && rs.all (strIn o)
  | _ => false
theorem freeI_v (o : List Str) (r : Row) : freeI o r.v = freeB o r := by
  show (!decide (r.name ∈ o) && (r.reads.map IV.str).all (strIn o)) = _
  rw [List.all_map]; rfl
/-- the free ones -/
theorem free_ok {h : IH} {v : IV} {many : Nat} {o : List Str} {o0 o3 o4 o5 : Option IV} (B : Blk v many) (hm : many ≤ 8) : Ok (LcE LN (Iter (Bin ixM (Var 1) (Cst (.int 0)))) (.n 5) (AndT (Tst (Bin (inM true) (Bin ixM (Var 5) (Cst (.int 0))) (Var 2))) (Tru (CallF 2 F__law_inside (Cons (Bin ixM (Var 5) (Cst (.int 1))) (Cons (Var 2) Nil))))) (Bin ixM (Var 5) (Cst (.int 0))) [5]
      [o0, some v, some (.tup (o.map .str)), o3, o4, o5]) h fun w h' => w = .ref h.length ∧ h'[h.length]? = some (.lst (((B.rows.filter (freeB o)).map Row.name).map .str)) ∧ Gr h h' := by
  have ev := B.eq
  have q := lcE_gr (k := LN) (src := Iter (Bin ixM (Var 1) (Cst (.int 0)))) (s := SItems (B.rows.map Row.v)) (p := .n 5) (c := AndT (Tst (Bin (inM true) (Bin ixM (Var 5) (Cst (.int 0))) (Var 2))) (Tru (CallF 2 F__law_inside (Cons (Bin ixM (Var 5) (Cst (.int 1))) (Cons (Var 2) Nil))))) (el := Bin ixM (Var 5) (Cst (.int 0))) (vs := [5]) (env := [o0, some v, some (.tup (o.map .str)), o3, o4, o5]) (h := h) (h1 := h)
    (B.rows.map Row.v) (freeI o) (fun x => rowI x 0)
    (iter_ok (x := .tup (B.rows.map Row.v)) (bin_ok (x := v) (y := .int 0) rfl rfl (ix_eq ev rfl)) rfl) (LN_ok (by rw [List.length_map, B.ln]; omega)) (by rw [List.length_map, B.ln]; omega) (fun _ _ _ => rfl)
    (by
      intro x hx
      obtain ⟨r, hr, rfl⟩ := List.mem_map.mp hx
      refine ⟨_, rfl, fun h' g => ?_⟩
      have el : ∀ h2, Ok (Bin ixM (Var 5) (Cst (.int 0)) [o0, some v, some (.tup (o.map .str)), o3, o4, some r.v]) h2 fun y h3 => y = rowI r.v 0 ∧ Gr h2 h3 := fun h2 => ⟨_, h2, bin_ok (x := r.v) (y := .int 0) rfl rfl (ix_tup rfl), rfl, Gr.refl _⟩
      have t1 : Tst (Bin (inM true) (Bin ixM (Var 5) (Cst (.int 0))) (Var 2)) [o0, some v, some (.tup (o.map .str)), o3, o4, some r.v] h' = some (.ok (!decide (r.name ∈ o)), h') := tst_ok (bin_ok (x := .str r.name) (y := .tup (o.map .str)) (bin_ok (x := r.v) (y := .int 0) rfl rfl (ix_tup rfl)) rfl nin_tup)
      by_cases c : r.name ∈ o
      · rw [show (!decide (r.name ∈ o)) = false by simp [c]] at t1
        refine ⟨false, h', and_ff t1, ?_, Gr.refl _, fun q => by cases q⟩
        rw [freeI_v]
        unfold freeB
        simp [c]
      · rw [show (!decide (r.name ∈ o)) = true by simp [c]] at t1
        obtain ⟨b, h3, q3, rfl, g3⟩ := inside_ok (h := h') (rs := r.reads) (p := o) (B.sok hr) (by have := (B.rd hr).2.1; omega)
        refine ⟨_, h3, and_tt t1 (tru_bl (callF_ok (two_ok (x := .tup (r.reads.map .str)) (y := .tup (o.map .str)) (bin_ok (x := r.v) (y := .int 1) rfl rfl (ix_tup rfl)) rfl) rfl q3)), ?_, g3, fun _ => el h3⟩
        rw [freeI_v]
        unfold freeB
        simp [c])
  obtain ⟨w, h', q1, rfl, q2, q3⟩ := q
  refine ⟨_, h', q1, rfl, ?_, q3⟩
  rw [q2, List.filter_map, List.map_map, List.map_map]
  have ef : freeI o ∘ Row.v = freeB o := by funext r; exact freeI_v o r
  rw [ef]; rfl
theorem order_ok {h : IH} {u c many : Nat} {v : IV} (U : Ur h u (c + many)) (B : Blk v many) (hm : many ≤ 8) : Ok (F__law_order [.ref u, v]) h fun w h' => (∃ o, w = .tup (o.map .str) ∧ Ord B.rows o) ∧ Ur h' u c ∧ GrX u h h' := by
  have ev := B.eq
  have ql : B.q.length = many := B.len
  obtain ⟨f, h2, q2, env2, rfl, o3, o4, o, rfl, b1, b2, b3, b4, b5, b6⟩ := forS_ok (src := IterA rng1 (Cons (CallB lenM (Cons (Bin ixM (Var 1) (Cst (.int 0))) Nil)) Nil)) (s := SRange 0 many) (t := TgN 3)
    (b := (SeqS (AsgS (LcE LN (Iter (Bin ixM (Var 1) (Cst (.int 0)))) (.n 5) (AndT (Tst (Bin (inM true) (Bin ixM (Var 5) (Cst (.int 0))) (Var 2))) (Tru (CallF 2 F__law_inside (Cons (Bin ixM (Var 5) (Cst (.int 1))) (Cons (Var 2) Nil))))) (Bin ixM (Var 5) (Cst (.int 0))) [5]) (TgN 4))
    (AsgS (Bin addI (Var 2) (Tup (Cons (CallF 2 F__law_of (Cons (Var 0) (Cons (Var 4) Nil))) Nil))) (TgN 2))))
    (n := many) (k := LN) (env := [some (.ref u), some v, some (.tup []), none, none, none]) (h := h) (h1 := h)
    (fun i env h' => ∃ o3 o4 o, env = [some (.ref u), some v, some (.tup (o.map .str)), o3, o4, none] ∧ o.length = i ∧ o.Nodup ∧ (∀ s ∈ o, s ∈ B.rows.map Row.name) ∧ (∀ r ∈ B.rows, ∀ j : Nat, o[j]? = some r.name → ∀ s ∈ r.reads, s ∈ o.take j) ∧ Ur h' u (c + (many - i)) ∧ GrX u h h')
    (iterA_ok (one_ok (x := .int (many : Nat)) (callB_ok (one_ok (bin_ok (x := v) (y := .int 0) (z := some (.ok (.tup (B.rows.map Row.v)), h)) rfl rfl (ix_eq ev rfl))) (by
      have : lenM [.tup (B.rows.map Row.v)] h = some (Out.ok (IV.int ((B.rows.map Row.v).length : Nat)), h) := len_tup
      rw [List.length_map, B.ln] at this; exact this))) (rng1_ok (by omega)))
    (LN_ok (by omega))
    ⟨none, none, [], rfl, rfl, List.nodup_nil, (by simp), (by intro r _ j e; simp at e), U.le (by omega), GrX.refl u h⟩
    (by
      rintro i env h' hi ⟨o3, o4, o, rfl, b1, b2, b3, b4, b5, b6⟩
      obtain ⟨w, h3, q3, rfl, e3, g3⟩ := free_ok (h := h') (o := o) (o0 := some (.ref u)) (o3 := some (.int i)) (o4 := o4) (o5 := none) B hm
      have ul := b5.lt
      obtain ⟨r, hr, fr⟩ := free_ne (o := o) B.good B.nodup (by omega)
      have hrm : r ∈ B.rows.filter (freeB o) := List.mem_filter.mpr ⟨B.perm.mem_iff.mpr hr, fr⟩
      have fl := List.length_filter_le (freeB o) B.rows
      have bl := B.ln
      obtain ⟨x, h4, q4, m4, U4, G4, L4⟩ := of_ok (h := h3) (u := u) (l := h'.length) (c := c + (many - (i + 1))) (by omega) ((b5.gr g3).le (by omega)) e3 (by
        rw [List.length_map, List.length_map]
        exact List.length_pos_of_mem hrm) (by rw [List.length_map, List.length_map]; omega)
      obtain ⟨s, hs, rfl⟩ := List.mem_map.mp m4
      obtain ⟨z, hz, rfl⟩ := List.mem_map.mp hs
      obtain ⟨z1, z2⟩ := List.mem_filter.mp hz
      unfold freeB at z2
      rw [Bool.and_eq_true, List.all_eq_true] at z2
      have z3 : z.name ∉ o := by simpa using z2.1
      refine ⟨_, srange hi, _, h4, (bind_ok (x := [some (.ref u), some v, some (.tup (o.map .str)), some (.int i), o4, none]) (h1 := h') rfl).trans ((seq_nx (asg_ok q3)).trans (asg_ok (x := .tup ((o ++ [z.name]).map .str)) (bin_ok (x := .tup (o.map .str)) (y := .tup [.str z.name]) rfl (tup_ok (one_ok (callF_ok (two_ok (x := .ref u) (y := .ref h'.length) rfl rfl) rfl q4)) (by show 1 ≤ 100000; omega)) ?_))), _, .inl rfl, some (.int i), some (.ref h'.length), o ++ [z.name], rfl, by simp [b1], ?_, ?_, ?_, U4, ?_⟩
      · rw [addI_tup (by rw [List.length_map]; show _ + 1 ≤ 100000; omega), List.map_append]; rfl
      · rw [List.nodup_append]
        exact ⟨b2, by simp, fun a ha b hb => by rw [List.mem_singleton.mp hb]; rintro rfl; exact z3 ha⟩
      · intro s hs
        rcases List.mem_append.mp hs with q | q
        · exact b3 s q
        · rw [List.mem_singleton.mp q]; exact List.mem_map.mpr ⟨z, z1, rfl⟩
      · intro r hr j ej s hs
        rcases Nat.lt_or_ge j o.length with d | d
        · rw [List.getElem?_append_left d] at ej
          rw [List.take_append_of_le_length (by omega)]
          exact b4 r hr j ej s hs
        · have dj : j = o.length := by
            have := (List.getElem?_eq_some_iff.mp ej).1
            rw [List.length_append] at this
            simp at this; omega
          subst dj
          simp at ej
          have : z = r := by
            have nd := B.nd
            exact name_inj nd z1 hr ej
          subst this
          rw [List.take_left]
          simpa using z2.2 s hs
      · have : GrX u h' h4 := fun n p hn e => G4 n p hn (g3 n p e)
        exact b6.trans this)
    (by
      rintro env h' ⟨o3, o4, o, rfl, b1, b2, b3, b4, b5, b6⟩
      exact srange_end)
  refine ⟨.tup (o.map .str), h2, fn_rt ((seq_nx (env2 := [some (.ref u), some v, some (.tup []), none, none, none]) (h1 := h) rfl).trans ((seq_nx q2).trans (ret_ok (x := .tup (o.map .str)) rfl))), ⟨o, rfl, ?_, b4⟩, b5.le (by omega), b6⟩
  refine perm_nodup b2 B.nd fun x => ⟨b3 x, fun hx => ?_⟩
  -- as many, nodup, so all
  have := B.nd
  apply Classical.byContradiction
  intro nx
  have : (x :: o).length ≤ (B.rows.map Row.name).length := sub_len (List.nodup_cons.mpr ⟨nx, b2⟩) fun y hy => by
    rcases List.mem_cons.mp hy with rfl | hy
    · exact hx
    · exact b3 y hy
  rw [List.length_cons, List.length_map, B.ln] at this
  omega
end K28
set_option autoImplicit true
set_option Elab.async false
set_option linter.all false
set_option maxRecDepth 100000
set_option maxHeartbeats 600000
namespace K28
open PySem L2 Iv
theorem blk_pd {v : IV} {many k : Nat} (B : Blk v many) (hm : many < 1000) : Pd (k + 5) v := by
  have rd := fun (r : Row) (hr : r ∈ B.rows) => (B.rd hr).2.1
  have rl := B.ln
  have ll := B.lens
  rw [B.eq]
  have strL : ∀ l : List Str, l.length < 100000 → ∀ j, Pd (j + 2) (.tup (l.map .str)) := fun l hl j => ⟨by rw [List.length_map]; exact hl, fun y hy => by
    obtain ⟨s, _, rfl⟩ := List.mem_map.mp hy; exact rfl⟩
  refine ⟨by show 2 < 100000; omega, fun y hy => ?_⟩
  simp only [List.mem_cons, List.mem_nil_iff, or_false] at hy
  rcases hy with rfl | rfl
  · refine ⟨by rw [List.length_map]; omega, fun y hy => ?_⟩
    obtain ⟨r, hr, rfl⟩ := List.mem_map.mp hy
    refine ⟨by show 3 < 100000; omega, fun y hy => ?_⟩
    simp only [List.mem_cons, List.mem_nil_iff, or_false] at hy
    rcases hy with rfl | rfl | rfl
    · exact rfl
    · exact strL _ (by have := rd r hr; omega) k
    · exact rfl
  · exact strL _ (by omega) (k + 2)
/-- is it read -/
def readB (rows : List Row) (s : Str) : Bool := rows.any fun z => decide (s ∈ z.reads)
/-- is it waited for -/
def awB (rows : List Row) (live : List Str) (r : Row) : Bool := r.slow && (readB rows r.name || decide (r.name ∈ live))
def awL (rows : List Row) (live : List Str) : List Str := (rows.filter (awB rows live)).map Row.name
theorem or_tt {c d : Iv.Env → M Bool} {env : Iv.Env} {h h1 : IH} (e : c env h = some (.ok true, h1)) : OrT c d env h = some (.ok true, h1) := by
  unfold OrT; exact (bind_ok e).trans rfl
def readI (s : Str) : IV → Bool
  | .tup [_, .tup rs, _] => rs.any fun t => match t with | .str t => decide (t = s) | _ => false
  | _ => false
theorem readI_v (s : Str) (r : Row) : readI s r.v = decide (s ∈ r.reads) := by
  show ((r.reads.map IV.str).any _) = _
  rw [List.any_map, Bool.eq_iff_iff, List.any_eq_true, decide_eq_true_iff]
  constructor
  · rintro ⟨t, ht, e⟩
    have : t = s := of_decide_eq_true e
    rwa [← this]
  · intro m; exact ⟨s, m, decide_eq_true rfl⟩
theorem near_ok {h : IH} {rows : List Row} {w : IV} {r : Row} {o1 o3 o4 o5 o6 : Option IV} (hl : rows.length ≤ 8) : LcE LN (Iter (Bin ixM (Var 0) (Cst (.int 0)))) (.n 6) (Tst (Bin (inM false) (Var 2) (Bin ixM (Var 6) (Cst (.int 1))))) (Bin ixM (Var 6) (Cst (.int 0))) [6]
    [some (.tup [.tup (rows.map Row.v), w]), o1, some (.str r.name), o3, o4, o5, o6] h = some (.ok (.ref h.length), h ++ [.lst (((rows.filter fun z => decide (r.name ∈ z.reads)).map Row.name).map .str)]) := by
  refine (lcE_pure (k := LN) (s := SItems (rows.map Row.v)) (h1 := h) (rows.map Row.v) (readI r.name) (fun x => rowI x 0) (iter_ok (x := .tup (rows.map Row.v)) (bin_ok (x := .tup [.tup (rows.map Row.v), w]) (y := .int 0) rfl rfl (ix_tup rfl)) rfl) (LN_ok (by rw [List.length_map]; omega)) (by rw [List.length_map]; omega) (fun acc i => rfl) ?_).trans ?_
  · intro x hx
    obtain ⟨z, hz, rfl⟩ := List.mem_map.mp hx
    refine ⟨_, rfl, fun acc => ⟨?_, fun _ => bin_ok (x := z.v) (y := .int 0) rfl rfl (ix_tup rfl)⟩⟩
    rw [readI_v]
    exact tst_ok (bin_ok (x := .str r.name) (y := .tup (z.reads.map .str)) rfl (bin_ok (x := z.v) (y := .int 1) rfl rfl (ix_tup rfl)) in_tup)
  · rw [List.filter_map, List.map_map, List.map_map]
    have : (readI r.name ∘ Row.v) = fun z => decide (r.name ∈ z.reads) := by funext z; exact readI_v _ z
    rw [this]; rfl
theorem row_un {env : Iv.Env} {h : IH} {r : Row} : TgUn 3 (TgCons (TgN 2) (TgCons (TgN 3) (TgCons (TgN 4) TgNil))) r.v env h = some (.ok (((env.set 2 (some (.str r.name))).set 3 (some (.tup (r.reads.map .str)))).set 4 (some (.bl r.slow))), h) := rfl
end K28
set_option autoImplicit true
set_option Elab.async false
set_option linter.all false
set_option maxRecDepth 100000
set_option maxHeartbeats 600000
namespace K28
open PySem L2 Iv
theorem ix_fdc {h : IH} {n : Nat} {kvs : List (Key × IV)} {y x : IV} {k : Key} (e : h[n]? = some (.fdc kvs)) (e1 : keyI y = some k) (e2 : valI kvs k = some x) : ixM (.ref n) y h = some (.ok x, h) := by
  show (match h[n]? with
    | some (.lst xs) => ixS h xs y
    | some (.dic _) => ixD h n y
    | some (.fdc _) => ixD h n y
    | none => none) = _
  simp only [e]
  unfold ixD
  simp only [e, e1, e2]
theorem src_fdc {h : IH} {n : Nat} {kvs : List (Key × IV)} (e : h[n]? = some (.fdc kvs)) : srcI (.ref n) h = some (.ok (SKeys n), h) := by
  show (match h[n]? with
    | some (.lst _) => some (Out.ok (SLive n), h)
    | some (.fdc _) => some (.ok (SKeys n), h)
    | _ => none) = _
  simp only [e]
def kIV : Key → IV
  | .inl i => .int i
  | .inr s => .str s
theorem skeys {h : IH} {n : Nat} {kvs : List (Key × IV)} {ns : List Str} (e : h[n]? = some (.fdc kvs)) (k : kvs.map (·.1) = ns.map .inr) (i : Nat) : SKeys n h i = some (ns[i]?.map .str) := by
  unfold SKeys
  simp only [e]
  have : keysI kvs = ns.map .str := by
    have e : keysI kvs = (kvs.map (·.1)).map kIV := by
      unfold keysI
      rw [List.map_map]
      apply List.map_congr_left
      rintro ⟨k, v⟩ _
      cases k <;> rfl
    rw [e, k, List.map_map]; rfl
  rw [this, List.getElem?_map]
theorem lock_ok {α : Type} {m : Iv.Env → M α} {env : Iv.Env} {h : IH} {i n : Nat} {kvs : List (Key × IV)} {P : α → IH → Prop} (e0 : env[i]? = some (some (.ref n))) (e1 : h[n]? = some (.dic kvs)) (q : Ok (m env) (h.set n (.fdc kvs)) fun f h2 => h2[n]? = some (.fdc kvs) ∧ P f (h2.set n (.dic kvs))) : Ok (lockM i m env) h P := by
  obtain ⟨f, h2, e, e2, p⟩ := q
  refine ⟨f, h2.set n (.dic kvs), ?_, p⟩
  unfold lockM
  simp only [e0, e1, e, e2]
theorem lock_at {h h2 : IH} {n : Nat} {kvs : List (Key × IV)} (e1 : h[n]? = some (.dic kvs)) (g : Gr (h.set n (.fdc kvs)) h2) : h2[n]? = some (.fdc kvs) := g n _ (List.getElem?_set_self (List.getElem?_eq_some_iff.mp e1).1)
theorem lock_gr {h h2 : IH} {n : Nat} {kvs : List (Key × IV)} (e1 : h[n]? = some (.dic kvs)) (g : Gr (h.set n (.fdc kvs)) h2) : Gr h (h2.set n (.dic kvs)) := fun m p e => by
  by_cases c : m = n
  · subst c
    rw [e1] at e
    rw [List.getElem?_set_self (List.getElem?_eq_some_iff.mp (lock_at e1 g)).1, ← e]
  · rw [List.getElem?_set_ne (Ne.symm c)]
    exact g m p (by rw [List.getElem?_set_ne (Ne.symm c)]; exact e)
/-- dicts by names -/
def kvN {α : Type} (key : α → Str) (val : α → IV) (l : List α) : List (Key × IV) := l.map fun a => (.inr (key a), val a)
theorem kvN_keys {α : Type} {key : α → Str} {val : α → IV} {l : List α} : (kvN key val l).map (·.1) = (l.map key).map .inr := by
  unfold kvN; rw [List.map_map, List.map_map]; rfl
theorem kvN_put {α : Type} {key : α → Str} {val : α → IV} {l : List α} {a : α} (n : key a ∉ l.map key) : putI (kvN key val l) (.inr (key a)) (val a) = kvN key val (l ++ [a]) := by
  unfold putI
  rw [if_neg]
  · unfold kvN; rw [List.map_append]; rfl
  · intro q
    have := any_key.mp q
    rw [kvN_keys] at this
    obtain ⟨s, hs, e⟩ := List.mem_map.mp this
    have : s = key a := Sum.inr.inj e
    exact n (this ▸ hs)
theorem kvN_val {α : Type} {key : α → Str} {val : α → IV} : ∀ {l : List α} {a : α}, (l.map key).Nodup → a ∈ l → valI (kvN key val l) (.inr (key a)) = some (val a)
  | [], a, _, h => by simp at h
  | b :: l, a, n, h => by
    rw [List.map_cons, List.nodup_cons] at n
    unfold valI kvN
    rw [List.map_cons, List.find?_cons]
    by_cases c : key b = key a
    · have e : decide (((Sum.inr (key b) : Key), val b).1 = (.inr (key a) : Key)) = true := decide_eq_true (by show (Sum.inr (key b) : Key) = _; rw [c])
      rw [e]
      rcases List.mem_cons.mp h with rfl | m
      · rfl
      · exact absurd (c ▸ List.mem_map.mpr ⟨a, m, rfl⟩) n.1
    · have e : decide (((Sum.inr (key b) : Key), val b).1 = (.inr (key a) : Key)) = false := decide_eq_false (by
        show ¬ (Sum.inr (key b) : Key) = _
        intro q; exact c (Sum.inr.inj q))
      rw [e]
      rcases List.mem_cons.mp h with rfl | m
      · exact absurd rfl c
      · exact kvN_val n.2 m
/-- a dict by names, of values that are there -/
theorem dcE_names {α : Type} {src : Iv.Env → M Src} {s : Src} {p : Pat} {kx el : Iv.Env → M IV} {vs : List Nat} {env : Iv.Env} {k : Nat} {h h1 : IH} {item : Nat → α → IV} {key : α → Str} {val : α → IV} (l : List α) (e0 : src env h = some (.ok s, h1)) (hk : l.length < k) (hl : l.length < 100000) (nd : (l.map key).Nodup)
    (hs : ∀ kvs i, s (h1 ++ [.dic kvs]) i = some (l[i]?.map (item i)))
    (ht : ∀ (i : Nat) (a : α), l[i]? = some a → ∃ env2, p.set (item i a) (wipeE env vs) = some env2 ∧ ∀ kvs, kx env2 (h1 ++ [.dic kvs]) = some (.ok (.str (key a)), h1 ++ [.dic kvs]) ∧ el env2 (h1 ++ [.dic kvs]) = some (.ok (val a), h1 ++ [.dic kvs])) :
    DcE k src p YesT kx el vs env h = some (.ok (.ref h1.length), h1 ++ [.dic (kvN key val l)]) := by
  obtain ⟨v, h2, q1, rfl, kvs, rfl, rfl⟩ := dcE_ok (k := k) (n := l.length) (src := src) (s := s) (h := h) (h1 := h1) (p := p) (vs := vs) (c := YesT) (kx := kx) (el := el) (env := env)
    (fun i kvs h' => kvs = kvN key val (l.take i) ∧ h' = h1 ++ [.dic kvs])
    e0 hk ⟨rfl, rfl⟩
    (by
      rintro i kvs h' hi ⟨rfl, rfl⟩
      obtain ⟨env2, e1, e2⟩ := ht i l[i] (List.getElem?_eq_getElem hi)
      have := e2 (kvN key val (l.take i))
      refine ⟨_, env2, _, _, .inr (key l[i]), _, _, _, by rw [hs, List.getElem?_eq_getElem hi]; rfl, e1, rfl, this.1, this.2, rfl, push_len, by unfold kvN; rw [List.length_map, List.length_take]; omega, ?_, ?_⟩
      · rw [kvN_put, List.take_succ, List.getElem?_eq_getElem hi]; rfl
        intro m
        obtain ⟨r, hr, e⟩ := List.mem_map.mp m
        obtain ⟨j, hj, e2⟩ := List.getElem_of_mem hr
        rw [List.length_take] at hj
        rw [List.getElem_take] at e2
        have q := List.pairwise_iff_getElem.mp nd j i (by rw [List.length_map]; omega) (by rw [List.length_map]; omega) (by omega)
        exact q (by simp [e2, e])
      · simp)
    (by
      rintro kvs h' ⟨rfl, rfl⟩
      rw [hs, List.getElem?_eq_none (Nat.le_refl _)]; rfl)
  rw [List.take_length] at q1
  exact q1
def rdV (r : Row) : IV := .tup (r.reads.map .str)
theorem reads_ok {h : IH} {rows : List Row} (nd : (rows.map Row.name).Nodup) (hl : rows.length ≤ 8) : F_reads_by_name [.tup (rows.map Row.v)] h = some (.ok (.ref h.length), h ++ [.dic (kvN Row.name rdV rows)]) :=
  fn_rt (ret_ok (dcE_names (item := fun _ r => Row.v r) rows (iter_ok (x := .tup (rows.map Row.v)) rfl rfl) (LN_ok (by omega)) (by omega) nd (fun kvs i => by show some (rows.map Row.v)[i]? = _; rw [List.getElem?_map])
    (fun i r _ => ⟨_, rfl, fun kvs => ⟨bin_ok (x := r.v) (y := .int 0) rfl rfl (ix_tup rfl), bin_ok (x := r.v) (y := .int 1) rfl rfl (ix_tup rfl)⟩⟩)))
/-- the names that pairs give to a name -/
def rdN (done : List (Str × Str)) (s : Str) : List Str := (done.filter fun p => decide (p.1 = s)).map (·.2)
theorem rdN_app {done : List (Str × Str)} {p : Str × Str} {s : Str} : rdN (done ++ [p]) s = rdN done s ++ if p.1 = s then [p.2] else [] := by
  unfold rdN
  rw [List.filter_append, List.map_append]
  by_cases c : p.1 = s
  · rw [if_pos c, List.filter_cons_of_pos (by exact decide_eq_true c)]; rfl
  · rw [if_neg c, List.filter_cons_of_neg (by simpa using c)]; rfl
theorem rdN_len {done : List (Str × Str)} {s : Str} : (rdN done s).length ≤ done.length := by
  unfold rdN
  rw [List.length_map]; exact List.length_filter_le _ _
theorem rdN_mem {done : List (Str × Str)} {s t : Str} : t ∈ rdN done s ↔ (s, t) ∈ done := by
  unfold rdN
  rw [List.mem_map]
  constructor
  · rintro ⟨⟨a, b⟩, h, rfl⟩
    obtain ⟨h1, h2⟩ := List.mem_filter.mp h
    have : a = s := of_decide_eq_true h2
    subst this; exact h1
  · intro h
    exact ⟨(s, t), List.mem_filter.mpr ⟨h, decide_eq_true rfl⟩, rfl⟩
/-- the lists of readers so far -/
structure RdS (hL : IH) (D : Nat) (kvs : List (Key × IV)) (ns : List Str) (done : List (Str × Str)) (h' : IH) : Prop where
  gr : Gr hL h'
  dic : h'[D]? = some (.dic kvs)
  at_ : ∀ (j : Nat) (s : Str), ns[j]? = some s → h'[D + 1 + j]? = some (.lst ((rdN done s).map .str))
theorem RdS.app {hL h' : IH} {D : Nat} {kvs : List (Key × IV)} {ns : List Str} {done : List (Str × Str)} {s t : Str} (S : RdS hL D kvs ns done h') (hD : hL.length ≤ D) (nn : ns.Nodup) (hv : ∀ (j : Nat) (s : Str), ns[j]? = some s → valI kvs (.inr s) = some (.ref (D + 1 + j))) (hs : s ∈ ns) (hl : done.length < 100000) :
    ∃ n L, valI kvs (.inr s) = some (.ref n) ∧ h'[n]? = some (.lst L) ∧ L.length < 100000 ∧ RdS hL D kvs ns (done ++ [(s, t)]) (h'.set n (.lst (L ++ [.str t]))) := by
  obtain ⟨j, hj, e⟩ := List.getElem_of_mem hs
  have ej : ns[j]? = some s := by rw [List.getElem?_eq_getElem hj, e]
  have l1 := S.at_ j s ej
  refine ⟨_, _, hv j s ej, l1, by rw [List.length_map]; have := rdN_len (done := done) (s := s); omega, gr_set S.gr (by omega), ?_, ?_⟩
  · rw [List.getElem?_set_ne (by omega)]; exact S.dic
  · intro j2 s2 e2
    by_cases c : j2 = j
    · subst c
      have : s2 = s := by rw [ej] at e2; exact (Option.some.inj e2).symm
      subst this
      rw [List.getElem?_set_self (List.getElem?_eq_some_iff.mp l1).1, rdN_app, if_pos rfl, List.map_append]; rfl
    · have ne : s ≠ s2 := by
        rintro rfl
        have h2 := (List.getElem?_eq_some_iff.mp e2)
        obtain ⟨h3, h4⟩ := h2
        rcases Nat.lt_trichotomy j2 j with d | d | d
        · exact List.pairwise_iff_getElem.mp nn j2 j h3 hj d (h4.trans e.symm)
        · exact c d
        · exact List.pairwise_iff_getElem.mp nn j j2 hj h3 d (e.trans h4.symm)
      rw [List.getElem?_set_ne (by omega), S.at_ j2 s2 e2, rdN_app, if_neg ne, List.append_nil]
/-- a dict by names, of values that are made on the way -/
theorem dcE_grow {α : Type} {src : Iv.Env → M Src} {s : Src} {p : Pat} {kx el : Iv.Env → M IV} {vs : List Nat} {env : Iv.Env} {k : Nat} {h h1 : IH} {item : Nat → α → IV} {key : α → Str} {val : α → IV} (l : List α) (e0 : src env h = some (.ok s, h1)) (hk : l.length < k) (hl : l.length < 100000) (nd : (l.map key).Nodup)
    (hs : ∀ h' i, Gr h1 h' → s h' i = some (l[i]?.map (item i)))
    (ht : ∀ (i : Nat) (a : α), l[i]? = some a → ∃ env2, p.set (item i a) (wipeE env vs) = some env2 ∧ ∀ h', Gr h1 h' → kx env2 h' = some (.ok (.str (key a)), h') ∧ ∃ h2, el env2 h' = some (.ok (val a), h2) ∧ Gr h' h2) :
    ∃ h2, DcE k src p YesT kx el vs env h = some (.ok (.ref h1.length), h2) ∧ Gr h1 h2 ∧ h2[h1.length]? = some (.dic (kvN key val l)) := by
  obtain ⟨v, h2, q1, rfl, kvs, rfl, b2, b3⟩ := dcE_ok (k := k) (n := l.length) (src := src) (s := s) (h := h) (h1 := h1) (p := p) (vs := vs) (c := YesT) (kx := kx) (el := el) (env := env)
    (fun i kvs h' => kvs = kvN key val (l.take i) ∧ h'[h1.length]? = some (.dic kvs) ∧ Gr h1 h')
    e0 hk ⟨rfl, push_len, Gr.push _ _⟩
    (by
      rintro i kvs h' hi ⟨rfl, b2, b3⟩
      obtain ⟨env2, e1, e2⟩ := ht i l[i] (List.getElem?_eq_getElem hi)
      obtain ⟨t1, h3, t2, t3⟩ := e2 h' b3
      refine ⟨_, env2, _, _, .inr (key l[i]), _, _, _, by rw [hs _ _ b3, List.getElem?_eq_getElem hi]; rfl, e1, rfl, t1, t2, rfl, t3 _ _ b2, by unfold kvN; rw [List.length_map, List.length_take]; omega, ?_, ?_, ?_⟩
      · rw [kvN_put, List.take_succ, List.getElem?_eq_getElem hi]; rfl
        intro m
        obtain ⟨r, hr, e⟩ := List.mem_map.mp m
        obtain ⟨j, hj, e2⟩ := List.getElem_of_mem hr
        rw [List.length_take] at hj
        rw [List.getElem_take] at e2
        have q := List.pairwise_iff_getElem.mp nd j i (by rw [List.length_map]; omega) (by rw [List.length_map]; omega) (by omega)
        exact q (by simp [e2, e])
      · rw [List.getElem?_set_self (List.getElem?_eq_some_iff.mp (t3 _ _ b2)).1]
      · exact gr_setd (b3.trans t3))
    (by
      rintro kvs h' ⟨rfl, b2, b3⟩
      rw [hs _ _ b3, List.getElem?_eq_none (Nat.le_refl _)]; rfl)
  rw [List.take_length] at b2
  exact ⟨h2, q1, b3, b2⟩
end K28
set_option autoImplicit true
set_option Elab.async false
set_option linter.all false
set_option maxRecDepth 100000
set_option maxHeartbeats 600000
namespace K28
open PySem L2 Iv
theorem valI_put {kvs : List (Key × IV)} {k k' : Key} {v : IV} : valI (putI kvs k v) k' = if k' = k then some v else valI kvs k' := val_put kvs k k' v
/-- the dict of empty lists -/
theorem empties_ok {h : IH} {d : Nat} {rows : List Row} (e : h[d]? = some (.dic (kvN Row.name rdV rows))) (nd : (rows.map Row.name).Nodup) (hl : rows.length ≤ 8) {o1 o2 o3 : Option IV} :
    Ok (lockM 0 (AsgS (DcE LN (Iter (Var 0)) (.n 2) YesT (Var 2) (Lst Nil) [2]) (TgN 1)) [some (.ref d), o1, o2, o3]) h fun f h' => f = .nx [some (.ref d), some (.ref h.length), o2, o3] ∧ Gr h h' ∧ ∃ kvs, h'[h.length]? = some (.dic kvs) ∧ (∀ (j : Nat) (s : Str), (rows.map Row.name)[j]? = some s → valI kvs (.inr s) = some (.ref (h.length + 1 + j)) ∧ h'[h.length + 1 + j]? = some (.lst [])) ∧ kvs.map (·.1) = (rows.map Row.name).map .inr := by
  have dl := (List.getElem?_eq_some_iff.mp e).1
  refine lock_ok (kvs := kvN Row.name rdV rows) (n := d) rfl e ?_
  have kk : (kvN Row.name rdV rows).map (·.1) = (rows.map Row.name).map .inr := kvN_keys
  have eL : (h.set d (.fdc (kvN Row.name rdV rows)))[d]? = some (.fdc (kvN Row.name rdV rows)) := List.getElem?_set_self dl
  generalize eg : h.set d (.fdc (kvN Row.name rdV rows)) = hL at *
  have ln : hL.length = h.length := by rw [← eg, List.length_set]
  generalize ens : rows.map Row.name = ns at *
  have nl : ns.length = rows.length := by rw [← ens, List.length_map]
  obtain ⟨v, h2, q2, rfl, kvs, c1, c2, c3, c4, c5⟩ := dcE_ok (k := LN) (n := ns.length) (src := Iter (Var 0)) (s := SKeys d) (h := hL) (h1 := hL) (p := .n 2) (vs := [2]) (c := YesT) (kx := Var 2) (el := Lst Nil) (env := [some (.ref d), o1, o2, o3])
    (fun i kvs h' => kvs.map (·.1) = (ns.take i).map .inr ∧ h'[hL.length]? = some (.dic kvs) ∧ h'.length = hL.length + 1 + i ∧ Gr hL h' ∧ ∀ (j : Nat) (s : Str), j < i → ns[j]? = some s → valI kvs (.inr s) = some (.ref (hL.length + 1 + j)) ∧ h'[hL.length + 1 + j]? = some (.lst []))
    (iter_ok (x := .ref d) rfl (src_fdc eL)) (LN_ok (by omega)) ⟨rfl, push_len, by simp, Gr.push _ _, (by intro j s hj; omega)⟩
    (by
      rintro i kvs h' hi ⟨c1, c2, c3, c4, c5⟩
      have kl : kvs.length = i := by
        have := congrArg List.length c1
        rw [List.length_map, List.length_map, List.length_take] at this; omega
      have hn : ns[i] ∉ ns.take i := by
        intro m
        obtain ⟨j, hj, e2⟩ := List.getElem_of_mem m
        rw [List.length_take] at hj
        rw [List.getElem_take] at e2
        exact List.pairwise_iff_getElem.mp nd j i (by omega) (by omega) (by omega) e2
      have ki : ¬ (.inr ns[i] : Key) ∈ kvs.map (·.1) := by
        rw [c1]
        intro m
        obtain ⟨s, hs, e2⟩ := List.mem_map.mp m
        exact hn (Sum.inr.inj e2 ▸ hs)
      have c2' : (h' ++ [Iv.IO.lst []])[hL.length]? = some (.dic kvs) := by rw [List.getElem?_append_left (by omega)]; exact c2
      refine ⟨.str ns[i], _, .str ns[i], .ref h'.length, .inr ns[i], h', h', h' ++ [.lst []], by rw [skeys (c4 _ _ eL) kk, List.getElem?_eq_getElem hi]; rfl, rfl, rfl, rfl, lst_ok2 (xs := []) rfl (mkL_ok (by show 0 ≤ 100000; omega)), rfl, c2', by omega, ?_, ?_, ?_, ?_, ?_⟩
      · rw [put_out ki, c1, List.take_succ, List.getElem?_eq_getElem hi, List.map_append]; rfl
      · rw [List.getElem?_set_self (by rw [List.length_append]; omega)]
      · rw [List.length_set, List.length_append]; simp; omega
      · exact gr_setd (c4.trans (Gr.push _ _))
      · intro j s hj ej
        rw [valI_put]
        rcases Nat.lt_or_ge j i with d | d
        · have := c5 j s d ej
          have ne : s ≠ ns[i] := by
            rintro rfl
            obtain ⟨h3, h4⟩ := List.getElem?_eq_some_iff.mp ej
            exact List.pairwise_iff_getElem.mp nd j i h3 hi d h4
          rw [if_neg (by intro q; exact ne (Sum.inr.inj q))]
          refine ⟨this.1, ?_⟩
          rw [List.getElem?_set_ne (by omega), List.getElem?_append_left (by omega)]
          exact this.2
        · have ji : j = i := by omega
          subst ji
          have : s = ns[j] := by rw [List.getElem?_eq_getElem hi] at ej; exact (Option.some.inj ej).symm
          rw [this, if_pos rfl, c3]
          refine ⟨rfl, ?_⟩
          rw [List.getElem?_set_ne (by omega), ← c3]
          exact push_len)
    (by
      rintro kvs h' ⟨c1, c2, c3, c4, c5⟩
      rw [skeys (c4 _ _ eL) kk, List.getElem?_eq_none (Nat.le_refl _)]; rfl)
  have e2 : h2[d]? = some (.fdc (kvN Row.name rdV rows)) := c4 _ _ eL
  refine ⟨_, h2, asg_ok q2, e2, by rw [ln]; rfl, lock_gr e (by rw [eg]; exact c4), kvs, ?_, ?_, by rw [c1, List.take_length]⟩
  · rw [List.getElem?_set_ne (by omega), ← ln]; exact c2
  · intro j s ej
    have := c5 j s ((List.getElem?_eq_some_iff.mp ej).1) ej
    rw [← ln]
    refine ⟨this.1, ?_⟩
    rw [List.getElem?_set_ne (by omega)]; exact this.2
def inB : Iv.Env → M Fl := DropS (Mth chkL appM (Bin ixM (Var 1) (Var 3)) (Cons (Var 2) Nil))
def outB : Iv.Env → M Fl := ForS LN (Iter (Bin ixM (Var 0) (Var 2))) (TgN 3) inB
theorem inner_ok {hL h' : IH} {d D : Nat} {kv kvs : List (Key × IV)} {ns rs : List Str} {done : List (Str × Str)} {o3 : Option IV} {name : Str} (S : RdS hL D kvs ns done h') (ed : hL[d]? = some (.fdc kv)) (ev : valI kv (.inr name) = some (.tup (rs.map .str))) (hD : hL.length ≤ D) (nn : ns.Nodup) (hv : ∀ (j : Nat) (s : Str), ns[j]? = some s → valI kvs (.inr s) = some (.ref (D + 1 + j))) (hs : ∀ s ∈ rs, s ∈ ns) (hl : done.length + rs.length < 100000) :
    Ok (outB [some (.ref d), some (.ref D), some (.str name), o3]) h' fun f h2 => (∃ o3, f = .nx [some (.ref d), some (.ref D), some (.str name), o3]) ∧ RdS hL D kvs ns (done ++ rs.map (·, name)) h2 := by
  obtain ⟨f, h2, q2, env2, rfl, o3, rfl, S2⟩ := forS_ok (src := Iter (Bin ixM (Var 0) (Var 2))) (s := SItems (rs.map .str)) (t := TgN 3) (b := inB)
    (n := rs.length) (k := LN) (env := [some (.ref d), some (.ref D), some (.str name), o3]) (h := h') (h1 := h')
    (fun i env h' => ∃ o3, env = [some (.ref d), some (.ref D), some (.str name), o3] ∧ RdS hL D kvs ns (done ++ (rs.take i).map (·, name)) h')
    (iter_ok (x := .tup (rs.map .str)) (bin_ok (x := .ref d) (y := .str name) rfl rfl (ix_fdc (S.gr _ _ ed) rfl ev)) rfl) (LN_ok (by omega)) ⟨o3, rfl, by simpa using S⟩
    (by
      rintro i env h' hi ⟨o3, rfl, S⟩
      obtain ⟨n, L, a1, a2, a3, a4⟩ := S.app (t := name) hD nn hv (hs _ (List.getElem_mem hi)) (by rw [List.length_append, List.length_map, List.length_take]; omega)
      have q : inB [some (.ref d), some (.ref D), some (.str name), some (.str rs[i])] h' = some (.ok (.nx [some (.ref d), some (.ref D), some (.str name), some (.str rs[i])]), h'.set n (.lst (L ++ [.str name]))) :=
        drop_ok (x := .non) (mth_ok (x := .ref n) (bin_ok (x := .ref D) (y := .str rs[i]) rfl rfl (ix_dic S.dic rfl a1)) (chk_lst a2) (one_ok (x := .str name) rfl) (app_lst a2 a3))
      refine ⟨.str rs[i], by show some (rs.map IV.str)[i]? = _; rw [List.getElem?_map, List.getElem?_eq_getElem hi]; rfl, _, _, (bind_ok (x := [some (.ref d), some (.ref D), some (.str name), some (.str rs[i])]) (h1 := h') rfl).trans q, _, .inl rfl, some (.str rs[i]), rfl, ?_⟩
      rw [List.take_succ, List.getElem?_eq_getElem hi, List.map_append, ← List.append_assoc]
      exact a4)
    (by
      rintro env h' ⟨o3, rfl, S⟩
      show some (rs.map IV.str)[rs.length]? = _
      rw [List.getElem?_eq_none (by rw [List.length_map]; omega)])
  rw [List.take_length] at S2
  exact ⟨_, h2, q2, ⟨o3, rfl⟩, S2⟩
/-- who reads whom -/
def rdP (rows : List Row) : List (Str × Str) := (rows.map fun r => r.reads.map (·, r.name)).flatten
theorem rdP_mem {rows : List Row} {s t : Str} : (s, t) ∈ rdP rows ↔ ∃ r ∈ rows, r.name = t ∧ s ∈ r.reads := by
  unfold rdP
  rw [List.mem_flatten]
  constructor
  · rintro ⟨l, hl, m⟩
    obtain ⟨r, hr, rfl⟩ := List.mem_map.mp hl
    obtain ⟨x, hx, e⟩ := List.mem_map.mp m
    injection e with e1 e2
    subst e1; subst e2
    exact ⟨r, hr, rfl, hx⟩
  · rintro ⟨r, hr, rfl, h⟩
    exact ⟨_, List.mem_map.mpr ⟨r, hr, rfl⟩, List.mem_map.mpr ⟨s, h, rfl⟩⟩
theorem rdP_len {rows : List Row} (rd : ∀ r ∈ rows, r.reads.length ≤ 8) : (rdP rows).length ≤ 8 * rows.length := by
  unfold rdP
  induction rows with
  | nil => simp
  | cons r q ih =>
    rw [List.map_cons, List.flatten_cons, List.length_append, List.length_map, List.length_cons]
    have := rd r (List.mem_cons_self ..)
    have := ih fun z hz => rd z (List.mem_cons_of_mem _ hz)
    omega
theorem readers_ok {h : IH} {d : Nat} {rows : List Row} (e : h[d]? = some (.dic (kvN Row.name rdV rows))) (nd : (rows.map Row.name).Nodup) (hl : rows.length ≤ 8) (rd : ∀ r ∈ rows, r.reads.length ≤ 8 ∧ ∀ s ∈ r.reads, s ∈ rows.map Row.name) :
    Ok (F_readers_by_name [.ref d]) h fun v h' => Gr h h' ∧ ∃ D kvs, v = .ref D ∧ h'[D]? = some (.dic kvs) ∧ kvs.map (·.1) = (rows.map Row.name).map .inr ∧ ∀ r ∈ rows, ∃ n L, valI kvs (.inr r.name) = some (.ref n) ∧ h'[n]? = some (.lst L) ∧ L.isEmpty = !readB rows r.name ∧ L = (rdN (rdP rows) r.name).map .str := by
  obtain ⟨f, h1, q1, rfl, g1, kvs, k1, k2, k0⟩ := empties_ok (o1 := none) (o2 := none) (o3 := none) e nd hl
  have e1 := g1 _ _ e
  have dl := (List.getElem?_eq_some_iff.mp e).1
  have Dl := (List.getElem?_eq_some_iff.mp k1).1
  have loop : Ok (lockM 0 (ForS LN (Iter (Var 0)) (TgN 2) outB) [some (.ref d), some (.ref h.length), none, none]) h1 fun f h2 => (∃ o2 o3, f = .nx [some (.ref d), some (.ref h.length), o2, o3]) ∧ Gr h h2 ∧ h2[h.length]? = some (.dic kvs) ∧ ∀ r ∈ rows, ∃ n L, valI kvs (.inr r.name) = some (.ref n) ∧ h2[n]? = some (.lst L) ∧ L.isEmpty = !readB rows r.name ∧ L = (rdN (rdP rows) r.name).map .str := by
    refine lock_ok (kvs := kvN Row.name rdV rows) (n := d) rfl e1 ?_
    have eL : (h1.set d (.fdc (kvN Row.name rdV rows)))[d]? = some (.fdc (kvN Row.name rdV rows)) := List.getElem?_set_self (List.getElem?_eq_some_iff.mp e1).1
    have kk : (kvN Row.name rdV rows).map (·.1) = (rows.map Row.name).map .inr := kvN_keys
    -- what stands below the new dict
    have eB : (h.set d (.fdc (kvN Row.name rdV rows)))[d]? = some (.fdc (kvN Row.name rdV rows)) := List.getElem?_set_self dl
    have gB : Gr (h.set d (.fdc (kvN Row.name rdV rows))) (h1.set d (.fdc (kvN Row.name rdV rows))) := fun m p em => by
      by_cases c : m = d
      · subst c
        rw [eB] at em; rw [eL, ← em]
      · rw [List.getElem?_set_ne (Ne.symm c)] at em
        rw [List.getElem?_set_ne (Ne.symm c)]
        exact g1 m p em
    have S0 : RdS (h.set d (.fdc (kvN Row.name rdV rows))) h.length kvs (rows.map Row.name) [] (h1.set d (.fdc (kvN Row.name rdV rows))) := ⟨gB, by rw [List.getElem?_set_ne (by omega)]; exact k1, fun j s ej => by rw [List.getElem?_set_ne (by omega)]; exact (k2 j s ej).2⟩
    obtain ⟨f, h2, q2, env2, rfl, o2, o3, rfl, S2⟩ := forS_ok (src := Iter (Var 0)) (s := SKeys d) (t := TgN 2) (b := outB)
      (n := rows.length) (k := LN) (env := [some (.ref d), some (.ref h.length), none, none]) (h := h1.set d (.fdc (kvN Row.name rdV rows))) (h1 := h1.set d (.fdc (kvN Row.name rdV rows)))
      (fun i env h' => ∃ o2 o3, env = [some (.ref d), some (.ref h.length), o2, o3] ∧ RdS (h.set d (.fdc (kvN Row.name rdV rows))) h.length kvs (rows.map Row.name) (rdP (rows.take i)) h')
      (iter_ok (x := .ref d) rfl (src_fdc eL)) (LN_ok (by omega)) ⟨none, none, rfl, S0⟩
      (by
        rintro i env h' hi ⟨o2, o3, rfl, S⟩
        have hm := List.getElem_mem hi
        have l1 := rdP_len (rows := rows.take i) fun z hz => (rd z (List.mem_of_mem_take hz)).1
        rw [List.length_take] at l1
        have := (rd _ hm).1
        obtain ⟨f, h3, q3, ⟨o3', rfl⟩, S3⟩ := inner_ok (rs := rows[i].reads) (name := rows[i].name) (o3 := o3) S eB (kvN_val nd hm) (by rw [List.length_set]; omega) nd (fun j s ej => (k2 j s ej).1) (rd _ hm).2 (by omega)
        refine ⟨.str rows[i].name, by rw [skeys (S.gr _ _ eB) kk, List.getElem?_map, List.getElem?_eq_getElem hi]; rfl, _, h3, (bind_ok (x := [some (.ref d), some (.ref h.length), some (.str rows[i].name), o3]) (h1 := h') rfl).trans q3, _, .inl rfl, _, _, rfl, ?_⟩
        have e3 : rdP (rows.take (i + 1)) = rdP (rows.take i) ++ rows[i].reads.map (·, rows[i].name) := by
          unfold rdP
          rw [List.take_succ, List.getElem?_eq_getElem hi, List.map_append, List.flatten_append]
          simp
        rw [e3]; exact S3)
      (by
        rintro env h' ⟨o2, o3, rfl, S⟩
        rw [skeys (S.gr _ _ eB) kk, List.getElem?_eq_none (by rw [List.length_map]; omega)]; rfl)
    rw [List.take_length] at S2
    have el2 : h2[d]? = some (.fdc (kvN Row.name rdV rows)) := S2.gr _ _ eB
    refine ⟨_, h2, q2, el2, ⟨o2, o3, rfl⟩, lock_gr e S2.gr, by rw [List.getElem?_set_ne (by omega)]; exact S2.dic, fun r hr => ?_⟩
    obtain ⟨j, hj, ej⟩ := List.getElem_of_mem hr
    have ej2 : (rows.map Row.name)[j]? = some r.name := by rw [List.getElem?_map, List.getElem?_eq_getElem hj, ej]; rfl
    refine ⟨_, _, (k2 j r.name ej2).1, by rw [List.getElem?_set_ne (by omega)]; exact S2.at_ j r.name ej2, ?_, rfl⟩
    rw [Bool.eq_iff_iff, List.isEmpty_iff, Bool.not_eq_true', ← Bool.not_eq_true, List.map_eq_nil_iff]
    unfold readB
    rw [List.any_eq_true]
    constructor
    · rintro e ⟨z, hz, m⟩
      have : z.name ∈ rdN (rdP rows) r.name := rdN_mem.mpr (rdP_mem.mpr ⟨z, hz, rfl, of_decide_eq_true m⟩)
      rw [e] at this; simp at this
    · intro e
      rcases em : rdN (rdP rows) r.name with _ | ⟨t, l⟩
      · rfl
      · have : t ∈ rdN (rdP rows) r.name := by rw [em]; simp
        obtain ⟨z, hz, _, m⟩ := rdP_mem.mp (rdN_mem.mp this)
        exact absurd ⟨z, hz, decide_eq_true m⟩ e
  obtain ⟨f, h2, q2, ⟨o2, o3, rfl⟩, g2, k3, k4⟩ := loop
  exact ⟨.ref h.length, h2, fn_rt ((seq_nx q1).trans ((seq_nx q2).trans (ret_ok (x := .ref h.length) rfl))), g2, h.length, kvs, rfl, k3, k0, k4⟩
end K28
set_option autoImplicit true
set_option Elab.async false
set_option linter.all false
set_option maxRecDepth 100000
set_option maxHeartbeats 600000
namespace K28
open PySem L2 Iv
theorem chain_ok {g g' : IV → IV → M IV} {ma mb mc : Iv.Env → M IV} {env : Iv.Env} {h h1 h2 h3 h4 : IH} {x y w : IV} {z : Option (Out IV × IH)} (e1 : ma env h = some (.ok x, h1)) (e2 : mb env h1 = some (.ok y, h2)) (e3 : g x y h2 = some (.ok (.bl true), h3)) (e4 : mc env h3 = some (.ok w, h4)) (e5 : g' y w h4 = z) : Chain g g' ma mb mc env h = z := by
  unfold Chain
  refine (bind_ok e1).trans ((bind_ok e2).trans ((bind_ok e3).trans ?_))
  show (M.bind (M.pure true) fun k => if k = true then M.bind (mc env) fun w => g' y w else M.pure (.bl false)) h3 = z
  refine (bind_ok (x := true) (h1 := h3) rfl).trans ?_
  rw [if_pos rfl]
  exact (bind_ok e4).trans e5
theorem chain_ff {g g' : IV → IV → M IV} {ma mb mc : Iv.Env → M IV} {env : Iv.Env} {h h1 h2 h3 : IH} {x y : IV} (e1 : ma env h = some (.ok x, h1)) (e2 : mb env h1 = some (.ok y, h2)) (e3 : g x y h2 = some (.ok (.bl false), h3)) : Chain g g' ma mb mc env h = some (.ok (.bl false), h3) := by
  unfold Chain
  refine (bind_ok e1).trans ((bind_ok e2).trans ((bind_ok e3).trans ?_))
  exact (bind_ok (x := false) (h1 := h3) rfl).trans rfl
theorem le_int {i j : Int} {h : IH} : leI (.int i) (.int j) h = some (.ok (.bl (decide (i ≤ j))), h) := rfl
theorem in_dic {h : IH} {n : Nat} {kvs : List (Key × IV)} {s : Str} (e : h[n]? = some (.dic kvs)) : inM false (.str s) (.ref n) h = some (.ok (.bl (valI kvs (.inr s)).isSome), h) := by
  unfold inM
  have : seqI h (.ref n) = none := by
    show (match h[n]? with
      | some (.lst xs) => some xs
      | _ => none) = _
    simp only [e]
  simp only [this, e]
  rfl
theorem nin_dic {h : IH} {n : Nat} {kvs : List (Key × IV)} {s : Str} (e : h[n]? = some (.dic kvs)) : inM true (.str s) (.ref n) h = some (.ok (.bl (!(valI kvs (.inr s)).isSome)), h) := by
  unfold inM
  have : seqI h (.ref n) = none := by
    show (match h[n]? with
      | some (.lst xs) => some xs
      | _ => none) = _
    simp only [e]
  simp only [this, e]
  rfl
theorem len_dic {h : IH} {n : Nat} {kvs : List (Key × IV)} (e : h[n]? = some (.dic kvs)) : lenM [.ref n] h = some (.ok (.int kvs.length), h) := by
  show len1 h (.ref n) = _
  unfold len1
  simp only [e]
theorem andV_ok {m n : Iv.Env → M IV} {env : Iv.Env} {h h1 : IH} {z : Option (Out IV × IH)} (e : m env h = some (.ok (.bl true), h1)) (e3 : n env h1 = z) : AndV m n env h = z := andV_tt e rfl e3
/-- the names of drawn blocks, and of the long chain -/
def pool8 : List Str := pool ++ [⟨#[101]⟩, ⟨#[102]⟩, ⟨#[103]⟩, ⟨#[104]⟩]
theorem name_ok {s : Str} {h : IH} (m : s ∈ pool8) : F_is_name [.str s] h = some (.ok (.bl true), h) := by
  have t : (pool8.all fun s => decide (1 ≤ s.length) && decide (s.length ≤ 8) && Txt.isascii s && Txt.isalpha s && Txt.islower s) = true := by decide +kernel
  have q := List.all_eq_true.mp t s m
  simp only [Bool.and_eq_true, decide_eq_true_iff] at q
  obtain ⟨⟨⟨⟨q1, q2⟩, q3⟩, q4⟩, q5⟩ := q
  have i0 : NotT (Tru (Isi [.str] (Var 0))) [some (.str s)] h = some (.ok false, h) := not_ok (tru_bl (b := true) rfl)
  refine fn_rt ((seq_nx (ifS_ff i0 rfl)).trans (ret_ok (andV_ok (h1 := h) ?_ (andV_ok (h1 := h) ?_ (andV_ok (h1 := h) ?_ ?_)))))
  · refine chain_ok (h3 := h) (h4 := h) (x := .int 1) (y := .int (s.length : Nat)) (w := .int 8) rfl (callB_ok (one_ok (x := .str s) rfl) (len_str (by omega))) ?_ rfl ?_
    · rw [le_int, show decide ((1 : Int) ≤ (s.length : Nat)) = true from decide_eq_true (by omega)]
    · rw [le_int, show decide (((s.length : Nat) : Int) ≤ 8) = true from decide_eq_true (by omega)]
  · exact mth_ok (x := .str s) (xs := []) rfl (h2 := h) rfl rfl (by show M.pure (IV.bl (Txt.isascii s)) h = _; rw [q3]; rfl)
  · exact mth_ok (x := .str s) (xs := []) rfl (h2 := h) rfl rfl (by show M.pure (IV.bl (Txt.isalpha s)) h = _; rw [q4]; rfl)
  · exact mth_ok (x := .str s) (xs := []) rfl (h2 := h) rfl rfl (by show M.pure (IV.bl (Txt.islower s)) h = _; rw [q5]; rfl)
theorem tuple_of_ok {xs : List IV} {n : Nat} {h : IH} (e : xs.length = n) : F_is_tuple_of [.tup xs, .int n] h = some (.ok (.bl true), h) := by
  refine fn_rt (ret_ok (andV_ok rfl ((bin_ok (x := .int xs.length) (y := .int n) (callB_ok (one_ok (x := .tup xs) rfl) len_tup) rfl eqI_int).trans ?_)))
  rw [show decide ((xs.length : Int) = (n : Nat)) = true from decide_eq_true (by omega)]
def ordB : Iv.Env → M Fl := SeqS (IfS (OrT (NotT (Tru (CallF 1 F_is_name (Cons (Var 3) Nil)))) (OrT (Tst (Bin (inM true) (Var 3) (Var 0))) (Tst (Bin (inM false) (Var 3) (Var 2))))) (RetS (Cst (.bl false))) NextS)
    (SeqS (IfS (NotT (Tru (CallB allI (Cons (LcE LN (Iter (Bin ixM (Var 0) (Var 3))) (.n 4) YesT (Bin (inM false) (Var 4) (Var 2)) [4]) Nil)))) (RetS (Cst (.bl false))) NextS)
    (AsgS (Cst (.bl true)) (TgSub (Var 2) (Var 3))))
theorem isorder_ok {h : IH} {d : Nat} {rows : List Row} {o : List Str} (e : h[d]? = some (.dic (kvN Row.name rdV rows))) (nd : (rows.map Row.name).Nodup) (hl : rows.length ≤ 8) (pl : ∀ r ∈ rows, r.name ∈ pool8) (rd : ∀ r ∈ rows, r.reads.length ≤ 8) (O : Ord rows o) :
    Ok (F_is_order_of [.ref d, .tup (o.map .str)]) h fun v h' => v = .bl true ∧ Gr h h' := by
  have dl := (List.getElem?_eq_some_iff.mp e).1
  have ol : o.length = rows.length := by rw [O.perm.length_eq, List.length_map]
  have on : o.Nodup := O.perm.symm.nodup nd
  have kl : (kvN Row.name rdV rows).length = rows.length := by unfold kvN; rw [List.length_map]
  let env0 : Iv.Env := [some (.ref d), some (.tup (o.map .str)), none, none, none]
  have q0 : NotT (Tru (CallF 2 F_is_tuple_of (Cons (Var 1) (Cons (CallB lenM (Cons (Var 0) Nil)) Nil)))) env0 h = some (.ok false, h) :=
    not_ok (k := true) (tru_bl (callF_ok (two_ok (x := .tup (o.map .str)) (y := .int (rows.length : Nat)) rfl (callB_ok (one_ok (x := .ref d) rfl) (by rw [len_dic e, kl]))) rfl (tuple_of_ok (by rw [List.length_map]; exact ol))))
  obtain ⟨f, h2, q2, env2, rfl, o3, rfl, g2⟩ := forS_ok (src := Iter (Var 1)) (s := SItems (o.map .str)) (t := TgN 3) (b := ordB)
    (n := o.length) (k := LN) (env := [some (.ref d), some (.tup (o.map .str)), some (.ref h.length), none, none]) (h := h ++ [.dic []]) (h1 := h ++ [.dic []])
    (fun i env h' => ∃ o3, env = [some (.ref d), some (.tup (o.map .str)), some (.ref h.length), o3, none] ∧ Gr h h' ∧ ∃ kvs, h'[h.length]? = some (.dic kvs) ∧ kvs.map (·.1) = (o.take i).map .inr ∧ ∀ s, (valI kvs (.inr s)).isSome = decide (s ∈ o.take i))
    (iter_ok (x := .tup (o.map .str)) rfl rfl) (LN_ok (by omega)) ⟨none, rfl, Gr.push _ _, [], push_len, rfl, fun s => by simp [valI]⟩
    (by
      rintro i env h' hi ⟨o3, rfl, g, kvs, k1, k2, k3⟩
      have hs : o[i] ∈ o := List.getElem_mem hi
      have hsn : o[i] ∈ rows.map Row.name := O.perm.mem_iff.mp hs
      obtain ⟨r, hr, er⟩ := List.mem_map.mp hsn
      have e' := g _ _ e
      have vr : valI (kvN Row.name rdV rows) (.inr o[i]) = some (rdV r) := by rw [← er]; exact kvN_val nd hr
      have hnew : o[i] ∉ o.take i := by
        intro m
        obtain ⟨j, hj, e2⟩ := List.getElem_of_mem m
        rw [List.length_take] at hj
        rw [List.getElem_take] at e2
        exact List.pairwise_iff_getElem.mp on j i (by omega) hi (by omega) e2
      let envA : Iv.Env := [some (.ref d), some (.tup (o.map .str)), some (.ref h.length), some (.str o[i]), none]
      have c1 : NotT (Tru (CallF 1 F_is_name (Cons (Var 3) Nil))) envA h' = some (.ok false, h') := not_ok (k := true) (tru_bl (callF_ok (one_ok (x := .str o[i]) rfl) rfl (name_ok (by rw [← er]; exact pl r hr))))
      have c2 : Tst (Bin (inM true) (Var 3) (Var 0)) envA h' = some (.ok false, h') := tst_ok ((bin_ok (x := .str o[i]) (y := .ref d) rfl rfl (nin_dic e')).trans (by rw [vr]; rfl))
      have c3 : Tst (Bin (inM false) (Var 3) (Var 2)) envA h' = some (.ok false, h') := tst_ok ((bin_ok (x := .str o[i]) (y := .ref h.length) rfl rfl (in_dic k1)).trans (by rw [k3, decide_eq_false hnew]))
      have k1' : ∀ acc, (h' ++ [Iv.IO.lst acc])[h.length]? = some (.dic kvs) := fun acc => by rw [List.getElem?_append_left (List.getElem?_eq_some_iff.mp k1).1]; exact k1
      have inn : LcE LN (Iter (Bin ixM (Var 0) (Var 3))) (.n 4) YesT (Bin (inM false) (Var 4) (Var 2)) [4] envA h' = some (.ok (.ref h'.length), h' ++ [Iv.IO.lst ((List.replicate r.reads.length true).map IV.bl)]) := by
        have rl := rd r hr
        refine (lcE_pure (k := LN) (s := SItems (r.reads.map .str)) (h1 := h') (r.reads.map .str) (fun _ => true) (fun _ => .bl true) (iter_ok (x := .tup (r.reads.map .str)) (bin_ok (x := .ref d) (y := .str o[i]) rfl rfl (ix_dic e' rfl vr)) rfl) (LN_ok (by rw [List.length_map]; omega)) (by rw [List.length_map]; omega) (fun acc i => rfl) ?_).trans ?_
        · intro x hx
          obtain ⟨s, hs2, rfl⟩ := List.mem_map.mp hx
          have ms := O.reads r hr i (by rw [List.getElem?_eq_getElem hi, er]) s hs2
          exact ⟨_, rfl, fun acc => ⟨rfl, fun _ => (bin_ok (x := .str s) (y := .ref h.length) rfl rfl (in_dic (k1' acc))).trans (by rw [k3, decide_eq_true ms])⟩⟩
        · rw [List.filter_eq_self.mpr (fun _ _ => rfl), List.map_map, List.map_replicate]
          have : (r.reads.map ((fun _ => IV.bl true) ∘ IV.str)) = List.replicate r.reads.length (IV.bl true) := List.map_const' ..
          rw [this]
      have al := all_lst (h := h' ++ [Iv.IO.lst ((List.replicate r.reads.length true).map IV.bl)]) (n := h'.length) push_len
      rw [show ((List.replicate r.reads.length true).all id) = true by simp] at al
      have c4 : NotT (Tru (CallB allI (Cons (LcE LN (Iter (Bin ixM (Var 0) (Var 3))) (.n 4) YesT (Bin (inM false) (Var 4) (Var 2)) [4]) Nil))) envA h' = some (.ok false, h' ++ [Iv.IO.lst ((List.replicate r.reads.length true).map IV.bl)]) := not_ok (k := true) (tru_bl (callB_ok (one_ok inn) al))
      have kvl : kvs.length = i := by
        have := congrArg List.length k2
        rw [List.length_map, List.length_map, List.length_take] at this; omega
      have st := set_dic (y := .str o[i]) (v := .bl true) (k := .inr o[i]) (k1' ((List.replicate r.reads.length true).map IV.bl)) rfl (by omega)
      have q : ordB envA h' = some (.ok (.nx envA), (h' ++ [Iv.IO.lst ((List.replicate r.reads.length true).map IV.bl)]).set h.length (.dic (putI kvs (.inr o[i]) (.bl true)))) :=
        (seq_nx (ifS_ff (or_ff c1 (or_ff c2 c3)) rfl)).trans ((seq_nx (ifS_ff c4 rfl)).trans (asgT_ok (x := .bl true) rfl (tgSub_ok (x := .ref h.length) (y := .str o[i]) rfl rfl st)))
      refine ⟨.str o[i], by show some (o.map IV.str)[i]? = _; rw [List.getElem?_map, List.getElem?_eq_getElem hi]; rfl, _, _, (bind_ok (x := envA) (h1 := h') rfl).trans q, _, .inl rfl, some (.str o[i]), rfl, gr_setd (g.trans (Gr.push _ _)), _, List.getElem?_set_self (List.getElem?_eq_some_iff.mp (k1' _)).1, ?_, ?_⟩
      · rw [put_out, k2, List.take_succ, List.getElem?_eq_getElem hi, List.map_append]; rfl
        rw [k2]
        intro m
        obtain ⟨s, hs, e2⟩ := List.mem_map.mp m
        exact hnew (Sum.inr.inj e2 ▸ hs)
      · intro s
        rw [valI_put, List.take_succ, List.getElem?_eq_getElem hi]
        by_cases c : s = o[i]
        · subst c; rw [if_pos rfl]; exact (decide_eq_true (List.mem_append_right _ (List.mem_singleton.mpr rfl))).symm
        · rw [if_neg (by intro q; exact c (Sum.inr.inj q)), k3, Bool.eq_iff_iff, decide_eq_true_iff, decide_eq_true_iff]
          exact ⟨fun m => List.mem_append_left _ m, fun m => (List.mem_append.mp m).elim id fun m => absurd (List.mem_singleton.mp m) c⟩)
    (by
      rintro env h' ⟨o3, rfl, g⟩
      show some (o.map IV.str)[o.length]? = _
      rw [List.getElem?_eq_none (by rw [List.length_map]; omega)])
  have tail : SeqS (ForS LN (Iter (Var 1)) (TgN 3) ordB) (RetS (Cst (.bl true))) [some (.ref d), some (.tup (o.map .str)), some (.ref h.length), none, none] (h ++ [Iv.IO.dic []]) = some (.ok (.rt (.bl true)), h2) := (seq_nx q2).trans (ret_ok (x := .bl true) rfl)
  have mid : SeqS (AsgS DNew (TgN 2)) (SeqS (ForS LN (Iter (Var 1)) (TgN 3) ordB) (RetS (Cst (.bl true)))) env0 h = some (.ok (.rt (.bl true)), h2) := (seq_nx (asg_ok (x := .ref h.length) (h1 := h ++ [Iv.IO.dic []]) rfl)).trans tail
  exact ⟨.bl true, h2, fn_rt ((seq_nx (ifS_ff q0 rfl)).trans mid), rfl, g2.1⟩
end K28
set_option autoImplicit true
set_option Elab.async false
set_option linter.all false
set_option maxRecDepth 100000
set_option maxHeartbeats 600000
namespace K28
open PySem L2 Iv
theorem callX_ok {n : Nat} {F : List IV → M IV} {r : Iv.Env → M (List IV)} {env : Iv.Env} {h h1 : IH} {xs : List IV} {z : Option (Out IV × IH)} (e1 : r env h = some (.ok xs, h1)) (e2 : xs.length = n) (e3 : F xs h1 = z) : CallX n F r env h = z := by
  unfold CallX
  refine (bind_ok e1).trans ?_
  rw [if_pos e2]; exact e3
theorem pd_strs {l : List Str} (hl : l.length < 100000) (j : Nat) : Pd (j + 2) (.tup (l.map .str)) := ⟨by rw [List.length_map]; exact hl, fun y hy => by
    obtain ⟨s, _, rfl⟩ := List.mem_map.mp hy; exact rfl⟩
/-- all that is asked of rows -/
structure Good8 (rows : List Row) : Prop where
  nd : (rows.map Row.name).Nodup
  hl : rows.length ≤ 8
  pl : ∀ r ∈ rows, r.name ∈ pool8
  rd : ∀ r ∈ rows, r.reads.length ≤ 8 ∧ ∀ s ∈ r.reads, s ∈ rows.map Row.name
theorem Blk.g8 {v : IV} {many : Nat} (B : Blk v many) (hm : many ≤ 8) : Good8 B.rows := ⟨B.nd, by rw [B.ln]; exact hm, fun r hr => List.mem_append_left _ (B.pl (List.mem_map.mpr ⟨r, hr, rfl⟩)), fun r hr => ⟨by have := (B.rd hr).2.1; omega, (B.rd hr).2.2⟩⟩
theorem told_ok {h : IH} {rows : List Row} {w : IV} {o : List Str} (G : Good8 rows) (O : Ord rows o) : Ok (F_told_order [.tup [.tup (rows.map Row.v), w], .tup (o.map .str)]) h fun v h' => v = .tup (o.map .str) ∧ Gr h h' := by
  have ol : o.length = rows.length := by rw [O.perm.length_eq, List.length_map]
  have hl := G.hl
  obtain ⟨x, h1, q1, rfl, g1⟩ := tupled_self (h := h) (pd_strs (l := o) (by omega) 14)
  obtain ⟨x, h2, q2, rfl, g2⟩ := isorder_ok (h := h1 ++ [.dic (kvN Row.name rdV rows)]) (d := h1.length) push_len G.nd G.hl G.pl (fun r hr => (G.rd r hr).1) O
  refine ⟨_, h2, fn_rt ((seq_nx (asg_ok (callF_ok (one_ok (x := .tup (o.map .str)) rfl) rfl q1))).trans ((seq_nx (ifS_ff (not_ok (k := true) (tru_bl (callF_ok (two_ok (callF_ok (one_ok (bin_ok (x := .tup [.tup (rows.map Row.v), w]) (y := .int 0) rfl rfl (ix_tup rfl))) rfl (reads_ok G.nd G.hl)) rfl) rfl q2))) rfl)).trans (ret_ok (x := .tup (o.map .str)) rfl))), rfl, (g1.trans (Gr.push _ _)).trans g2⟩
def awI (rows : List Row) (live : List Str) : IV → Bool
  | .tup [.str n, _, .bl s] => s && (readB rows n || decide (n ∈ live))
  | _ => false
theorem awaited_in_ok {h : IH} {rows : List Row} {live : List Str} (G : Good8 rows) (p : Pd 16 (.tup [.tup (rows.map Row.v), .tup (live.map .str)])) : Ok (F_awaited_in [.tup [.tup (rows.map Row.v), .tup (live.map .str)]]) h fun v h' => v = .tup ((awL rows live).map .str) ∧ Gr h h' := by
  have hl := G.hl
  obtain ⟨x, h1, q1, rfl, g1⟩ := tupled_self (h := h) p
  obtain ⟨x, h2, q2, g2, D, kvs, rfl, k1, -, k2⟩ := readers_ok (h := h1 ++ [.dic (kvN Row.name rdV rows)]) (d := h1.length) push_len G.nd G.hl G.rd
  let envA : Iv.Env := [some (.tup [.tup (rows.map Row.v), .tup (live.map .str)]), some (.tup (rows.map Row.v)), some (.tup (live.map .str)), some (.ref D), none]
  have inn : LcE LN (Iter (Var 1)) (.n 4) (AndT (Tru (Bin ixM (Var 4) (Cst (.int 2)))) (OrT (Tru (Bin ixM (Var 3) (Bin ixM (Var 4) (Cst (.int 0))))) (Tst (Bin (inM false) (Bin ixM (Var 4) (Cst (.int 0))) (Var 2))))) (Bin ixM (Var 4) (Cst (.int 0))) [4] envA h2 = some (.ok (.ref h2.length), h2 ++ [.lst ((awL rows live).map .str)]) := by
    refine (lcE_pure (k := LN) (s := SItems (rows.map Row.v)) (h1 := h2) (rows.map Row.v) (awI rows live) (fun x => rowI x 0) (iter_ok (x := .tup (rows.map Row.v)) rfl rfl) (LN_ok (by rw [List.length_map]; omega)) (by rw [List.length_map]; omega) (fun acc i => rfl) ?_).trans ?_
    · intro x hx
      obtain ⟨r, hr, rfl⟩ := List.mem_map.mp hx
      refine ⟨_, rfl, fun acc => ⟨?_, fun _ => bin_ok (x := r.v) (y := .int 0) rfl rfl (ix_tup rfl)⟩⟩
      obtain ⟨n, L, l1, l2, l3, -⟩ := k2 r hr
      show AndT _ _ _ _ = some (.ok (r.slow && (readB rows r.name || decide (r.name ∈ live))), _)
      let envB : Iv.Env := [some (.tup [.tup (rows.map Row.v), .tup (live.map .str)]), some (.tup (rows.map Row.v)), some (.tup (live.map .str)), some (.ref D), some r.v]
      have app : ∀ {m : Nat} {z : Iv.IO}, h2[m]? = some z → (h2 ++ [Iv.IO.lst acc])[m]? = some z := fun e => by rw [List.getElem?_append_left (List.getElem?_eq_some_iff.mp e).1]; exact e
      have e0 : Tru (Bin ixM (Var 4) (Cst (.int 2))) envB (h2 ++ [.lst acc]) = some (.ok r.slow, h2 ++ [.lst acc]) := tru_bl (bin_ok (x := r.v) (y := .int 2) rfl rfl (ix_tup rfl))
      have en : Bin ixM (Var 4) (Cst (.int 0)) envB (h2 ++ [.lst acc]) = some (.ok (.str r.name), h2 ++ [.lst acc]) := bin_ok (x := r.v) (y := .int 0) rfl rfl (ix_tup rfl)
      have e1 : Tru (Bin ixM (Var 3) (Bin ixM (Var 4) (Cst (.int 0)))) envB (h2 ++ [.lst acc]) = some (.ok (readB rows r.name), h2 ++ [.lst acc]) := by
        refine tru_ok (bin_ok (x := .ref D) (y := .str r.name) rfl en (ix_dic (app k1) rfl l1)) ?_
        rw [tru_lst (app l2), l3, Bool.not_not]
      have e2 : Tst (Bin (inM false) (Bin ixM (Var 4) (Cst (.int 0))) (Var 2)) envB (h2 ++ [.lst acc]) = some (.ok (decide (r.name ∈ live)), h2 ++ [.lst acc]) := tst_ok (bin_ok en rfl in_tup)
      by_cases c : r.slow = true
      · rw [c] at e0
        rw [c, Bool.true_and]
        refine and_tt e0 ?_
        by_cases d : readB rows r.name = true
        · rw [d] at e1
          rw [d]; exact or_tt e1
        · have d' : readB rows r.name = false := by simpa using d
          rw [d'] at e1
          rw [d', Bool.false_or]; exact or_ff e1 e2
      · have c' : r.slow = false := by simpa using c
        rw [c'] at e0
        rw [c', Bool.false_and]; exact and_ff e0
    · rw [List.filter_map, List.map_map]
      unfold awL
      have : awI rows live ∘ Row.v = awB rows live := by funext r; rfl
      rw [this, List.map_map]; rfl
  have tp : tupleM [.ref h2.length] (h2 ++ [.lst ((awL rows live).map .str)]) = some (.ok (.tup ((awL rows live).map .str)), h2 ++ [.lst ((awL rows live).map .str)]) := tuple_lst push_len
  refine ⟨_, _, fn_rt ((seq_nx (asgT_ok (env2 := [some (.tup [.tup (rows.map Row.v), .tup (live.map .str)]), some (.tup (rows.map Row.v)), some (.tup (live.map .str)), none, none]) (callF_ok (one_ok (x := .tup [.tup (rows.map Row.v), .tup (live.map .str)]) rfl) rfl q1) rfl)).trans ((seq_nx (asg_ok (callF_ok (one_ok (callF_ok (one_ok (x := .tup (rows.map Row.v)) rfl) rfl (reads_ok G.nd G.hl))) rfl q2))).trans (ret_ok (callB_ok (one_ok inn) tp)))), rfl, ((g1.trans (Gr.push _ _)).trans g2).trans (Gr.push _ _)⟩
end K28
set_option autoImplicit true
set_option Elab.async false
set_option linter.all false
set_option maxRecDepth 100000
set_option maxHeartbeats 1000000
namespace K28
open PySem L2 Iv
/-- the reads of the row of a name -/
def rdO (rows : List Row) (s : Str) : List Str := match rows.find? fun r => decide (r.name = s) with
  | some r => r.reads
  | none => []
theorem rdO_at : ∀ {rows : List Row} {r : Row}, (rows.map Row.name).Nodup → r ∈ rows → rdO rows r.name = r.reads
  | [], r, _, h => by simp at h
  | a :: q, r, n, h => by
    rw [List.map_cons, List.nodup_cons] at n
    unfold rdO
    rw [List.find?_cons]
    rcases List.mem_cons.mp h with rfl | m
    · rw [decide_eq_true rfl]
    · have ne : a.name ≠ r.name := fun e => n.1 (e ▸ List.mem_map.mpr ⟨r, m, rfl⟩)
      rw [decide_eq_false ne]
      exact rdO_at n.2 m
/-- the first place from k on at which s is read -/
def frs (rows : List Row) (s : Str) : Nat → List Str → Nat
  | k, [] => k
  | k, t :: l => if s ∈ rdO rows t then k else frs rows s (k + 1) l
theorem frs_gt {rows : List Row} {s : Str} : ∀ {l : List Str} {p k : Nat}, k < p + l.length → (k < frs rows s p l ↔ ∀ (j : Nat) (t : Str), l[j]? = some t → p + j ≤ k → s ∉ rdO rows t)
  | [], p, k, h => by
    simp at h
    constructor
    · intro _ j t e; simp at e
    · intro _; exact h
  | t :: l, p, k, h => by
    unfold frs
    by_cases c : s ∈ rdO rows t
    · rw [if_pos c]
      constructor
      · intro hk j u e hj
        omega
      · intro a
        rcases Nat.lt_or_ge k p with d | d
        · exact d
        · exact absurd c (a 0 t rfl (by omega))
    · rw [if_neg c, frs_gt (by rw [List.length_cons] at h; omega)]
      constructor
      · intro a j u e hj
        cases j with
        | zero => simp at e; subst e; exact c
        | succ j => exact a j u (by simpa using e) (by omega)
      · intro a j u e hj
        exact a (j + 1) u (by simpa using e) (by omega)
theorem frs_le {rows : List Row} {s : Str} : ∀ {l : List Str} {p : Nat}, frs rows s p l ≤ p + l.length
  | [], p => by simp [frs]
  | t :: l, p => by
    unfold frs
    split
    · omega
    · have := frs_le (rows := rows) (s := s) (l := l) (p := p + 1)
      rw [List.length_cons]; omega
theorem frs_min {rows : List Row} {o : List Str} {s : Str} (nd : (rows.map Row.name).Nodup) (O : Ord rows o) : (if rdN (rdP rows) s = [] then ((o.length : Nat) : Int) else minL ((rdN (rdP rows) s).map fun t => ((o.idxOf t : Nat) : Int))) = ((frs rows s 0 o : Nat) : Int) := by
  have mem : ∀ t, t ∈ rdN (rdP rows) s ↔ t ∈ o ∧ s ∈ rdO rows t := fun t => by
    rw [rdN_mem, rdP_mem, O.perm.mem_iff]
    constructor
    · rintro ⟨r, hr, rfl, m⟩
      exact ⟨List.mem_map.mpr ⟨r, hr, rfl⟩, by rw [rdO_at nd hr]; exact m⟩
    · rintro ⟨m, k⟩
      obtain ⟨r, hr, rfl⟩ := List.mem_map.mp m
      exact ⟨r, hr, rfl, by rw [rdO_at nd hr] at k; exact k⟩
  have on : o.Nodup := O.perm.symm.nodup nd
  have le := frs_le (rows := rows) (s := s) (l := o) (p := 0)
  have gt : ∀ k : Nat, k < o.length → (k < frs rows s 0 o ↔ ∀ (j : Nat) (t : Str), o[j]? = some t → 0 + j ≤ k → s ∉ rdO rows t) := fun k hk => frs_gt (by omega)
  generalize frs rows s 0 o = f at *
  by_cases c : rdN (rdP rows) s = []
  · rw [if_pos c]
    rcases Nat.lt_or_ge f o.length with d | d
    · have := (gt f d).mpr fun j t e hj hs => by
        have m := (mem t).mpr ⟨List.mem_of_getElem? e, hs⟩
        rw [c] at m; simp at m
      omega
    · have : f = o.length := by omega
      rw [this]
  · rw [if_neg c]
    obtain ⟨t0, q, eq0⟩ := List.exists_cons_of_ne_nil c
    haveI : KL := ⟨fun _ _ => True, fun _ => True⟩
    have mk := minL_ok ((o.idxOf t0 : Nat) : Int) (q.map fun t => ((o.idxOf t : Nat) : Int))
    have er : (rdN (rdP rows) s).map (fun t => ((o.idxOf t : Nat) : Int)) = ((o.idxOf t0 : Nat) : Int) :: q.map fun t => ((o.idxOf t : Nat) : Int) := by rw [eq0]; rfl
    rw [← er] at mk
    obtain ⟨m1, m2⟩ := mk
    obtain ⟨t, ht, et⟩ := List.mem_map.mp m1
    rw [← et]
    have ⟨ho, hs⟩ := (mem t).mp ht
    have il := List.idxOf_lt_length_of_mem ho
    have eo : o[o.idxOf t]? = some t := by rw [List.getElem?_eq_getElem il, List.getElem_idxOf il]
    have a : f ≤ o.idxOf t := by
      rcases Nat.lt_or_ge (o.idxOf t) f with d | d
      · exact absurd hs ((gt _ il).mp d _ t eo (by omega))
      · exact d
    have b : o.idxOf t ≤ f := by
      rcases Nat.lt_or_ge f (o.idxOf t) with d | d
      · have := (gt f (by omega)).mpr fun j t2 e hj hs2 => by
          have m := (mem t2).mpr ⟨List.mem_of_getElem? e, hs2⟩
          have := m2 _ (List.mem_map.mpr ⟨t2, m, rfl⟩)
          rw [← et] at this
          have : o.idxOf t2 = j := by
            have hl := (List.getElem?_eq_some_iff.mp e).1
            have h2 := (List.getElem?_eq_some_iff.mp e).2
            have l2 := List.idxOf_lt_length_of_mem (List.mem_of_getElem? e)
            have e2 := List.getElem_idxOf l2
            rcases Nat.lt_trichotomy (o.idxOf t2) j with d | d | d
            · exact absurd (e2.trans h2.symm) (List.pairwise_iff_getElem.mp on _ _ l2 hl d)
            · exact d
            · exact absurd (h2.trans e2.symm) (List.pairwise_iff_getElem.mp on _ _ hl l2 d)
          omega
        omega
      · exact d
    have : o.idxOf t = f := by omega
    rw [this]
def plI (o : List Str) : IV → IV
  | .str t => .int (o.idxOf t : Nat)
  | x => x
theorem idx_at {o : List Str} (n : o.Nodup) {i : Nat} {s : Str} (e : o[i]? = some s) : o.idxOf s = i := by
  obtain ⟨h1, h2⟩ := List.getElem?_eq_some_iff.mp e
  have hm : s ∈ o := h2 ▸ List.getElem_mem h1
  have hl := List.idxOf_lt_length_of_mem hm
  have he := List.getElem_idxOf hl
  rcases Nat.lt_trichotomy (o.idxOf s) i with d | d | d
  · exact absurd (he.trans h2.symm) (List.pairwise_iff_getElem.mp n _ _ hl h1 d)
  · exact d
  · exact absurd (h2.trans he.symm) (List.pairwise_iff_getElem.mp n _ _ h1 hl d)
/-- a dict of the places -/
def plK (o : List Str) : List (Key × IV) := kvN id (fun s => IV.int (o.idxOf s : Nat)) o
theorem plK_val {o : List Str} {s : Str} (n : o.Nodup) (h : s ∈ o) : valI (plK o) (.inr s) = some (.int (o.idxOf s : Nat)) := kvN_val (key := id) (a := s) (by rw [List.map_id]; exact n) h
theorem firsts_ok {h : IH} {rows : List Row} {o : List Str} {D : Nat} {kvs : List (Key × IV)} (G : Good8 rows) (O : Ord rows o) (ed : h[D]? = some (.dic kvs)) (kk : kvs.map (·.1) = (rows.map Row.name).map .inr) (kr : ∀ r ∈ rows, ∃ n L, valI kvs (.inr r.name) = some (.ref n) ∧ h[n]? = some (.lst L) ∧ L = (rdN (rdP rows) r.name).map .str) :
    Ok (F__firsts_by [.tup (o.map .str), .ref D]) h fun v h' => Gr h h' ∧ ∃ F, v = .ref F ∧ h'[F]? = some (.dic (kvN id (fun s => .int (frs rows s 0 o : Nat)) (rows.map Row.name))) := by
  have ol : o.length = rows.length := by rw [O.perm.length_eq, List.length_map]
  have on : o.Nodup := O.perm.symm.nodup G.nd
  have hl := G.hl
  have Dl := (List.getElem?_eq_some_iff.mp ed).1
  have rl : ∀ s, (rdN (rdP rows) s).length ≤ 64 := fun s => by
    have := rdN_len (done := rdP rows) (s := s)
    have := rdP_len (rows := rows) fun r hr => (G.rd r hr).1
    omega
  have qp := dcE_names (k := LN) (src := IterA enumM (Cons (Var 0) Nil)) (s := SEnum (SItems (o.map .str))) (p := .t [5, 3]) (kx := Var 3) (el := Var 5) (vs := [5, 3]) (env := [some (.tup (o.map .str)), some (.ref D), none, none, none, none]) (h := h) (h1 := h) (item := fun i (s : Str) => IV.tup [.int i, .str s]) (key := id) (val := fun s => IV.int (o.idxOf s : Nat)) o
    (iterA_ok (one_ok (x := .tup (o.map .str)) rfl) rfl) (LN_ok (by omega)) (by omega) (by rw [List.map_id]; exact on)
    (fun kvs i => by
      show some (((o.map IV.str)[i]?).map fun x => IV.tup [.int i, x]) = _
      rw [List.getElem?_map, Option.map_map]; rfl)
    (fun i s e => ⟨_, rfl, fun kvs => ⟨rfl, by rw [idx_at on e]; rfl⟩⟩)
  let h1 : IH := h ++ [.dic (plK o)]
  have e1 : h1[D]? = some (.dic kvs) := Gr.push h _ _ _ ed
  have e2 : h1[h.length]? = some (.dic (plK o)) := push_len
  have hD : D ≠ h.length := by omega
  let env1 : Iv.Env := [some (.tup (o.map .str)), some (.ref D), some (.ref h.length), none, none, none]
  have lk : Ok (lockM 1 (DcE LN (Iter (Var 1)) (.n 3) YesT (Var 3) (MinDf (Cons (LcE LN (Iter (Bin ixM (Var 1) (Var 3))) (.n 4) YesT (Bin ixM (Var 2) (Var 4)) [4]) Nil) (CallB lenM (Cons (Var 0) Nil))) [3]) env1) h1 fun v h2 => v = .ref h1.length ∧ Gr h1 h2 ∧ h2[h1.length]? = some (.dic (kvN id (fun s => .int (frs rows s 0 o : Nat)) (rows.map Row.name))) := by
    refine lock_ok (n := D) rfl e1 ?_
    have Dl1 := (List.getElem?_eq_some_iff.mp e1).1
    have eL : (h1.set D (.fdc kvs))[D]? = some (.fdc kvs) := List.getElem?_set_self Dl1
    have eP : (h1.set D (.fdc kvs))[h.length]? = some (.dic (plK o)) := by rw [List.getElem?_set_ne hD]; exact e2
    have lL : ∀ r ∈ rows, ∃ n, valI kvs (.inr r.name) = some (.ref n) ∧ (h1.set D (.fdc kvs))[n]? = some (.lst ((rdN (rdP rows) r.name).map .str)) := fun r hr => by
      obtain ⟨n, L, l1, l2, rfl⟩ := kr r hr
      refine ⟨n, l1, ?_⟩
      have : D ≠ n := by
        rintro rfl
        rw [ed] at l2; cases l2
      rw [List.getElem?_set_ne this]
      exact Gr.push h _ _ _ l2
    have ln : (h1.set D (.fdc kvs)).length = h1.length := List.length_set
    generalize eg : h1.set D (.fdc kvs) = hL at *
    obtain ⟨h2, q, g, e⟩ := dcE_grow (k := LN) (src := Iter (Var 1)) (s := SKeys D) (p := .n 3) (kx := Var 3) (el := MinDf (Cons (LcE LN (Iter (Bin ixM (Var 1) (Var 3))) (.n 4) YesT (Bin ixM (Var 2) (Var 4)) [4]) Nil) (CallB lenM (Cons (Var 0) Nil))) (vs := [3]) (env := env1) (h := hL) (h1 := hL) (item := fun _ (s : Str) => IV.str s) (key := id) (val := fun s => IV.int (frs rows s 0 o : Nat)) (rows.map Row.name)
      (iter_ok (x := .ref D) rfl (src_fdc eL)) (LN_ok (by rw [List.length_map]; omega)) (by rw [List.length_map]; omega) (by rw [List.map_id]; exact G.nd)
      (fun h' i g => by rw [skeys (g _ _ eL) kk])
      (fun i s es => by
        obtain ⟨r, hr, ers⟩ := List.mem_map.mp (List.mem_of_getElem? es)
        obtain ⟨n, l1, l2⟩ := lL r hr
        rw [ers] at l1 l2
        refine ⟨_, rfl, fun h' g => ⟨rfl, ?_⟩⟩
        let env2 : Iv.Env := [some (.tup (o.map .str)), some (.ref D), some (.ref h.length), some (.str s), none, none]
        have lx := rl s
        obtain ⟨v, h3, q3, rfl, e3, g3⟩ := lcE_gr (k := LN) (src := Iter (Bin ixM (Var 1) (Var 3))) (s := SLive n) (p := .n 4) (c := YesT) (el := Bin ixM (Var 2) (Var 4)) (vs := [4]) (env := env2) (h := h') (h1 := h') ((rdN (rdP rows) s).map .str) (fun _ => true) (plI o)
          (iter_ok (x := .ref n) (bin_ok (x := .ref D) (y := .str s) rfl rfl (ix_fdc (g _ _ eL) rfl l1)) (src_lst (g _ _ l2))) (LN_ok (by rw [List.length_map]; omega)) (by rw [List.length_map]; omega)
          (fun h2 i g2 => slive (g2 _ _ (g _ _ l2)) i)
          (fun x hx => by
            obtain ⟨t, ht, rfl⟩ := List.mem_map.mp hx
            obtain ⟨r2, hr2, e2, _⟩ := rdP_mem.mp (rdN_mem.mp ht)
            have ho : t ∈ o := O.perm.mem_iff.mpr (e2 ▸ List.mem_map.mpr ⟨r2, hr2, rfl⟩)
            refine ⟨_, rfl, fun h4 g4 => ⟨true, h4, rfl, rfl, Gr.refl _, fun _ => ⟨.int (o.idxOf t : Nat), h4, ?_, rfl, Gr.refl _⟩⟩⟩
            exact bin_ok (x := .ref h.length) (y := .str t) rfl rfl (ix_dic (g4 _ _ (g _ _ eP)) rfl (plK_val on ho)))
        have em : ((rdN (rdP rows) s).map IV.str |>.filter fun _ => true).map (plI o) = ((rdN (rdP rows) s).map fun t => ((o.idxOf t : Nat) : Int)).map .int := by
          rw [List.filter_eq_self.mpr (fun _ _ => rfl), List.map_map, List.map_map]; rfl
        rw [em] at e3
        refine ⟨h3, ?_, g3⟩
        have qn : CallB lenM (Cons (Var 0) Nil) env2 h3 = some (.ok (.int (o.length : Nat)), h3) := callB_ok (one_ok (x := .tup (o.map .str)) rfl) (by
          have := len_tup (xs := o.map IV.str) (h := h3)
          rw [List.length_map] at this
          exact this)
        unfold MinDf
        refine (bind_ok (one_ok q3)).trans ((bind_ok qn).trans ?_)
        show (match h3[h'.length]? with
          | some (.lst xs) => match ints? xs with
            | some [] => some (Out.ok (IV.int (o.length : Nat)), h3)
            | some (i :: is) => some (.ok (.int (minL (i :: is))), h3)
            | none => none
          | _ => none) = _
        simp only [e3, ints_map]
        rw [← frs_min G.nd O]
        cases ea : rdN (rdP rows) s with
        | nil => rfl
        | cons a as => rfl)
    refine ⟨_, h2, q, g _ _ eL, by rw [ln], lock_gr e1 (by rw [eg]; exact g), ?_⟩
    have : D ≠ hL.length := by omega
    rw [List.getElem?_set_ne (by omega), ← ln]; exact e
  obtain ⟨v, h2, q2, rfl, g2, f2⟩ := lk
  exact ⟨_, h2, fn_rt ((seq_nx (asg_ok qp)).trans (ret_ok q2)), (Gr.push h _).trans g2, _, rfl, f2⟩
theorem first_ok {h : IH} {rows : List Row} {w : IV} {o : List Str} (G : Good8 rows) (pd : Pd 16 (.tup [.tup (rows.map Row.v), w])) (O : Ord rows o) : Ok (F_first_readers [.tup [.tup (rows.map Row.v), w], .tup (o.map .str)]) h fun v h' => Gr h h' ∧ ∃ F, v = .ref F ∧ h'[F]? = some (.dic (kvN id (fun s => .int (frs rows s 0 o : Nat)) (rows.map Row.name))) := by
  obtain ⟨x, h1, q1, rfl, g1⟩ := tupled_self (h := h) pd
  obtain ⟨x, h2, q2, rfl, g2⟩ := told_ok (h := h1) (w := w) G O
  have q3 := reads_ok (h := h2) G.nd G.hl
  obtain ⟨x, h4, q4, g4, D, kvs, rfl, k1, k0, k2⟩ := readers_ok (h := h2 ++ [.dic (kvN Row.name rdV rows)]) (d := h2.length) push_len G.nd G.hl G.rd
  obtain ⟨x, h5, q5, g5, F, rfl, f5⟩ := firsts_ok (h := h4) G O k1 k0 (fun r hr => by
    obtain ⟨n, L, l1, l2, _, l3⟩ := k2 r hr
    exact ⟨n, L, l1, l2, l3⟩)
  refine ⟨_, h5, fn_rt ((seq_nx (asg_ok (callF_ok (one_ok (x := .tup [.tup (rows.map Row.v), w]) rfl) rfl q1))).trans ((seq_nx (asg_ok (callX_ok (two_ok (x := .tup [.tup (rows.map Row.v), w]) (y := .tup (o.map .str)) rfl rfl) rfl q2))).trans (ret_ok (callF_ok (two_ok (x := .tup (o.map .str)) rfl (callF_ok (one_ok (callF_ok (one_ok (bin_ok (x := .tup [.tup (rows.map Row.v), w]) (y := .int 0) rfl rfl (ix_tup rfl))) rfl q3)) rfl q4)) rfl q5)))), (((g1.trans g2).trans (Gr.push _ _)).trans g4).trans g5, F, rfl, f5⟩
end K28
set_option autoImplicit true
set_option Elab.async false
set_option linter.all false
set_option maxRecDepth 100000
set_option maxHeartbeats 600000
namespace K28
open PySem L2 Iv
/-- where, and where first read -/
def wtV (rows : List Row) (o : List Str) (s : Str) : IV := .tup [.int (o.idxOf s : Nat), .int (frs rows s 0 o : Nat)]
theorem aw_mem {rows : List Row} {live : List Str} {s : Str} (h : s ∈ awL rows live) : s ∈ rows.map Row.name := by
  obtain ⟨r, hr, rfl⟩ := List.mem_map.mp h
  exact List.mem_map.mpr ⟨r, (List.mem_filter.mp hr).1, rfl⟩
theorem aw_nd {rows : List Row} {live : List Str} (n : (rows.map Row.name).Nodup) : (awL rows live).Nodup := List.Nodup.sublist (List.Sublist.map _ List.filter_sublist) n
theorem aw_len {rows : List Row} {live : List Str} : (awL rows live).length ≤ rows.length := by
  unfold awL
  rw [List.length_map]; exact List.length_filter_le _ _
theorem idx_nd {o : List Str} (n : o.Nodup) {i : Nat} {s : Str} (e : o[i]? = some s) : o.idxOf s = i := by
  obtain ⟨h1, h2⟩ := List.getElem?_eq_some_iff.mp e
  have hm : s ∈ o := h2 ▸ List.getElem_mem h1
  have hl := List.idxOf_lt_length_of_mem hm
  have he := List.getElem_idxOf hl
  rcases Nat.lt_trichotomy (o.idxOf s) i with d | d | d
  · exact absurd (he.trans h2.symm) (List.pairwise_iff_getElem.mp n _ _ hl h1 d)
  · exact d
  · exact absurd (h2.trans he.symm) (List.pairwise_iff_getElem.mp n _ _ h1 hl d)
theorem waits_ok {h : IH} {rows : List Row} {live : List Str} {o : List Str} (G : Good8 rows) (pd : Pd 16 (.tup [.tup (rows.map Row.v), .tup (live.map .str)])) (O : Ord rows o) : Ok (F_waits_in [.tup [.tup (rows.map Row.v), .tup (live.map .str)], .tup (o.map .str)]) h fun v h' => Gr h h' ∧ ∃ F, v = .ref F ∧ h'[F]? = some (.dic (kvN id (wtV rows o) (awL rows live))) := by
  have ol : o.length = rows.length := by rw [O.perm.length_eq, List.length_map]
  have on : o.Nodup := O.perm.symm.nodup G.nd
  have hl := G.hl
  let v : IV := .tup [.tup (rows.map Row.v), .tup (live.map .str)]
  obtain ⟨x, h1, q1, g1, F, rfl, f1⟩ := first_ok (h := h) (w := .tup (live.map .str)) G pd O
  obtain ⟨x, h2, q2, rfl, g2⟩ := awaited_in_ok (h := h1) G pd
  let h3 : IH := h2 ++ [.dic (plK o)]
  have qp : DcE LN (IterA enumM (Cons (Var 0) Nil)) (.t [5, 4]) YesT (Var 4) (Var 5) [5, 4] [some (.tup (o.map .str)), some (.ref F), some (.tup ((awL rows live).map .str)), none, none, none] h2 = some (.ok (.ref h2.length), h3) := dcE_names (k := LN) (src := IterA enumM (Cons (Var 0) Nil)) (s := SEnum (SItems (o.map .str))) (p := .t [5, 4]) (kx := Var 4) (el := Var 5) (vs := [5, 4]) (env := [some (.tup (o.map .str)), some (.ref F), some (.tup ((awL rows live).map .str)), none, none, none]) (h := h2) (h1 := h2) (item := fun i (s : Str) => IV.tup [.int i, .str s]) (key := id) (val := fun s => IV.int (o.idxOf s : Nat)) o
    (iterA_ok (one_ok (x := .tup (o.map .str)) rfl) rfl) (LN_ok (by omega)) (by omega) (by rw [List.map_id]; exact on)
    (fun kvs i => by
      show some (((o.map IV.str)[i]?).map fun x => IV.tup [.int i, x]) = _
      rw [List.getElem?_map, Option.map_map]; rfl)
    (fun i s e => ⟨_, rfl, fun kvs => ⟨rfl, by rw [idx_nd on e]; rfl⟩⟩)
  have e1 : h3[h2.length]? = some (.dic (plK o)) := push_len
  have e2 : h3[F]? = _ := Gr.push h2 _ _ _ (g2 _ _ f1)
  have al := aw_len (rows := rows) (live := live)
  have qw := dcE_names (k := LN) (src := Iter (Var 2)) (s := SItems ((awL rows live).map .str)) (p := .n 4) (kx := Var 4) (el := Tup (Cons (Bin ixM (Var 3) (Var 4)) (Cons (Bin ixM (Var 1) (Var 4)) Nil))) (vs := [4]) (env := [some (.tup (o.map .str)), some (.ref F), some (.tup ((awL rows live).map .str)), some (.ref h2.length), none, none]) (h := h3) (h1 := h3) (item := fun i (s : Str) => IV.str s) (key := id) (val := wtV rows o) (awL rows live)
    (iter_ok (x := .tup ((awL rows live).map .str)) rfl rfl) (LN_ok (by omega)) (by omega) (by rw [List.map_id]; exact aw_nd G.nd)
    (fun kvs i => by show some ((awL rows live).map IV.str)[i]? = _; rw [List.getElem?_map])
    (fun i s e => by
      have hm : s ∈ awL rows live := List.mem_of_getElem? e
      have hn := aw_mem hm
      have ho : s ∈ o := O.perm.mem_iff.mpr hn
      refine ⟨_, rfl, fun kvs => ⟨rfl, ?_⟩⟩
      have app : ∀ {m : Nat} {z : Iv.IO}, h3[m]? = some z → (h3 ++ [Iv.IO.dic kvs])[m]? = some z := fun e => by rw [List.getElem?_append_left (List.getElem?_eq_some_iff.mp e).1]; exact e
      have fv : valI (kvN id (fun s => IV.int (frs rows s 0 o : Nat)) (rows.map Row.name)) (.inr s) = some (.int (frs rows s 0 o : Nat)) := kvN_val (key := id) (a := s) (by rw [List.map_id]; exact G.nd) hn
      exact tup_ok (two_ok (bin_ok (x := .ref h2.length) (y := .str s) rfl rfl (ix_dic (app e1) rfl (plK_val on ho))) (bin_ok (x := .ref F) (y := .str s) rfl rfl (ix_dic (app e2) rfl fv))) (by show 2 ≤ 100000; omega))
  have qW : F__waits_by [.tup (o.map .str), .ref F, .tup ((awL rows live).map .str)] h2 = _ := fn_rt ((seq_nx (asg_ok qp)).trans (ret_ok qw))
  exact ⟨_, _, fn_rt (ret_ok (callF_ok (cons_ok (x := .tup (o.map .str)) rfl (two_ok (callX_ok (two_ok (x := v) (y := .tup (o.map .str)) rfl rfl) rfl q1) (callF_ok (one_ok (x := v) rfl) rfl q2))) rfl qW)), ((g1.trans g2).trans (Gr.push _ _)).trans (Gr.push _ _), _, rfl, push_len⟩
end K28
set_option autoImplicit true
set_option Elab.async false
set_option linter.all false
set_option maxRecDepth 100000
set_option maxHeartbeats 600000
namespace K28
open PySem L2 Iv
/-! ticks by waits and ticks by the machine, in plain numbers -/
theorem mx (n : Int) (ns : List Int) : maxL (n :: ns) ∈ n :: ns ∧ ∀ y ∈ n :: ns, y ≤ maxL (n :: ns) := by
  haveI : KL := ⟨fun _ _ => True, fun _ => True⟩
  exact maxL_ok n ns
section
variable (rows : List Row) (aw : List Str) (o : List Str) (st la : Str → Int)
def tkL : Nat → List Int
  | 0 => [0]
  | p + 1 => tkL p ++ [maxL (((tkL p).getLastD 0 + 1) :: (aw.filter fun s => decide (frs rows s 0 o = p + 1)).map fun s => (tkL p).getD (o.idxOf s) 0 + st s + 1)]
def tkT (p : Nat) : Int := (tkL rows aw o st p).getLastD 0
def nwL : Nat → List Int
  | 0 => []
  | p + 1 => nwL p ++ [maxL (((nwL p).getLastD (-1) + 1) :: (rdO rows (o.getD p "")).map fun s => (nwL p).getD (o.idxOf s) 0 + la s)]
def nwE (live : List Str) : Int := maxL (((nwL rows o la o.length).getLastD (-1) + 1) :: live.map fun s => (nwL rows o la o.length).getD (o.idxOf s) 0 + la s)
end
section
variable {rows : List Row} {aw : List Str} {o : List Str} {st la : Str → Int}
theorem tkL_len : ∀ p, (tkL rows aw o st p).length = p + 1
  | 0 => rfl
  | p + 1 => by unfold tkL; rw [List.length_append, tkL_len p]; rfl
theorem last_snoc {l : List Int} {x d : Int} : (l ++ [x]).getLastD d = x := by simp
theorem getD_snoc {l : List Int} {x d : Int} {i : Nat} (h : i < l.length) : (l ++ [x]).getD i d = l.getD i d := by
  rw [List.getD_eq_getElem?_getD, List.getD_eq_getElem?_getD, List.getElem?_append_left h]
theorem getD_snoc_eq {l : List Int} {x d : Int} : (l ++ [x]).getD l.length d = x := by
  rw [List.getD_eq_getElem?_getD, List.getElem?_append_right (Nat.le_refl _), Nat.sub_self]; rfl
theorem tkL_get : ∀ {p i : Nat}, i ≤ p → (tkL rows aw o st p).getD i 0 = tkT rows aw o st i
  | 0, i, h => by
    have : i = 0 := by omega
    subst this; rfl
  | p + 1, i, h => by
    rcases Nat.lt_or_ge i (p + 1) with c | c
    · show (tkL rows aw o st p ++ [_]).getD i 0 = _
      rw [getD_snoc (by rw [tkL_len]; exact c)]
      exact tkL_get (by omega)
    · have : i = p + 1 := by omega
      subst this
      show (tkL rows aw o st p ++ [_]).getD (p + 1) 0 = (tkL rows aw o st p ++ [_]).getLastD 0
      rw [last_snoc, ← tkL_len (rows := rows) (aw := aw) (o := o) (st := st) p, getD_snoc_eq]
theorem tkT_succ (p : Nat) : tkT rows aw o st (p + 1) = maxL ((tkT rows aw o st p + 1) :: (aw.filter fun s => decide (frs rows s 0 o = p + 1)).map fun s => (tkL rows aw o st p).getD (o.idxOf s) 0 + st s + 1) := by
  show (tkL rows aw o st p ++ [_]).getLastD 0 = _
  rw [last_snoc]; rfl
theorem tkT_step (p : Nat) : tkT rows aw o st p + 1 ≤ tkT rows aw o st (p + 1) := by
  rw [tkT_succ]; exact (mx _ _).2 _ (by simp)
theorem tkT_mono {i j : Nat} (h : i ≤ j) : tkT rows aw o st i + ((j - i : Nat) : Int) ≤ tkT rows aw o st j := by
  obtain ⟨d, rfl⟩ : ∃ d, j = i + d := ⟨j - i, by omega⟩
  clear h
  induction d with
  | zero => simp
  | succ d ih =>
    have b := tkT_step (rows := rows) (aw := aw) (o := o) (st := st) (i + d)
    have e : i + (d + 1) = i + d + 1 := rfl
    rw [e]
    omega
/-- what the waits are -/
structure Wt (rows : List Row) (live aw o : List Str) (st la : Str → Int) : Prop where
  nd : o.Nodup
  rd : ∀ (j : Nat) (t : Str), o[j]? = some t → ∀ s ∈ rdO rows t, s ∈ o.take j
  awf : ∀ s, s ∈ aw → s ∈ o ∧ la s = st s + 1 ∧ ((∃ t ∈ o, s ∈ rdO rows t) ∨ s ∈ live)
  sl : ∀ s ∈ o, s ∈ aw ∨ la s = 1 ∨ (s ∉ live ∧ ∀ t ∈ o, s ∉ rdO rows t)
  lv : ∀ s ∈ live, s ∈ o
  stn : ∀ s ∈ aw, 0 ≤ st s
theorem idx_take {l : List Str} {s : Str} {j : Nat} (h : s ∈ l.take j) : l.idxOf s < j := by
  have e : l = l.take j ++ l.drop j := (List.take_append_drop j l).symm
  have : l.idxOf s = (l.take j).idxOf s := by
    conv => lhs; rw [e]
    rw [List.idxOf_append, if_pos h]
  rw [this]
  have := List.idxOf_lt_length_of_mem h
  rw [List.length_take] at this; omega
theorem Wt.fr_le (W : Wt rows live aw o st la) {j : Nat} {t s : Str} (e : o[j]? = some t) (h : s ∈ rdO rows t) : frs rows s 0 o ≤ j := by
  have jl := (List.getElem?_eq_some_iff.mp e).1
  rcases Nat.lt_or_ge j (frs rows s 0 o) with c | c
  · exact absurd h ((frs_gt (by omega)).mp c j t e (by omega))
  · exact c
theorem Wt.fr_at (W : Wt rows live aw o st la) {s : Str} (h : frs rows s 0 o < o.length) : ∃ t, o[frs rows s 0 o]? = some t ∧ s ∈ rdO rows t := by
  refine ⟨o[frs rows s 0 o], List.getElem?_eq_getElem h, ?_⟩
  apply Classical.byContradiction
  intro n
  have : frs rows s 0 o < frs rows s 0 o := (frs_gt (by omega)).mpr fun j t e hj m => by
    have a := W.fr_le e m
    have : j = frs rows s 0 o := by omega
    subst this
    rw [List.getElem?_eq_getElem h] at e
    exact n (Option.some.inj e ▸ m)
  omega
theorem Wt.idx_fr (W : Wt rows live aw o st la) {s : Str} (h : s ∈ o) : o.idxOf s < frs rows s 0 o := by
  have le := frs_le (rows := rows) (s := s) (l := o) (p := 0)
  rcases Nat.lt_or_ge (frs rows s 0 o) o.length with c | c
  · obtain ⟨t, e, m⟩ := W.fr_at c
    exact idx_take (W.rd _ _ e _ m)
  · have := List.idxOf_lt_length_of_mem h
    omega
/-- each that is read at p, or live at the end, has come -/
theorem Wt.come (W : Wt rows live aw o st la) {s : Str} {p : Nat} (hs : s ∈ o) (hp : p < o.length) (hi : o.idxOf s < p + 1) (hf : frs rows s 0 o ≤ p + 1) (ha : s ∈ aw ∨ la s = 1) : tkT rows aw o st (o.idxOf s) + la s ≤ tkT rows aw o st (p + 1) := by
  rcases ha with ha | ha
  · obtain ⟨_, e, _⟩ := W.awf s ha
    have i1 := W.idx_fr hs
    obtain ⟨q, hq⟩ : ∃ q, frs rows s 0 o = q + 1 := ⟨frs rows s 0 o - 1, by omega⟩
    have m : tkT rows aw o st (o.idxOf s) + st s + 1 ≤ tkT rows aw o st (q + 1) := by
      rw [tkT_succ]
      refine (mx _ _).2 _ (List.mem_cons_of_mem _ (List.mem_map.mpr ⟨s, List.mem_filter.mpr ⟨ha, decide_eq_true hq⟩, ?_⟩))
      rw [tkL_get (by omega)]
    have k := tkT_mono (rows := rows) (aw := aw) (o := o) (st := st) (i := q + 1) (j := p + 1) (by omega)
    omega
  · have k := tkT_mono (rows := rows) (aw := aw) (o := o) (st := st) (i := o.idxOf s) (j := p + 1) (by omega)
    omega
theorem max_eq {a : Int} {xs ys : List Int} (h1 : ∀ x ∈ xs, x ≤ maxL (a :: ys)) (h2 : ∀ y ∈ ys, y ≤ maxL (a :: xs)) : maxL (a :: xs) = maxL (a :: ys) := by
  obtain ⟨m1, l1⟩ := mx a xs
  obtain ⟨m2, l2⟩ := mx a ys
  apply Int.le_antisymm
  · rcases List.mem_cons.mp m1 with e | m
    · rw [e]; exact l2 a (by simp)
    · exact h1 _ m
  · rcases List.mem_cons.mp m2 with e | m
    · rw [e]; exact l1 a (by simp)
    · exact h2 _ m
structure NwI (rows : List Row) (aw o : List Str) (st la : Str → Int) (p : Nat) : Prop where
  len : (nwL rows o la p).length = p
  at_ : ∀ i, i < p → (nwL rows o la p).getD i 0 = tkT rows aw o st i
  last : (nwL rows o la p).getLastD (-1) + 1 = if p = 0 then 0 else tkT rows aw o st (p - 1) + 1
theorem Wt.now (W : Wt rows live aw o st la) : ∀ p, p ≤ o.length → NwI rows aw o st la p
  | 0, _ => ⟨rfl, by intro i h; omega, rfl⟩
  | p + 1, hp => by
    have N := W.now p (by omega)
    have hlt : p < o.length := by omega
    have eo : o[p]? = some o[p] := List.getElem?_eq_getElem hlt
    have eg : o.getD p "" = o[p] := by rw [List.getD_eq_getElem?_getD, eo]; rfl
    have key : maxL (((nwL rows o la p).getLastD (-1) + 1) :: (rdO rows (o.getD p "")).map fun s => (nwL rows o la p).getD (o.idxOf s) 0 + la s) = tkT rows aw o st p := by
      rw [N.last, eg]
      have rds : ∀ s ∈ rdO rows o[p], s ∈ o ∧ o.idxOf s < p := fun s hs => by
        have := W.rd p _ eo s hs
        exact ⟨List.mem_of_mem_take this, idx_take this⟩
      have em : ((rdO rows o[p]).map fun s => (nwL rows o la p).getD (o.idxOf s) 0 + la s) = (rdO rows o[p]).map fun s => tkT rows aw o st (o.idxOf s) + la s := List.map_congr_left fun s hs => by rw [N.at_ _ (rds s hs).2]
      rw [em]
      cases p with
      | zero =>
        have : rdO rows o[0] = [] := by
          rcases er : rdO rows o[0] with _ | ⟨s, l⟩
          · rfl
          · have := (rds s (by rw [er]; simp)).2
            omega
        rw [this]; rfl
      | succ p =>
        rw [if_neg (by omega), Nat.add_sub_cancel, tkT_succ]
        apply max_eq
        · intro x hx
          obtain ⟨s, hs, rfl⟩ := List.mem_map.mp hx
          obtain ⟨so, si⟩ := rds s hs
          rw [← tkT_succ]
          refine W.come so (by omega) (by omega) (by have := W.fr_le eo hs; omega) ?_
          rcases W.sl s so with h | h | h
          · exact .inl h
          · exact .inr h
          · exact absurd hs (h.2 _ (List.getElem_mem hlt))
        · intro y hy
          obtain ⟨s, hs, rfl⟩ := List.mem_map.mp hy
          obtain ⟨sa, sf⟩ := List.mem_filter.mp hs
          have sf := of_decide_eq_true sf
          obtain ⟨so, e, _⟩ := W.awf s sa
          obtain ⟨t, et, mt⟩ := W.fr_at (s := s) (by rw [sf]; exact hlt)
          rw [sf, eo] at et
          have et := Option.some.inj et
          subst et
          rw [tkL_get (by have := W.idx_fr so; omega)]
          refine (mx _ _).2 _ (List.mem_cons_of_mem _ (List.mem_map.mpr ⟨s, mt, ?_⟩))
          rw [e]; omega
    have es : nwL rows o la (p + 1) = nwL rows o la p ++ [tkT rows aw o st p] := by
      show nwL rows o la p ++ [_] = _
      rw [key]
    refine ⟨by rw [es, List.length_append, N.len]; rfl, fun i hi => ?_, ?_⟩
    · rw [es]
      rcases Nat.lt_or_ge i p with c | c
      · rw [getD_snoc (by rw [N.len]; exact c)]; exact N.at_ i c
      · have : i = p := by omega
        subst this
        have := getD_snoc_eq (l := nwL rows o la i) (x := tkT rows aw o st i) (d := 0)
        rw [N.len] at this; exact this
    · rw [es, last_snoc, if_neg (by omega), Nat.add_sub_cancel]
/-- the end by waits is the end by the machine -/
theorem Wt.end_ (W : Wt rows live aw o st la) (h0 : 0 < o.length) : nwE rows o la live = tkT rows aw o st o.length := by
  have N := W.now o.length (Nat.le_refl _)
  unfold nwE
  rw [N.last, if_neg (by omega)]
  obtain ⟨p, hp⟩ : ∃ p, o.length = p + 1 := ⟨o.length - 1, by omega⟩
  have em : (live.map fun s => (nwL rows o la o.length).getD (o.idxOf s) 0 + la s) = live.map fun s => tkT rows aw o st (o.idxOf s) + la s := List.map_congr_left fun s hs => by rw [N.at_ _ (List.idxOf_lt_length_of_mem (W.lv s hs))]
  rw [em]
  have le := fun s => frs_le (rows := rows) (s := s) (l := o) (p := 0)
  rw [hp, Nat.add_sub_cancel, tkT_succ]
  apply max_eq
  · intro x hx
    obtain ⟨s, hs, rfl⟩ := List.mem_map.mp hx
    have so := W.lv s hs
    have il := List.idxOf_lt_length_of_mem so
    rw [← tkT_succ]
    refine W.come so (by omega) (by omega) (by have := le s; omega) ?_
    rcases W.sl s so with h | h | h
    · exact .inl h
    · exact .inr h
    · exact absurd hs h.1
  · intro y hy
    obtain ⟨s, hs, rfl⟩ := List.mem_map.mp hy
    obtain ⟨sa, sf⟩ := List.mem_filter.mp hs
    have sf := of_decide_eq_true sf
    obtain ⟨so, e, rl⟩ := W.awf s sa
    have lv : s ∈ live := by
      rcases rl with ⟨t, ht, m⟩ | h
      · obtain ⟨j, hj, ej⟩ := List.getElem_of_mem ht
        have := W.fr_le (j := j) (t := t) (by rw [List.getElem?_eq_getElem hj, ej]) m
        omega
      · exact h
    rw [tkL_get (by have := W.idx_fr so; omega)]
    refine (mx _ _).2 _ (List.mem_cons_of_mem _ (List.mem_map.mpr ⟨s, lv, ?_⟩))
    rw [e]; omega
end
end K28
set_option autoImplicit true
set_option Elab.async false
set_option linter.all false
set_option maxRecDepth 100000
set_option maxHeartbeats 600000
namespace K28
open PySem L2 Iv
/-! how rows of sets are ordered -/
def keyP (S : List Str) : PyData := .tuple [.int (S.length : Nat), .tuple (S.map .str)]
def keyT (S : List Str) (E : Int) : PyData := .tuple [.int (S.length : Nat), .tuple (S.map .str), .int E]
abbrev ltD := PySem.W.dataLt
def ltS (a b : List Str) : Bool := ltD (.tuple (a.map .str)) (.tuple (b.map .str))
theorem alike_tup (a b : List Str) : PySem.W.alike (.tuple (a.map .str)) (.tuple (b.map .str)) = true := by
  simp [PySem.W.alike, alike_strs2]
theorem eqv_strs : ∀ a b : List Str, PyData.eqvAll (a.map PyData.str) (b.map PyData.str) = decide (a = b)
  | [], [] => by simp [PyData.eqvAll]
  | [], b :: l => by simp [PyData.eqvAll]
  | a :: l, [] => by simp [PyData.eqvAll]
  | a :: l, b :: m => by
    have := eqv_strs l m
    have hb : (a == b) = decide (a = b) := by rw [Bool.eq_iff_iff, beq_iff_eq, decide_eq_true_iff]
    simp [PyData.eqvAll, PyData.eqv, this, hb]
theorem eqv_tup (a b : List Str) : PyData.eqv (.tuple (a.map .str)) (.tuple (b.map .str)) = decide (a = b) := by
  simp [PyData.eqv, eqv_strs]
theorem lex_nil : PyProof.Rows.lexLt PyProof.Rows.itemOrd (PySem.W.keyToksAll []) (PySem.W.keyToksAll []) = false := by decide +kernel
theorem lt_len {S S' : List Str} (r r' : List PyData) (h : S.length ≠ S'.length) : ltD (.tuple (.int (S.length : Nat) :: r)) (.tuple (.int (S'.length : Nat) :: r')) = decide (S.length < S'.length) := by
  unfold ltD
  rw [PySem.W.dataLt_tuple, PySem.W.dataLt_all_no (by simp [PySem.W.alike]) (by simp [PyData.eqv]; omega), PySem.W.dataLt_int]
  rw [Bool.eq_iff_iff, decide_eq_true_iff, decide_eq_true_iff]; omega
theorem lt_same {S S' : List Str} (r r' : List PyData) (h : S.length = S'.length) (n : S ≠ S') : ltD (.tuple (.int (S.length : Nat) :: .tuple (S.map .str) :: r)) (.tuple (.int (S'.length : Nat) :: .tuple (S'.map .str) :: r')) = ltS S S' := by
  unfold ltD
  rw [PySem.W.dataLt_tuple, PySem.W.dataLt_all_yes (by simp [PySem.W.alike]) (by simp [PyData.eqv]; omega), PySem.W.dataLt_all_no (alike_tup _ _) (by rw [eqv_tup]; exact decide_eq_false n)]
  rfl
theorem lt_self {S : List Str} : ltD (keyP S) (keyP S) = false := by
  unfold ltD keyP
  rw [PySem.W.dataLt_tuple, PySem.W.dataLt_all_yes (by simp [PySem.W.alike]) (by simp [PyData.eqv]), PySem.W.dataLt_all_yes (alike_tup _ _) (by rw [eqv_tup]; exact decide_eq_true rfl), lex_nil]
/-- with an end behind it the order is the same -/
theorem ltP_T {S S' : List Str} {E E' : Int} (h : ltD (keyP S) (keyP S') = true) : ltD (keyT S E) (keyT S' E') = true := by
  by_cases e : S = S'
  · subst e
    rw [lt_self] at h; cases h
  by_cases l : S.length = S'.length
  · unfold keyP at h
    unfold keyT
    rw [lt_same _ _ l e] at h ⊢; exact h
  · unfold keyP at h
    unfold keyT
    rw [lt_len _ _ l] at h ⊢; exact h
theorem ltT_len {S S' : List Str} {E E' : Int} (h : S.length < S'.length) : ltD (keyT S E) (keyT S' E') = true := by
  unfold keyT
  rw [lt_len _ _ (by omega)]; exact decide_eq_true h
theorem ltS_cons {a b : Str} {l m : List Str} : ltS (a :: l) (b :: m) = if a = b then ltS l m else decide (a.cps.toList < b.cps.toList) := by
  unfold ltS ltD
  rw [List.map_cons, List.map_cons, PySem.W.dataLt_tuple]
  by_cases c : a = b
  · rw [if_pos c, PySem.W.dataLt_all_yes (by simp [PySem.W.alike]) (by simp [PyData.eqv, c]), ← PySem.W.dataLt_tuple]
  · rw [if_neg c, PySem.W.dataLt_all_no (by simp [PySem.W.alike]) (by simp [PyData.eqv, c]), PySem.W.dataLt_str]
theorem ltS_anti : ∀ {a b : List Str}, a.length = b.length → ltS a b = false → ltS b a = false → a = b
  | [], [], _, _, _ => rfl
  | [], _ :: _, h, _, _ => by simp at h
  | _ :: _, [], h, _, _ => by simp at h
  | a :: l, b :: m, h, h1, h2 => by
    rw [ltS_cons] at h1 h2
    by_cases c : a = b
    · rw [if_pos c] at h1
      rw [if_pos c.symm] at h2
      rw [c, ltS_anti (by simpa using h) h1 h2]
    · rw [if_neg c] at h1
      rw [if_neg (Ne.symm c)] at h2
      have e1 : leS b a = true := by rw [leS_eq, h1]; rfl
      have e2 : leS a b = true := by rw [leS_eq, h2]; rfl
      exact absurd (leS_anti a b e2 e1) c
theorem keyP_anti {S S' : List Str} (h1 : ltD (keyP S) (keyP S') = false) (h2 : ltD (keyP S') (keyP S) = false) : S = S' := by
  apply Classical.byContradiction
  intro e
  by_cases l : S.length = S'.length
  · unfold keyP at h1 h2
    rw [lt_same _ _ l e] at h1
    rw [lt_same _ _ l.symm (Ne.symm e)] at h2
    exact e (ltS_anti l h1 h2)
  · unfold keyP at h1 h2
    rw [lt_len _ _ l] at h1
    rw [lt_len _ _ (Ne.symm l)] at h2
    have h1 := of_decide_eq_false h1
    have h2 := of_decide_eq_false h2
    omega
theorem ltD_trans {a b c : PyData} (h1 : ltD b a = false) (h2 : ltD c b = false) : ltD c a = false := by
  have t := (PySem.W.sortLe_total (PyProof.Rows.listOrd PyProof.Rows.itemOrd) false fun b : PyData => PySem.W.keyToks b).trans a b c
  have e : ∀ x y : PyData, PySem.W.dataLe false (fun z => z) x y = !ltD y x := fun _ _ => rfl
  have := t (by show (!ltD b a) = true; rw [h1]; rfl) (by show (!ltD c b) = true; rw [h2]; rfl)
  have : (!ltD c a) = true := this
  simpa using this
theorem ltD_asym {a b : PyData} (h : ltD a b = true) : ltD b a = false := by
  have t := (PySem.W.sortLe_total (PyProof.Rows.listOrd PyProof.Rows.itemOrd) false fun b : PyData => PySem.W.keyToks b).total a b
  rcases t with t | t
  · have : (!ltD b a) = true := t
    simpa using this
  · have : (!ltD a b) = true := t
    rw [h] at this; cases this
theorem ltD_irr {a : PyData} : ltD a a = false := by
  cases h : ltD a a with
  | false => rfl
  | true => rw [ltD_asym h] at h; cases h
theorem minD_le : ∀ (l : List PyData) (x : PyData), ∀ y ∈ x :: l, ltD y (PySem.W.minD x l) = false
  | [], x, y, h => by
    have : y = x := by simpa using h
    subst this; exact ltD_irr
  | z :: l, x, y, h => by
    show ltD y (PySem.W.minD (if PySem.W.dataLt z x = true then z else x) l) = false
    have ih := minD_le l (if PySem.W.dataLt z x = true then z else x)
    rcases List.mem_cons.mp h with rfl | h
    · refine ltD_trans (ih (if PySem.W.dataLt z y = true then z else y) (by simp)) ?_
      by_cases c : PySem.W.dataLt z y = true
      · rw [if_pos c]; exact ltD_asym c
      · rw [if_neg c]; exact ltD_irr
    · rcases List.mem_cons.mp h with rfl | h
      · refine ltD_trans (ih (if PySem.W.dataLt y x = true then y else x) (by simp)) ?_
        by_cases c : PySem.W.dataLt y x = true
        · rw [if_pos c]; exact ltD_irr
        · rw [if_neg c]; simpa using c
      · exact ih y (by simp [h])
/-! sets of names -/
def setsP (l : List Str) : List (List Str) := l.foldl (fun acc nm => acc ++ acc.map (· ++ [nm])) [[]]
theorem setsP_snoc (l : List Str) (x : Str) : setsP (l ++ [x]) = setsP l ++ (setsP l).map (· ++ [x]) := by
  unfold setsP
  rw [List.foldl_append]; rfl
theorem snoc_ind {α : Type} {P : List α → Prop} (h0 : P []) (h1 : ∀ l x, P l → P (l ++ [x])) (l : List α) : P l := by
  rw [← List.reverse_reverse l]
  induction l.reverse with
  | nil => exact h0
  | cons a t ih => rw [List.reverse_cons]; exact h1 _ _ ih
theorem setsP_len : ∀ l : List Str, (setsP l).length = 2 ^ l.length := by
  intro l
  induction l using snoc_ind with
  | h0 => rfl
  | h1 l x ih =>
    rw [setsP_snoc, List.length_append, List.length_map, ih, List.length_append]
    show _ = 2 ^ (l.length + 1)
    rw [Nat.pow_succ]; omega
theorem setsP_mem (l : List Str) : ∀ S, S ∈ setsP l ↔ S.Sublist l := by
  induction l using snoc_ind with
  | h0 =>
    intro S
    show S ∈ [[]] ↔ _
    rw [List.mem_singleton, List.sublist_nil]
  | h1 l x ih =>
    intro S
    rw [setsP_snoc, List.mem_append, List.mem_map]
    constructor
    · rintro (h | ⟨T, h, rfl⟩)
      · exact ((ih S).mp h).trans (List.sublist_append_left _ _)
      · exact ((ih T).mp h).append (List.Sublist.refl _)
    · intro h
      obtain ⟨a, b, rfl, ha, hb⟩ := List.sublist_append_iff.mp h
      cases hb with
      | cons _ hb =>
        have := List.sublist_nil.mp hb
        subst this
        left; rw [List.append_nil]; exact (ih a).mpr ha
      | cons_cons _ hb =>
        have := List.sublist_nil.mp hb
        subst this
        right; exact ⟨a, (ih a).mpr ha, rfl⟩
end K28
set_option autoImplicit true
set_option Elab.async false
set_option linter.all false
set_option maxRecDepth 100000
set_option maxHeartbeats 800000
namespace K28
open PySem L2 Iv
def slowL (rows : List Row) : List Str := (rows.filter Row.slow).map Row.name
def latV (rows : List Row) (L : Str → Int) : IV := .tup ((slowL rows).map fun s => .tup [.str s, .int (L s)])
theorem slow_sub {rows : List Row} : ∀ s ∈ slowL rows, s ∈ rows.map Row.name := fun s hs => by
  obtain ⟨r, hr, rfl⟩ := List.mem_map.mp hs
  exact List.mem_map.mpr ⟨r, (List.mem_filter.mp hr).1, rfl⟩
theorem slow_nd {rows : List Row} (n : (rows.map Row.name).Nodup) : (slowL rows).Nodup := List.Nodup.sublist (List.Sublist.map _ List.filter_sublist) n
theorem slow_len {rows : List Row} : (slowL rows).length ≤ rows.length := by
  unfold slowL
  rw [List.length_map]; exact List.length_filter_le _ _
theorem aw_slow {rows : List Row} {live : List Str} {s : Str} (h : s ∈ awL rows live) : s ∈ slowL rows := by
  obtain ⟨r, hr, rfl⟩ := List.mem_map.mp h
  obtain ⟨h1, h2⟩ := List.mem_filter.mp hr
  unfold awB at h2
  rw [Bool.and_eq_true] at h2
  exact List.mem_map.mpr ⟨r, List.mem_filter.mpr ⟨h1, h2.1⟩, rfl⟩
theorem lat_pd {rows : List Row} {L : Str → Int} (hl : rows.length ≤ 8) (k : Nat) : Pd (k + 3) (latV rows L) := by
  refine ⟨by rw [List.length_map]; have := slow_len (rows := rows); omega, fun y hy => ?_⟩
  obtain ⟨s, _, rfl⟩ := List.mem_map.mp hy
  refine ⟨by show 2 < 100000; omega, fun y hy => ?_⟩
  rcases List.mem_cons.mp hy with rfl | hy
  · exact rfl
  · rw [List.mem_singleton.mp hy]; exact rfl
theorem stalls_ok {h : IH} {rows : List Row} {L : Str → Int} (G : Good8 rows) : Ok (F_stalls_in [latV rows L]) h fun v h' => (∃ n, v = .ref n ∧ h'[n]? = some (.dic (kvN id (fun s => .int (L s - 1)) (slowL rows)))) ∧ Gr h h' := by
  have hl := G.hl
  have sl := slow_len (rows := rows)
  obtain ⟨w, h1, q1, rfl, g1⟩ := tupled_self (h := h) (lat_pd (L := L) hl 13)
  have qd := dcE_names (k := LN) (src := Iter (CallF 1 (F_tupled 16) (Cons (Var 0) Nil))) (s := SItems ((slowL rows).map fun s => .tup [.str s, .int (L s)])) (p := .t [1, 2]) (kx := Var 1) (el := Bin subI (Var 2) (Cst (.int 1))) (vs := [1, 2]) (env := [some (latV rows L), none, none]) (h := h) (h1 := h1) (item := fun _ (s : Str) => IV.tup [.str s, .int (L s)]) (key := id) (val := fun s => IV.int (L s - 1)) (slowL rows)
    (iter_ok (x := latV rows L) (callF_ok (one_ok (x := latV rows L) rfl) rfl q1) rfl) (LN_ok (by omega)) (by omega) (by rw [List.map_id]; exact slow_nd G.nd)
    (fun kvs i => by show some ((slowL rows).map _)[i]? = _; rw [List.getElem?_map])
    (fun i s e => ⟨_, rfl, fun kvs => ⟨rfl, bin_ok (x := .int (L s)) (y := .int 1) rfl rfl rfl⟩⟩)
  exact ⟨_, _, fn_rt (ret_ok qd), ⟨_, rfl, push_len⟩, g1.trans (Gr.push _ _)⟩
/-! ends by waits -/
theorem max_lst {h : IH} {n : Nat} {x : Int} {xs : List Int} (e : h[n]? = some (.lst ((x :: xs).map .int))) : maxI [.ref n] h = some (.ok (.int (maxL (x :: xs))), h) := by
  show (match (lstI h (.ref n)).bind ints? with
    | some ns => (max1 ns).map fun y => (Out.ok y, h)
    | none => none) = _
  rw [lst_lst e, Option.bind_some, ints_map]
  rfl
theorem tk_snoc {rows : List Row} {aw o : List Str} {st : Str → Int} (i : Nat) : ∃ l, tkL rows aw o st i = l ++ [tkT rows aw o st i] := by
  cases i with
  | zero => exact ⟨[], rfl⟩
  | succ p =>
    refine ⟨tkL rows aw o st p, ?_⟩
    show tkL rows aw o st p ++ [_] = tkL rows aw o st p ++ [(tkL rows aw o st p ++ [_]).getLastD 0]
    rw [last_snoc]
def endB : Iv.Env → M Fl := SeqS (lockM 1 (AsgS (LcE LN (Iter (Var 1)) (.n 6) (Tst (Bin eqI (Bin ixM (Bin ixM (Var 1) (Var 6)) (Cst (.int 1))) (Var 4))) (Bin addI (Bin addI (Bin ixM (Var 3) (Bin ixM (Bin ixM (Var 1) (Var 6)) (Cst (.int 0)))) (Bin ixM (Var 2) (Var 6))) (Cst (.int 1))) [6]) (TgN 5)))
    (DropS (Mth chkL appM (Var 3) (Cons (CallB maxI (Cons (Bin addI (Lst (Cons (Bin addI (Bin ixM (Var 3) (Un negI (Cst (.int 1)))) (Cst (.int 1))) Nil)) (Var 5)) Nil)) Nil)))
def atI' (rows : List Row) (o : List Str) (p : Nat) : IV → Bool
  | .str s => decide (frs rows s 0 o = p)
  | _ => false
def coI (o : List Str) (st : Str → Int) (tk : List Int) : IV → IV
  | .str s => .int (tk.getD (o.idxOf s) 0 + st s + 1)
  | x => x
theorem end_by_ok {h : IH} {rows : List Row} {aw o : List Str} {st : Str → Int} {W D : Nat} (hW : h[W]? = some (.dic (kvN id (wtV rows o) aw))) (hD : h[D]? = some (.dic (kvN id (fun s => .int (st s)) aw))) (nd : aw.Nodup) (al : aw.length ≤ 8) (ol : o.length ≤ 8) (hi : ∀ s ∈ aw, o.idxOf s < frs rows s 0 o) :
    Ok (F_end_by [.int (o.length : Nat), .ref W, .ref D]) h fun v h' => v = .int (tkT rows aw o st o.length) ∧ Gr h h' := by
  have wl := (List.getElem?_eq_some_iff.mp hW).1
  have dl := (List.getElem?_eq_some_iff.mp hD).1
  have hWD : W ≠ D ∨ aw = [] := by
    by_cases c : W = D
    · right
      subst c
      rw [hW] at hD
      cases aw with
      | nil => rfl
      | cons a l =>
        exfalso
        have := Option.some.inj hD
        injection this with e
        unfold kvN at e
        rw [List.map_cons, List.map_cons] at e
        injection e with e1 _
        injection e1 with _ e2
        unfold wtV at e2
        cases e2
    · exact .inl c
  have kk : (kvN id (wtV rows o) aw).map (·.1) = aw.map .inr := by rw [kvN_keys, List.map_id]
  let env0 : Iv.Env := [some (.int (o.length : Nat)), some (.ref W), some (.ref D), some (.ref h.length), none, none, none]
  obtain ⟨f, h2, q2, env2, rfl, o4, o5, rfl, g2, e2⟩ := forS_ok (src := IterA rng2 (Cons (Cst (.int 1)) (Cons (Bin addI (Var 0) (Cst (.int 1))) Nil))) (s := SRange 1 o.length) (t := TgN 4) (b := endB)
    (n := o.length) (k := LN) (env := env0) (h := h ++ [.lst [.int 0]]) (h1 := h ++ [.lst [.int 0]])
    (fun i env h' => ∃ o4 o5, env = [some (.int (o.length : Nat)), some (.ref W), some (.ref D), some (.ref h.length), o4, o5, none] ∧ Gr h h' ∧ h'[h.length]? = some (.lst ((tkL rows aw o st i).map .int)))
    (by
      refine iterA_ok (two_ok (x := .int 1) (y := .int ((o.length : Nat) + 1)) rfl rfl) ?_
      show (if (-rngLim ≤ (1 : Int) ∧ (1 : Int) < rngLim) ∧ -rngLim ≤ ((o.length : Nat) : Int) + 1 ∧ ((o.length : Nat) : Int) + 1 < rngLim then M.pure (SRange 1 (((o.length : Nat) : Int) + 1 - 1).toNat) else stuck) _ = _
      rw [if_pos ⟨rngs (by omega) (by omega), rngs (by omega) (by omega)⟩, show (((o.length : Nat) : Int) + 1 - 1).toNat = o.length by omega]; rfl)
    (LN_ok (by omega)) ⟨none, none, rfl, Gr.push _ _, push_len⟩
    (by
      rintro i env h' hi' ⟨o4, o5, rfl, g, e⟩
      have hW' := g _ _ hW
      have hD' := g _ _ hD
      have tl := tkL_len (rows := rows) (aw := aw) (o := o) (st := st) i
      have wl' := (List.getElem?_eq_some_iff.mp hW').1
      have el' := (List.getElem?_eq_some_iff.mp e).1
      let cs : List Int := (aw.filter fun s => decide (frs rows s 0 o = i + 1)).map fun s => (tkL rows aw o st i).getD (o.idxOf s) 0 + st s + 1
      let envA : Iv.Env := [some (.int (o.length : Nat)), some (.ref W), some (.ref D), some (.ref h.length), some (.int (1 + i)), o5, none]
      have lk : Ok (lockM 1 (AsgS (LcE LN (Iter (Var 1)) (.n 6) (Tst (Bin eqI (Bin ixM (Bin ixM (Var 1) (Var 6)) (Cst (.int 1))) (Var 4))) (Bin addI (Bin addI (Bin ixM (Var 3) (Bin ixM (Bin ixM (Var 1) (Var 6)) (Cst (.int 0)))) (Bin ixM (Var 2) (Var 6))) (Cst (.int 1))) [6]) (TgN 5)) envA) h' fun f h4 => f = .nx [some (.int (o.length : Nat)), some (.ref W), some (.ref D), some (.ref h.length), some (.int (1 + i)), some (.ref h'.length), none] ∧ Gr h' h4 ∧ h4[h'.length]? = some (.lst (cs.map .int)) := by
        refine lock_ok (n := W) rfl hW' ?_
        have eL : (h'.set W (.fdc (kvN id (wtV rows o) aw)))[W]? = some (.fdc (kvN id (wtV rows o) aw)) := List.getElem?_set_self wl'
        have eD : aw ≠ [] → (h'.set W (.fdc (kvN id (wtV rows o) aw)))[D]? = some (.dic (kvN id (fun s => .int (st s)) aw)) := fun ne => by
          rw [List.getElem?_set_ne (hWD.resolve_right ne)]; exact hD'
        have eT : (h'.set W (.fdc (kvN id (wtV rows o) aw)))[h.length]? = some (.lst ((tkL rows aw o st i).map .int)) := by rw [List.getElem?_set_ne (by omega)]; exact e
        have ln : (h'.set W (.fdc (kvN id (wtV rows o) aw))).length = h'.length := List.length_set
        generalize eg : h'.set W (.fdc (kvN id (wtV rows o) aw)) = hL at *
        have q := lcE_pure (k := LN) (src := Iter (Var 1)) (s := SKeys W) (p := .n 6) (c := Tst (Bin eqI (Bin ixM (Bin ixM (Var 1) (Var 6)) (Cst (.int 1))) (Var 4))) (el := Bin addI (Bin addI (Bin ixM (Var 3) (Bin ixM (Bin ixM (Var 1) (Var 6)) (Cst (.int 0)))) (Bin ixM (Var 2) (Var 6))) (Cst (.int 1))) (vs := [6]) (env := envA) (h := hL) (h1 := hL) (aw.map .str) (atI' rows o (i + 1)) (coI o st (tkL rows aw o st i))
          (iter_ok (x := .ref W) rfl (src_fdc eL)) (LN_ok (by rw [List.length_map]; omega)) (by rw [List.length_map]; omega)
          (fun acc j => by rw [skeys (Gr.push _ _ _ _ eL) kk]; simp only [List.getElem?_map])
          (fun x hx => by
            obtain ⟨s, hs, rfl⟩ := List.mem_map.mp hx
            have ne : aw ≠ [] := List.ne_nil_of_mem hs
            refine ⟨_, rfl, fun acc => ?_⟩
            have ev : valI (kvN id (wtV rows o) aw) (.inr s) = some (wtV rows o s) := kvN_val (key := id) (a := s) (by rw [List.map_id]; exact nd) hs
            have es : valI (kvN id (fun s => IV.int (st s)) aw) (.inr s) = some (.int (st s)) := kvN_val (key := id) (a := s) (by rw [List.map_id]; exact nd) hs
            let envE : Iv.Env := [some (.int (o.length : Nat)), some (.ref W), some (.ref D), some (.ref h.length), some (.int (1 + i)), o5, some (.str s)]
            let hA : IH := hL ++ [.lst acc]
            have ix : Bin ixM (Var 1) (Var 6) envE hA = some (.ok (wtV rows o s), hA) := bin_ok (x := .ref W) (y := .str s) rfl rfl (ix_fdc (Gr.push _ _ _ _ eL) rfl ev)
            have a0 : Bin ixM (Bin ixM (Var 1) (Var 6)) (Cst (.int 0)) envE hA = some (.ok (.int (o.idxOf s : Nat)), hA) := bin_ok (x := wtV rows o s) (y := .int 0) ix rfl (ix_tup rfl)
            have a1 : Bin ixM (Bin ixM (Var 1) (Var 6)) (Cst (.int 1)) envE hA = some (.ok (.int (frs rows s 0 o : Nat)), hA) := bin_ok (x := wtV rows o s) (y := .int 1) ix rfl (ix_tup rfl)
            have a2 : Bin ixM (Var 2) (Var 6) envE hA = some (.ok (.int (st s)), hA) := bin_ok (x := .ref D) (y := .str s) rfl rfl (ix_dic (Gr.push _ _ _ _ (eD ne)) rfl es)
            refine ⟨tst_ok ((bin_ok (x := .int (frs rows s 0 o : Nat)) (y := .int (1 + i)) a1 rfl eqI_int).trans ?_), fun hf => ?_⟩
            · show _ = some (Out.ok (IV.bl (decide (frs rows s 0 o = i + 1))), _)
              have : decide (((frs rows s 0 o : Nat) : Int) = 1 + i) = decide (frs rows s 0 o = i + 1) := by
                rw [Bool.eq_iff_iff, decide_eq_true_iff, decide_eq_true_iff]; omega
              rw [this]
            · have hf : frs rows s 0 o = i + 1 := of_decide_eq_true hf
              have lt := hi s hs
              have it : (tkL rows aw o st i)[o.idxOf s]? = some ((tkL rows aw o st i).getD (o.idxOf s) 0) := by
                rw [List.getD_eq_getElem?_getD, List.getElem?_eq_getElem (by omega)]; rfl
              have a3 : Bin ixM (Var 3) (Bin ixM (Bin ixM (Var 1) (Var 6)) (Cst (.int 0))) envE hA = some (.ok (.int ((tkL rows aw o st i).getD (o.idxOf s) 0)), hA) := bin_ok (x := .ref h.length) (y := .int (o.idxOf s : Nat)) rfl a0 (ix_lst (Gr.push _ _ _ _ eT) (by
                rw [atI_nn (by omega) (by rw [List.length_map]; omega), Int.toNat_natCast, List.getElem?_map, it]; rfl))
              exact bin_ok (bin_ok a3 a2 rfl) (y := .int 1) rfl rfl)
        have ef : ((aw.map IV.str).filter (atI' rows o (i + 1))).map (coI o st (tkL rows aw o st i)) = cs.map .int := by
          rw [List.filter_map, List.map_map, List.map_map]
          rfl
        rw [ef] at q
        refine ⟨_, _, asg_ok q, Gr.push _ _ _ _ eL, by rw [ln]; rfl, lock_gr hW' (by rw [eg]; exact Gr.push _ _), ?_⟩
        rw [List.getElem?_set_ne (by omega), ← ln]; exact push_len
      obtain ⟨f, h4, q4, rfl, g4, e4⟩ := lk
      have eT := g4 _ _ e
      have last : (tkL rows aw o st i)[i]? = some (tkT rows aw o st i) := by
        have := tkL_get (rows := rows) (aw := aw) (o := o) (st := st) (p := i) (i := i) (Nat.le_refl _)
        rw [List.getD_eq_getElem?_getD, List.getElem?_eq_getElem (by omega)] at this
        rw [List.getElem?_eq_getElem (by omega)]
        exact congrArg some this
      let envB : Iv.Env := [some (.int (o.length : Nat)), some (.ref W), some (.ref D), some (.ref h.length), some (.int (1 + i)), some (.ref h'.length), none]
      have qL : Bin ixM (Var 3) (Un negI (Cst (.int 1))) envB h4 = some (.ok (.int (tkT rows aw o st i)), h4) := bin_ok (x := .ref h.length) (y := .int (-1)) rfl rfl (ix_lst eT (by
        obtain ⟨l, el⟩ := tk_snoc (rows := rows) (aw := aw) (o := o) (st := st) i
        rw [el, List.map_append, List.map_cons, List.map_nil]
        exact Iv.atI_last))
      have k1 := mkL_ok (xs := [.int (tkT rows aw o st i + 1)]) (h := h4) (by show 1 ≤ 100000; omega)
      have cl : cs.length ≤ 8 := by
        show (List.map _ _).length ≤ 8
        rw [List.length_map]
        have := List.length_filter_le (fun s => decide (frs rows s 0 o = i + 1)) aw
        omega
      have k2 := addI_lst (h := h4 ++ [.lst [.int (tkT rows aw o st i + 1)]]) (m := h4.length) (n := h'.length) (xs := [.int (tkT rows aw o st i + 1)]) (ys := cs.map .int) push_len (Gr.push _ _ _ _ e4) (by rw [List.length_map]; show 1 + cs.length ≤ 100000; omega)
      have eT5 : ((h4 ++ [Iv.IO.lst [.int (tkT rows aw o st i + 1)]]) ++ [Iv.IO.lst ([.int (tkT rows aw o st i + 1)] ++ cs.map .int)])[h.length]? = some (.lst ((tkL rows aw o st i).map .int)) := Gr.push _ _ _ _ (Gr.push _ _ _ _ eT)
      have mm := max_lst (h := (h4 ++ [Iv.IO.lst [.int (tkT rows aw o st i + 1)]]) ++ [Iv.IO.lst ([.int (tkT rows aw o st i + 1)] ++ cs.map .int)]) (n := (h4 ++ [Iv.IO.lst [.int (tkT rows aw o st i + 1)]]).length) (x := tkT rows aw o st i + 1) (xs := cs) push_len
      have qm : CallB maxI (Cons (Bin addI (Lst (Cons (Bin addI (Bin ixM (Var 3) (Un negI (Cst (.int 1)))) (Cst (.int 1))) Nil)) (Var 5)) Nil) envB h4 = _ := callB_ok (one_ok (bin_ok (x := .ref h4.length) (y := .ref h'.length) (lst_ok2 (one_ok (bin_ok (x := .int (tkT rows aw o st i)) (y := .int 1) qL rfl rfl)) k1) rfl k2)) mm
      have qd : DropS (Mth chkL appM (Var 3) (Cons (CallB maxI (Cons (Bin addI (Lst (Cons (Bin addI (Bin ixM (Var 3) (Un negI (Cst (.int 1)))) (Cst (.int 1))) Nil)) (Var 5)) Nil)) Nil)) envB h4 = some (.ok (.nx envB), ((h4 ++ [Iv.IO.lst [.int (tkT rows aw o st i + 1)]]) ++ [Iv.IO.lst ([.int (tkT rows aw o st i + 1)] ++ cs.map .int)]).set h.length (.lst ((tkL rows aw o st i).map .int ++ [.int (maxL ((tkT rows aw o st i + 1) :: cs))]))) :=
        drop_ok (x := .non) (mth_ok (x := .ref h.length) rfl (chk_lst eT) (one_ok qm) (app_lst eT5 (by rw [List.length_map]; omega)))
      refine ⟨.int (1 + i), by unfold SRange; rw [if_pos hi'], _, _, (bind_ok (x := envA) (h1 := h') rfl).trans ((seq_nx q4).trans qd), _, .inl rfl, some (.int (1 + i)), some (.ref h'.length), rfl, gr_setd (((g.trans g4).trans (Gr.push _ _)).trans (Gr.push _ _)), ?_⟩
      rw [List.getElem?_set_self (List.getElem?_eq_some_iff.mp eT5).1]
      show _ = some (Iv.IO.lst ((tkL rows aw o st i ++ [_]).map .int))
      rw [List.map_append]; rfl)
    (by
      rintro env h' ⟨o4, o5, rfl, g, e⟩
      unfold SRange
      rw [if_neg (Nat.lt_irrefl _)])
  have tl := tkL_len (rows := rows) (aw := aw) (o := o) (st := st) o.length
  obtain ⟨l, el⟩ := tk_snoc (rows := rows) (aw := aw) (o := o) (st := st) o.length
  have tail : SeqS (ForS LN (IterA rng2 (Cons (Cst (.int 1)) (Cons (Bin addI (Var 0) (Cst (.int 1))) Nil))) (TgN 4) endB) (RetS (Bin ixM (Var 3) (Un negI (Cst (.int 1))))) env0 (h ++ [Iv.IO.lst [.int 0]]) = some (.ok (.rt (.int (tkT rows aw o st o.length))), h2) := (seq_nx q2).trans (ret_ok (bin_ok (x := .ref h.length) (y := .int (-1)) rfl rfl (ix_lst e2 (by
    rw [el, List.map_append, List.map_cons, List.map_nil]
    exact Iv.atI_last))))
  have first : AsgS (Lst (Cons (Cst (.int 0)) Nil)) (TgN 3) [some (.int (o.length : Nat)), some (.ref W), some (.ref D), none, none, none, none] h = some (.ok (.nx env0), h ++ [Iv.IO.lst [.int 0]]) := asg_ok (x := .ref h.length) (lst_ok2 (xs := [.int 0]) rfl (mkL_ok (by show 1 ≤ 100000; omega)))
  exact ⟨_, h2, fn_rt ((seq_nx first).trans tail), rfl, g2⟩
end K28
set_option autoImplicit true
set_option Elab.async false
set_option linter.all false
set_option maxRecDepth 100000
set_option maxHeartbeats 600000
namespace K28
open PySem L2 Iv
/-! all sets of names -/
def tupS (S : List Str) : IV := .tup (S.map .str)
theorem slive {h : IH} {n i : Nat} {xs : List IV} (e : h[n]? = some (.lst xs)) : SLive n h i = some xs[i]? := by
  unfold SLive
  simp only [e]
def setB : Iv.Env → M Fl := AsgS (Bin addI (Var 1) (LcE LN (Iter (Var 1)) (.n 3) YesT (Bin addI (Var 3) (Tup (Cons (Var 2) Nil))) [3])) (TgN 1)
theorem setsP_take {l : List Str} {i : Nat} (hi : i < l.length) : setsP (l.take (i + 1)) = setsP (l.take i) ++ (setsP (l.take i)).map (· ++ [l[i]]) := by
  rw [List.take_succ, List.getElem?_eq_getElem hi]
  exact setsP_snoc _ _
theorem setsP_lens {l S : List Str} (h : S ∈ setsP l) : S.length ≤ l.length := ((setsP_mem l S).mp h).length_le
theorem sets_loop {h : IH} {s : Src} {v : IV} {l : List Str} (e0 : srcI v (h ++ [.lst [tupS []]]) = some (.ok s, h ++ [.lst [tupS []]])) (hs : ∀ h', Gr h h' → ∀ i, s h' i = some (l[i]?.map .str)) (hl : l.length ≤ 8) :
    Ok (ForS LN (Iter (Var 0)) (TgN 2) setB [some v, some (.ref h.length), none, none]) (h ++ [.lst [tupS []]]) fun f h' => ∃ m o2, f = .nx [some v, some (.ref m), o2, none] ∧ h'[m]? = some (.lst ((setsP l).map tupS)) ∧ Gr h h' := by
  have pow : ∀ n, n ≤ 8 → 2 ^ n ≤ 256 := fun n hn => by
    have := Nat.pow_le_pow_right (n := 2) (by omega) hn
    omega
  obtain ⟨f, h2, q, env2, rfl, m, o2, rfl, e2, g2⟩ := forS_ok (src := Iter (Var 0)) (s := s) (t := TgN 2) (b := setB) (n := l.length) (k := LN) (env := [some v, some (.ref h.length), none, none]) (h := h ++ [.lst [tupS []]]) (h1 := h ++ [.lst [tupS []]])
    (fun i env h' => ∃ m o2, env = [some v, some (.ref m), o2, none] ∧ h'[m]? = some (.lst ((setsP (l.take i)).map tupS)) ∧ Gr h h')
    (iter_ok (x := v) rfl e0) (LN_ok (by omega)) ⟨h.length, none, rfl, push_len, Gr.push _ _⟩
    (by
      rintro i env h' hi ⟨m, o2, rfl, e, g⟩
      have ln := setsP_len (l.take i)
      rw [List.length_take, Nat.min_eq_left (by omega)] at ln
      have pw := pow i (by omega)
      let env1 : Iv.Env := [some v, some (.ref m), some (.str l[i]), none]
      have q := lcE_pure (k := LN) (src := Iter (Var 1)) (s := SLive m) (p := .n 3) (c := YesT) (el := Bin addI (Var 3) (Tup (Cons (Var 2) Nil))) (vs := [3]) (env := env1) (h := h') (h1 := h') ((setsP (l.take i)).map tupS) (fun _ => true)
        (fun x => match x with | .tup xs => .tup (xs ++ [.str l[i]]) | y => y)
        (iter_ok (x := .ref m) rfl (src_lst e)) (LN_ok (by rw [List.length_map]; omega)) (by rw [List.length_map]; omega)
        (fun acc j => slive (Gr.push _ _ _ _ e))
        (fun x hx => by
          obtain ⟨S, hS, rfl⟩ := List.mem_map.mp hx
          refine ⟨_, rfl, fun acc => ⟨rfl, fun _ => ?_⟩⟩
          have sl := setsP_lens hS
          rw [List.length_take] at sl
          exact bin_ok (x := tupS S) (y := .tup [.str l[i]]) rfl (tup_ok (one_ok (x := .str l[i]) rfl) (by show 1 ≤ 100000; omega)) (addI_tup (by rw [List.length_map]; show S.length + 1 ≤ 100000; omega)))
      have ef : (((setsP (l.take i)).map tupS).filter fun _ => true).map (fun x => match x with | .tup xs => IV.tup (xs ++ [.str l[i]]) | y => y) = ((setsP (l.take i)).map (· ++ [l[i]])).map tupS := by
        rw [List.filter_eq_self.mpr (fun _ _ => rfl), List.map_map, List.map_map]
        refine List.map_congr_left fun S _ => ?_
        show IV.tup (S.map .str ++ [.str l[i]]) = IV.tup ((S ++ [l[i]]).map .str)
        rw [List.map_append]; rfl
      rw [ef] at q
      have qa := addI_lst (h := h' ++ [.lst (((setsP (l.take i)).map (· ++ [l[i]])).map tupS)]) (m := m) (n := h'.length) (Gr.push _ _ _ _ e) push_len (by simp only [List.length_map]; omega)
      have q1 : setB env1 h' = _ := asg_ok (i := 1) (bin_ok (x := .ref m) (y := .ref h'.length) rfl q qa)
      refine ⟨.str l[i], by rw [hs _ g, List.getElem?_eq_getElem hi]; rfl, _, _, (bind_ok (x := env1) (h1 := h') rfl).trans q1, _, .inl rfl, _, _, rfl, ?_, (g.trans (Gr.push _ _)).trans (Gr.push _ _)⟩
      rw [setsP_take hi, List.map_append]
      exact push_len)
    (by
      rintro env h' ⟨m, o2, rfl, e, g⟩
      rw [hs _ g, List.getElem?_eq_none (Nat.le_refl _)]; rfl)
  rw [List.take_length] at e2
  exact ⟨_, h2, q, m, o2, rfl, e2, g2⟩
theorem sets_first {h : IH} {v : IV} : AsgS (Lst (Cons (Tup Nil) Nil)) (TgN 1) [some v, none, none, none] h = some (.ok (.nx [some v, some (.ref h.length), none, none]), h ++ [.lst [tupS []]]) :=
  asg_ok (i := 1) (x := .ref h.length) (lst_ok2 (xs := [tupS []]) (one_ok (x := tupS []) (tup_ok (xs := []) rfl (by show 0 ≤ 100000; omega))) (mkL_ok (by show 1 ≤ 100000; omega)))
theorem all_sets_ok {h : IH} {n : Nat} {l : List Str} (e : h[n]? = some (.lst (l.map .str))) (hl : l.length ≤ 8) : Ok (F__all_sets [.ref n]) h fun v h' => ∃ m, v = .ref m ∧ h'[m]? = some (.lst ((setsP l).map tupS)) ∧ Gr h h' := by
  obtain ⟨f, h2, q, m, o2, rfl, e2, g2⟩ := sets_loop (h := h) (s := SLive n) (v := .ref n) (l := l) (src_lst (Gr.push _ _ _ _ e)) (fun h' g i => by rw [slive (g _ _ e), List.getElem?_map]) hl
  exact ⟨_, h2, fn_rt ((seq_nx sets_first).trans ((seq_nx q).trans (ret_ok (x := .ref m) rfl))), m, rfl, e2, g2⟩
/-! and sorted -/
theorem enc_tupS (k : Nat) (S : List Str) {h : IH} : encH h (k + 2) (tupS S) = some (.tuple (S.map .str)) := by
  show ((S.map IV.str).mapM (encH h (k + 1))).map PyData.tuple = _
  rw [enc_strs]; rfl
theorem enc_tups (k : Nat) {h : IH} : ∀ Ss : List (List Str), (Ss.map tupS).mapM (encH h (k + 2)) = some (Ss.map fun S => .tuple (S.map .str))
  | [] => rfl
  | S :: Ss => by
    rw [List.map_cons, List.mapM_cons, enc_tupS, enc_tups k Ss]; rfl
end K28
set_option autoImplicit true
set_option Elab.async false
set_option linter.all false
set_option maxRecDepth 100000
set_option maxHeartbeats 800000
namespace K28
open PySem L2 Iv
/-! the least of rows of sets -/
def rowS (S : List Str) : IV := .tup [.int (S.length : Nat), tupS S]
theorem pures_all : ∀ {xs : List IV}, (∀ x ∈ xs, pureI x = true) → pureIs xs = true
  | [], _ => by simp [pureIs]
  | x :: xs, h => by
    rw [pureIs, h x List.mem_cons_self, pures_all fun y hy => h y (List.mem_cons_of_mem _ hy)]; rfl
theorem pure_tupS (S : List Str) : pureI (tupS S) = true := by
  unfold tupS
  rw [pureI]
  exact pures_all fun x hx => by
    obtain ⟨s, _, rfl⟩ := List.mem_map.mp hx
    simp [pureI]
theorem pure_rowS (S : List Str) : pureI (rowS S) = true := by
  unfold rowS
  rw [pureI]
  exact pures_all fun x hx => by
    rcases List.mem_cons.mp hx with rfl | hx
    · simp [pureI]
    · rw [List.mem_singleton.mp hx]; exact pure_tupS S
theorem enc_rowS (k : Nat) (S : List Str) {h : IH} : encH h (k + 3) (rowS S) = some (keyP S) := by
  show (([IV.int (S.length : Nat), tupS S] : List IV).mapM (encH h (k + 2))).map PyData.tuple = _
  rw [List.mapM_cons, List.mapM_cons, enc_tupS]; rfl
theorem enc_rowSs (k : Nat) {h : IH} : ∀ Ss : List (List Str), (Ss.map rowS).mapM (encH h (k + 3)) = some (Ss.map keyP)
  | [] => rfl
  | S :: Ss => by
    rw [List.map_cons, List.mapM_cons, enc_rowS, enc_rowSs k Ss]; rfl
theorem depth_strS : ∀ S : List Str, PyData.depthAll (S.map .str) = 0
  | [] => by simp [PyData.depthAll]
  | s :: S => by
    rw [List.map_cons, PyData.depthAll, depth_strS S]; simp [PyData.depth]
theorem depth_keyP (S : List Str) : (keyP S).depth ≤ 2 := by
  unfold keyP
  simp [PyData.depth, PyData.depthAll, depth_strS]
theorem depths_le {n : Nat} : ∀ {l : List PyData}, (∀ d ∈ l, d.depth ≤ n) → PyData.depthAll l ≤ n
  | [], _ => by simp [PyData.depthAll]
  | d :: l, h => by
    rw [PyData.depthAll]
    have := h d List.mem_cons_self
    have := depths_le (l := l) fun x hx => h x (List.mem_cons_of_mem _ hx)
    omega
theorem alike_keyP (S T : List Str) : PySem.W.alike (keyP S) (keyP T) = true := by
  simp [keyP, PySem.W.alike, PySem.W.alikeAll, alike_strs2]
theorem alike_keys (Ss : List (List Str)) : alikeB (Ss.map keyP) = true := by
  unfold alikeB
  rw [List.all_eq_true]
  intro d hd
  rw [List.all_eq_true]
  intro e he
  obtain ⟨x, _, rfl⟩ := List.mem_map.mp hd
  obtain ⟨y, _, rfl⟩ := List.mem_map.mp he
  exact alike_keyP x y
theorem zip_map2 {α β γ : Type} (f : α → β) (g : α → γ) : ∀ l : List α, (l.map f).zip (l.map g) = l.map fun x => (f x, g x)
  | [] => rfl
  | x :: l => by simp [zip_map2 f g l]
theorem min_rows {h : IH} {n : Nat} {S : List Str} {Ss : List (List Str)} (e : h[n]? = some (.lst ((S :: Ss).map rowS))) : ∃ M ∈ S :: Ss, minTM [.ref n] h = some (.ok (rowS M), h) ∧ ∀ T ∈ S :: Ss, ltD (keyP T) (keyP M) = false := by
  have e1 := enc_rowS 63 S (h := h)
  have e2 := enc_rowSs 63 Ss (h := h)
  have hz := zip_map2 rowS keyP Ss
  haveI : KL := ⟨fun _ _ => True, fun _ => True⟩
  have mm := minP_mem ((Ss.map rowS).zip (Ss.map keyP)) (rowS S, keyP S)
  have ms := minP_snd ((Ss.map rowS).zip (Ss.map keyP)) (rowS S, keyP S)
  have m2 : ((Ss.map rowS).zip (Ss.map keyP)).map (·.2) = Ss.map keyP := by rw [hz, List.map_map]; rfl
  rw [m2] at ms
  obtain ⟨M, hM, eM⟩ : ∃ M ∈ S :: Ss, minP (rowS S, keyP S) ((Ss.map rowS).zip (Ss.map keyP)) = (rowS M, keyP M) := by
    rcases List.mem_cons.mp mm with q | q
    · exact ⟨S, List.mem_cons_self, q⟩
    · generalize minP (rowS S, keyP S) ((Ss.map rowS).zip (Ss.map keyP)) = z at q ⊢
      rw [hz] at q
      obtain ⟨M, hM, q⟩ := List.mem_map.mp q
      exact ⟨M, List.mem_cons_of_mem _ hM, q.symm⟩
  refine ⟨M, hM, ?_, fun T hT => ?_⟩
  · show (match h[n]? with
      | some (.lst (x :: xs)) => match encH h 66 x, xs.mapM (encH h 66) with
        | some d, some ds => if pureIs (x :: xs) = true ∧ alikeB (d :: ds) = true ∧ (d :: ds).all notNone = true ∧ decide (PyData.depthAll (d :: ds) ≤ depLim) = true then some (Out.ok (minP (x, d) (xs.zip ds)).1, h) else none
        | _, _ => none
      | _ => none) = _
    rw [List.map_cons] at e
    simp only [e, e1, e2]
    rw [if_pos, eM]
    refine ⟨pures_all (xs := (S :: Ss).map rowS) fun x hx => ?_, alike_keys (S :: Ss), ?_, decide_eq_true ?_⟩
    · obtain ⟨T, _, rfl⟩ := List.mem_map.mp hx
      exact pure_rowS T
    · rw [List.all_eq_true]
      intro d hd
      obtain ⟨T, _, rfl⟩ := List.mem_map.mp (show d ∈ (S :: Ss).map keyP from hd)
      rfl
    · unfold depLim
      have := depths_le (l := (S :: Ss).map keyP) fun d hd => by
        obtain ⟨T, _, rfl⟩ := List.mem_map.mp hd
        exact depth_keyP T
      exact Nat.le_trans this (by omega)
  · have := minD_le (Ss.map keyP) (keyP S) (keyP T) (List.mem_map.mpr ⟨T, hT, rfl⟩)
    rw [← ms, eM] at this
    exact this
end K28
set_option autoImplicit true
set_option Elab.async false
set_option linter.all false
set_option maxRecDepth 100000
set_option maxHeartbeats 1000000
namespace K28
open PySem L2 Iv
theorem leI_int {h : IH} {i j : Int} : leI (.int i) (.int j) h = some (.ok (.bl (decide (i ≤ j))), h) := rfl
theorem gtI_int {h : IH} {i j : Int} : gtI (.int i) (.int j) h = some (.ok (.bl (decide (j < i))), h) := rfl
theorem len_tup {h : IH} {xs : List IV} : lenM [.tup xs] h = some (.ok (.int (xs.length : Nat)), h) := rfl
def slA (rows : List Row) (live : List Str) (L : Str → Int) : List Str := (awL rows live).filter fun s => decide (0 < L s - 1)
def leftS (L : Str → Int) (S : List Str) (s : Str) : Int := if s ∈ S then 0 else L s - 1
def endS (rows : List Row) (live o : List Str) (L : Str → Int) (S : List Str) : Int := tkT rows (awL rows live) o (leftS L S) o.length
def fewB : Iv.Env → M Fl := SeqS (lockM 4 (AsgS (DcE LN (Iter (Var 4)) (.n 9) YesT (Var 9) (IfE (Tst (Bin (inM false) (Var 9) (Var 7))) (Cst (.int 0)) (Bin ixM (Var 5) (Var 9))) [9]) (TgN 8)))
    (IfS (Tst (Bin leI (CallF 3 F_end_by (Cons (CallB lenM (Cons (Var 1) Nil)) (Cons (Var 4) (Cons (Var 8) Nil)))) (Var 3))) (DropS (Mth chkL appM (Var 6) (Cons (Tup (Cons (CallB lenM (Cons (Var 7) Nil)) (Cons (Var 7) Nil))) Nil))) NextS)
section
variable {rows : List Row} {live o : List Str} {L : Str → Int} {E : Int} {W D F : Nat} {v : IV}
/-- one set -/
theorem few_step {h : IH} {S : List Str} {acc : List IV} {o8 : Option IV} (G : Good8 rows) (O : Ord rows o) (hW : h[W]? = some (.dic (kvN id (wtV rows o) (awL rows live)))) (hD : h[D]? = some (.dic (kvN id (fun s => .int (L s - 1)) (slowL rows)))) (hF : h[F]? = some (.lst acc)) (ha : acc.length < 1000)
    (hi : ∀ s ∈ awL rows live, o.idxOf s < frs rows s 0 o) :
    Ok (fewB [some v, some (.tup (o.map .str)), some (latV rows L), some (.int E), some (.ref W), some (.ref D), some (.ref F), some (tupS S), o8, none]) h fun f h' => ∃ o8', f = .nx [some v, some (.tup (o.map .str)), some (latV rows L), some (.int E), some (.ref W), some (.ref D), some (.ref F), some (tupS S), o8', none] ∧
      (∀ n, n ≠ F → n < h.length → h'[n]? = h[n]?) ∧ h'[F]? = some (.lst (if endS rows live o L S ≤ E then acc ++ [rowS S] else acc)) := by
  have hl := G.hl
  have al := aw_len (rows := rows) (live := live)
  have ol : o.length = rows.length := by rw [O.perm.length_eq, List.length_map]
  let env0 : Iv.Env := [some v, some (.tup (o.map .str)), some (latV rows L), some (.int E), some (.ref W), some (.ref D), some (.ref F), some (tupS S), o8, none]
  have Fl := (List.getElem?_eq_some_iff.mp hF).1
  have Wl := (List.getElem?_eq_some_iff.mp hW).1
  have kk : (kvN id (wtV rows o) (awL rows live)).map (·.1) = (awL rows live).map .inr := by rw [kvN_keys, List.map_id]
  have hWD : W ≠ D ∨ awL rows live = [] := by
    by_cases c : W = D
    · right
      subst c
      rw [hW] at hD
      cases q : awL rows live with
      | nil => rfl
      | cons a l =>
        exfalso
        rw [q] at hD
        have := Option.some.inj hD
        injection this with e
        unfold kvN at e
        cases q2 : slowL rows with
        | nil => rw [q2] at e; cases e
        | cons b m =>
          rw [q2, List.map_cons, List.map_cons] at e
          injection e with e1 _
          injection e1 with _ e2
          unfold wtV at e2
          cases e2
    · exact .inl c
  have lk : Ok (lockM 4 (AsgS (DcE LN (Iter (Var 4)) (.n 9) YesT (Var 9) (IfE (Tst (Bin (inM false) (Var 9) (Var 7))) (Cst (.int 0)) (Bin ixM (Var 5) (Var 9))) [9]) (TgN 8)) env0) h fun f h4 => f = .nx [some v, some (.tup (o.map .str)), some (latV rows L), some (.int E), some (.ref W), some (.ref D), some (.ref F), some (tupS S), some (.ref h.length), none] ∧ Gr h h4 ∧ h4[h.length]? = some (.dic (kvN id (fun s => .int (leftS L S s)) (awL rows live))) := by
    refine lock_ok (n := W) rfl hW ?_
    have eL : (h.set W (.fdc (kvN id (wtV rows o) (awL rows live))))[W]? = some (.fdc (kvN id (wtV rows o) (awL rows live))) := List.getElem?_set_self Wl
    have eD : awL rows live ≠ [] → (h.set W (.fdc (kvN id (wtV rows o) (awL rows live))))[D]? = some (.dic (kvN id (fun s => .int (L s - 1)) (slowL rows))) := fun ne => by
      rw [List.getElem?_set_ne (hWD.resolve_right ne)]; exact hD
    have ln : (h.set W (.fdc (kvN id (wtV rows o) (awL rows live)))).length = h.length := List.length_set
    generalize eg : h.set W (.fdc (kvN id (wtV rows o) (awL rows live))) = hL at *
    have q := dcE_names (k := LN) (src := Iter (Var 4)) (s := SKeys W) (p := .n 9) (kx := Var 9) (el := IfE (Tst (Bin (inM false) (Var 9) (Var 7))) (Cst (.int 0)) (Bin ixM (Var 5) (Var 9))) (vs := [9]) (env := env0) (h := hL) (h1 := hL) (item := fun _ (s : Str) => IV.str s) (key := id) (val := fun s => IV.int (leftS L S s)) (awL rows live)
      (iter_ok (x := .ref W) rfl (src_fdc eL)) (LN_ok (by omega)) (by omega) (by rw [List.map_id]; exact aw_nd G.nd)
      (fun kvs i => by rw [skeys (Gr.push _ _ _ _ eL) kk])
      (fun i s e => by
        have hs : s ∈ awL rows live := List.mem_of_getElem? e
        refine ⟨_, rfl, fun kvs => ⟨rfl, ?_⟩⟩
        have t := tst_ok (a := Bin (inM false) (Var 9) (Var 7)) (env := [some v, some (.tup (o.map .str)), some (latV rows L), some (.int E), some (.ref W), some (.ref D), some (.ref F), some (tupS S), o8, some (.str s)]) (h := hL ++ [.dic kvs]) (bin_ok (x := .str s) (y := tupS S) rfl rfl in_tup)
        unfold leftS
        by_cases c : s ∈ S
        · rw [if_pos c]
          rw [decide_eq_true c] at t
          exact ifE_tt t rfl
        · rw [if_neg c]
          rw [decide_eq_false c] at t
          have ev : valI (kvN id (fun s => IV.int (L s - 1)) (slowL rows)) (.inr s) = some (.int (L s - 1)) := kvN_val (key := id) (a := s) (by rw [List.map_id]; exact slow_nd G.nd) (aw_slow hs)
          exact ifE_ff t (bin_ok (x := .ref D) (y := .str s) rfl rfl (ix_dic (Gr.push _ _ _ _ (eD (List.ne_nil_of_mem hs))) rfl ev)))
    refine ⟨_, _, asg_ok q, Gr.push _ _ _ _ eL, by rw [ln]; rfl, lock_gr hW (by rw [eg]; exact Gr.push _ _), ?_⟩
    rw [List.getElem?_set_ne (by omega), ← ln]; exact push_len
  obtain ⟨f, h4, q4, rfl, g4, e4⟩ := lk
  let env1 : Iv.Env := [some v, some (.tup (o.map .str)), some (latV rows L), some (.int E), some (.ref W), some (.ref D), some (.ref F), some (tupS S), some (.ref h.length), none]
  obtain ⟨y, h5, q5, rfl, g5⟩ := end_by_ok (h := h4) (rows := rows) (aw := awL rows live) (o := o) (st := leftS L S) (W := W) (D := h.length) (g4 _ _ hW) e4 (aw_nd G.nd) (by omega) (by omega) hi
  have c5 : CallF 3 F_end_by (Cons (CallB lenM (Cons (Var 1) Nil)) (Cons (Var 4) (Cons (Var 8) Nil))) env1 h4 = some (.ok (.int (endS rows live o L S)), h5) :=
    callF_ok (cons_ok (x := .int (o.length : Nat)) (callB_ok (one_ok (x := .tup (o.map .str)) rfl) (by rw [len_tup, List.length_map])) (two_ok (x := .ref W) (y := .ref h.length) rfl rfl)) rfl q5
  have t5 := tst_ok (a := Bin leI (CallF 3 F_end_by (Cons (CallB lenM (Cons (Var 1) Nil)) (Cons (Var 4) (Cons (Var 8) Nil)))) (Var 3)) (bin_ok (x := .int (endS rows live o L S)) (y := .int E) c5 rfl leI_int)
  have F5 := (g4.trans g5) _ _ hF
  have old : ∀ n, n < h.length → h5[n]? = h[n]? := fun n hn => by
    rw [(g4.trans g5) n _ (List.getElem?_eq_getElem hn), List.getElem?_eq_getElem hn]
  by_cases c : endS rows live o L S ≤ E
  · rw [decide_eq_true c] at t5
    have qd : DropS (Mth chkL appM (Var 6) (Cons (Tup (Cons (CallB lenM (Cons (Var 7) Nil)) (Cons (Var 7) Nil))) Nil)) env1 h5 = some (.ok (.nx env1), h5.set F (.lst (acc ++ [rowS S]))) :=
      drop_ok (x := .non) (mth_ok (x := .ref F) rfl (chk_lst F5) (one_ok (x := rowS S) (tup_ok (xs := [.int (S.length : Nat), tupS S]) (two_ok (x := .int (S.length : Nat)) (y := tupS S) (callB_ok (one_ok (x := tupS S) rfl) (by show lenM [.tup (S.map .str)] _ = _; rw [len_tup, List.length_map])) rfl) (by show 2 ≤ 100000; omega))) (app_lst F5 (by omega)))
    refine ⟨_, _, (seq_nx q4).trans (ifS_tt t5 qd), _, rfl, fun n hn hl => ?_, ?_⟩
    · rw [List.getElem?_set_ne (Ne.symm hn), old n hl]
    · rw [if_pos c, List.getElem?_set_self (List.getElem?_eq_some_iff.mp F5).1]
  · rw [decide_eq_false c] at t5
    refine ⟨_, _, (seq_nx q4).trans (ifS_ff t5 rfl), _, rfl, fun n hn hl => old n hl, ?_⟩
    rw [if_neg c]; exact F5
end
end K28
set_option autoImplicit true
set_option Elab.async false
set_option linter.all false
set_option maxRecDepth 100000
set_option maxHeartbeats 1000000
namespace K28
open PySem L2 Iv
section
variable {rows : List Row} {live o : List Str} {L : Str → Int} {E : Int} {W D F : Nat} {v : IV}
def fitR (rows : List Row) (live o : List Str) (L : Str → Int) (E : Int) (l : List (List Str)) : List IV := (l.filter fun S => decide (endS rows live o L S ≤ E)).map rowS
theorem fitR_snoc {l : List (List Str)} {S : List Str} : fitR rows live o L E (l ++ [S]) = if endS rows live o L S ≤ E then fitR rows live o L E l ++ [rowS S] else fitR rows live o L E l := by
  unfold fitR
  rw [List.filter_append, List.map_append]
  by_cases c : endS rows live o L S ≤ E
  · rw [if_pos c]; simp [c]
  · rw [if_neg c]; simp [c]
theorem fitR_len {l : List (List Str)} : (fitR rows live o L E l).length ≤ l.length := by
  unfold fitR
  rw [List.length_map]; exact List.length_filter_le _ _
/-- the names of which the stall is above 0 -/
theorem few_arg {h : IH} {o1 o2 o3 o7 o8 : Option IV} {o6 : Option IV} (G : Good8 rows) (hW : h[W]? = some (.dic (kvN id (wtV rows o) (awL rows live)))) (hD : h[D]? = some (.dic (kvN id (fun s => .int (L s - 1)) (slowL rows)))) :
    Ok (lockM 4 (LcE LN (Iter (Var 4)) (.n 9) (Tst (Bin gtI (Bin ixM (Var 5) (Var 9)) (Cst (.int 0)))) (Var 9) [9]) [some v, o1, o2, o3, some (.ref W), some (.ref D), o6, o7, o8, none]) h fun y h' => y = .ref h.length ∧ h'[h.length]? = some (.lst ((slA rows live L).map .str)) ∧ Gr h h' := by
  have hl := G.hl
  have al := aw_len (rows := rows) (live := live)
  have Wl := (List.getElem?_eq_some_iff.mp hW).1
  have kk : (kvN id (wtV rows o) (awL rows live)).map (·.1) = (awL rows live).map .inr := by rw [kvN_keys, List.map_id]
  have hWD : W ≠ D ∨ awL rows live = [] := by
    by_cases c : W = D
    · right
      subst c
      rw [hW] at hD
      cases q : awL rows live with
      | nil => rfl
      | cons a l =>
        exfalso
        rw [q] at hD
        have := Option.some.inj hD
        injection this with e
        unfold kvN at e
        cases q2 : slowL rows with
        | nil => rw [q2] at e; cases e
        | cons b m =>
          rw [q2, List.map_cons, List.map_cons] at e
          injection e with e1 _
          injection e1 with _ e2
          unfold wtV at e2
          cases e2
    · exact .inl c
  refine lock_ok (n := W) rfl hW ?_
  have eL : (h.set W (.fdc (kvN id (wtV rows o) (awL rows live))))[W]? = some (.fdc (kvN id (wtV rows o) (awL rows live))) := List.getElem?_set_self Wl
  have eD : awL rows live ≠ [] → (h.set W (.fdc (kvN id (wtV rows o) (awL rows live))))[D]? = some (.dic (kvN id (fun s => .int (L s - 1)) (slowL rows))) := fun ne => by
    rw [List.getElem?_set_ne (hWD.resolve_right ne)]; exact hD
  have ln : (h.set W (.fdc (kvN id (wtV rows o) (awL rows live)))).length = h.length := List.length_set
  generalize eg : h.set W (.fdc (kvN id (wtV rows o) (awL rows live))) = hL at *
  have q := lcE_pure (k := LN) (src := Iter (Var 4)) (s := SKeys W) (p := .n 9) (c := Tst (Bin gtI (Bin ixM (Var 5) (Var 9)) (Cst (.int 0)))) (el := Var 9) (vs := [9]) (env := [some v, o1, o2, o3, some (.ref W), some (.ref D), o6, o7, o8, none]) (h := hL) (h1 := hL) ((awL rows live).map .str)
    (fun x => match x with | .str s => decide (0 < L s - 1) | _ => false) (fun x => x)
    (iter_ok (x := .ref W) rfl (src_fdc eL)) (LN_ok (by rw [List.length_map]; omega)) (by rw [List.length_map]; omega)
    (fun acc i => by rw [skeys (Gr.push _ _ _ _ eL) kk, List.getElem?_map])
    (fun x hx => by
      obtain ⟨s, hs, rfl⟩ := List.mem_map.mp hx
      refine ⟨_, rfl, fun acc => ⟨?_, fun _ => rfl⟩⟩
      have ev : valI (kvN id (fun s => IV.int (L s - 1)) (slowL rows)) (.inr s) = some (.int (L s - 1)) := kvN_val (key := id) (a := s) (by rw [List.map_id]; exact slow_nd G.nd) (aw_slow hs)
      exact tst_ok (bin_ok (x := .int (L s - 1)) (y := .int 0) (bin_ok (x := .ref D) (y := .str s) rfl rfl (ix_dic (Gr.push _ _ _ _ (eD (List.ne_nil_of_mem hs))) rfl ev)) rfl gtI_int))
  have ef : (((awL rows live).map IV.str).filter fun x => match x with | .str s => decide (0 < L s - 1) | _ => false).map (fun x => x) = (slA rows live L).map .str := by
    rw [List.map_id', List.filter_map]; rfl
  rw [ef] at q
  refine ⟨_, _, q, Gr.push _ _ _ _ eL, by rw [ln], ?_, lock_gr hW (by rw [eg]; exact Gr.push _ _)⟩
  rw [List.getElem?_set_ne (by omega), ← ln]; exact push_len
theorem slA_len : (slA rows live L).length ≤ rows.length := by
  have := aw_len (rows := rows) (live := live)
  have h2 := List.length_filter_le (fun s => decide (0 < L s - 1)) (awL rows live)
  unfold slA
  omega
/-- what is told of sets: none, or the least of those that fit -/
def Few (rows : List Row) (live o : List Str) (L : Str → Int) (E : Int) (y : IV) : Prop :=
  (y = .non ∧ ∀ S ∈ setsP (slA rows live L), ¬ endS rows live o L S ≤ E) ∨ ∃ S ∈ setsP (slA rows live L), endS rows live o L S ≤ E ∧ y = tupS S ∧ ∀ T ∈ setsP (slA rows live L), endS rows live o L T ≤ E → ltD (keyP T) (keyP S) = false
theorem fewest_ok {h : IH} (G : Good8 rows) (pd : Pd 16 (.tup [.tup (rows.map Row.v), .tup (live.map .str)])) (O : Ord rows o) (hi : ∀ s ∈ awL rows live, o.idxOf s < frs rows s 0 o) :
    Ok (F_fewest_quick [.tup [.tup (rows.map Row.v), .tup (live.map .str)], .tup (o.map .str), latV rows L, .int E]) h fun y h' => Gr h h' ∧ Few rows live o L E y := by
  have hl := G.hl
  have sl := slA_len (rows := rows) (live := live) (L := L)
  let v : IV := .tup [.tup (rows.map Row.v), .tup (live.map .str)]
  have pw : (setsP (slA rows live L)).length ≤ 256 := by
    rw [setsP_len]
    have := Nat.pow_le_pow_right (n := 2) (by omega) (show (slA rows live L).length ≤ 8 by omega)
    omega
  obtain ⟨w, h1, q1, g1, W, rfl, eW⟩ := waits_ok (h := h) G pd O
  obtain ⟨w, h2, q2, ⟨D, rfl, eD⟩, g2⟩ := stalls_ok (h := h1) (L := L) G
  have eW2 := g2 _ _ eW
  let env0 : Iv.Env := [some v, some (.tup (o.map .str)), some (latV rows L), some (.int E), some (.ref W), some (.ref D), some (.ref h2.length), none, none, none]
  let h3 : IH := h2 ++ [.lst []]
  obtain ⟨y, h4, q4, rfl, e4, g4⟩ := few_arg (h := h3) (v := v) (o1 := some (.tup (o.map .str))) (o2 := some (latV rows L)) (o3 := some (.int E)) (o6 := some (.ref h2.length)) (o7 := none) (o8 := none) G (Gr.push _ _ _ _ eW2) (Gr.push _ _ _ _ eD)
  obtain ⟨y, h5, q5, m, rfl, e5, g5⟩ := all_sets_ok (h := h4) e4 (by omega)
  have eF5 : h5[h2.length]? = some (.lst []) := g5 _ _ (g4 _ _ push_len)
  have ne : (setsP (slA rows live L)).map tupS ≠ [] := by
    intro c
    have := congrArg List.length c
    rw [List.length_map, setsP_len] at this
    have z := Nat.two_pow_pos (slA rows live L).length
    have this : 2 ^ (slA rows live L).length = 0 := this
    omega
  have mF : m ≠ h2.length := fun c => by
    subst c
    rw [eF5] at e5
    have := Option.some.inj e5
    injection this with this
    exact ne this.symm
  have W2 := (List.getElem?_eq_some_iff.mp eW2).1
  have D2 := (List.getElem?_eq_some_iff.mp eD).1
  obtain ⟨f, h6, q6, env6, rfl, o7, o8, rfl, g6, f6⟩ := forS_ok (src := Iter (CallF 1 F__all_sets (Cons (lockM 4 (LcE LN (Iter (Var 4)) (.n 9) (Tst (Bin gtI (Bin ixM (Var 5) (Var 9)) (Cst (.int 0)))) (Var 9) [9])) Nil))) (s := SLive m) (t := TgN 7) (b := fewB) (n := (setsP (slA rows live L)).length) (k := LN) (env := env0) (h := h3) (h1 := h5)
    (fun i env h' => ∃ o7 o8, env = [some v, some (.tup (o.map .str)), some (latV rows L), some (.int E), some (.ref W), some (.ref D), some (.ref h2.length), o7, o8, none] ∧ (∀ n, n ≠ h2.length → n < h5.length → h'[n]? = h5[n]?) ∧ h'[h2.length]? = some (.lst (fitR rows live o L E ((setsP (slA rows live L)).take i))))
    (iter_ok (x := .ref m) (callF_ok (one_ok q4) rfl q5) (src_lst e5)) (LN_ok (by omega)) ⟨none, none, rfl, fun _ _ _ => rfl, eF5⟩
    (by
      rintro i env h' hi' ⟨o7, o8, rfl, g, e⟩
      have ml := (List.getElem?_eq_some_iff.mp e5).1
      have em : h'[m]? = some (.lst ((setsP (slA rows live L)).map tupS)) := by rw [g m mF ml]; exact e5
      have w5 : h5[W]? = _ := g5 _ _ (g4 _ _ (Gr.push _ _ _ _ eW2))
      have d5 : h5[D]? = _ := g5 _ _ (g4 _ _ (Gr.push _ _ _ _ eD))
      have ew : h'[W]? = some (.dic (kvN id (wtV rows o) (awL rows live))) := by rw [g W (by omega) (List.getElem?_eq_some_iff.mp w5).1]; exact w5
      have ed : h'[D]? = some (.dic (kvN id (fun s => .int (L s - 1)) (slowL rows))) := by rw [g D (by omega) (List.getElem?_eq_some_iff.mp d5).1]; exact d5
      have fl := fitR_len (rows := rows) (live := live) (o := o) (L := L) (E := E) (l := (setsP (slA rows live L)).take i)
      rw [List.length_take] at fl
      obtain ⟨f, h'', q, o8', rfl, r1, r2⟩ := few_step (h := h') (v := v) (E := E) (S := (setsP (slA rows live L))[i]) (o8 := o8) G O ew ed e (by omega) hi
      have ll : h5.length ≤ h'.length := by
        rcases Nat.lt_or_ge h'.length h5.length with c | c
        · exfalso
          by_cases cc : h'.length = h2.length
          · have := (List.getElem?_eq_some_iff.mp e).1
            omega
          · have z := g h'.length cc c
            rw [List.getElem?_eq_none (Nat.le_refl _), List.getElem?_eq_getElem c] at z
            cases z
        · exact c
      refine ⟨tupS (setsP (slA rows live L))[i], by rw [slive em, List.getElem?_map, List.getElem?_eq_getElem hi']; rfl, _, _, (bind_ok (x := [some v, some (.tup (o.map .str)), some (latV rows L), some (.int E), some (.ref W), some (.ref D), some (.ref h2.length), some (tupS (setsP (slA rows live L))[i]), o8, none]) (h1 := h') rfl).trans q, _, .inl rfl, _, _, rfl, fun n hn hl => ?_, ?_⟩
      · rw [r1 n hn (by omega), g n hn hl]
      · rw [List.take_succ, List.getElem?_eq_getElem hi']
        show _ = some (IO.lst (fitR rows live o L E (_ ++ [_])))
        rw [fitR_snoc, r2])
    (by
      rintro env h' ⟨o7, o8, rfl, g, e⟩
      have ml := (List.getElem?_eq_some_iff.mp e5).1
      have em : h'[m]? = some (.lst ((setsP (slA rows live L)).map tupS)) := by rw [g m mF ml]; exact e5
      rw [slive em, List.getElem?_eq_none (by rw [List.length_map]; exact Nat.le_refl _)])
  rw [List.take_length] at f6
  have gr : Gr h h6 := fun n p e => by
    have e2 := g2 _ _ (g1 _ _ e)
    have l2 := (List.getElem?_eq_some_iff.mp e2).1
    have e5' : h5[n]? = some p := g5 _ _ (g4 _ _ (Gr.push _ _ _ _ e2))
    rw [g6 n (by omega) (List.getElem?_eq_some_iff.mp e5').1]; exact e5'
  let env6 : Iv.Env := [some v, some (.tup (o.map .str)), some (latV rows L), some (.int E), some (.ref W), some (.ref D), some (.ref h2.length), o7, o8, none]
  have tail : ∀ y, RetS (IfE (Tru (Var 6)) (Bin ixM (CallB minTM (Cons (Var 6) Nil)) (Cst (.int 1))) (Cst .non)) env6 h6 = some (.ok (.rt y), h6) → F_fewest_quick [v, .tup (o.map .str), latV rows L, .int E] h = some (.ok y, h6) := fun y q7 =>
    fn_rt ((seq_nx (asg_ok (callX_ok (two_ok (x := v) (y := .tup (o.map .str)) rfl rfl) rfl q1))).trans ((seq_nx (asg_ok (callF_ok (one_ok (x := latV rows L) rfl) rfl q2))).trans ((seq_nx (asg_ok (lst_ok2 (xs := []) rfl (mkL_ok (by show 0 ≤ 100000; omega))))).trans ((seq_nx q6).trans q7))))
  have t6 : Tru (Var 6) env6 h6 = _ := tru_ok (x := .ref h2.length) rfl (tru_lst f6)
  cases q : (setsP (slA rows live L)).filter fun S => decide (endS rows live o L S ≤ E) with
  | nil =>
    unfold fitR at t6
    rw [q] at t6
    refine ⟨.non, h6, tail _ (ret_ok (ifE_ff t6 rfl)), gr, .inl ⟨rfl, fun S hS c => ?_⟩⟩
    have : S ∈ (setsP (slA rows live L)).filter fun S => decide (endS rows live o L S ≤ E) := List.mem_filter.mpr ⟨hS, decide_eq_true c⟩
    rw [q] at this; cases this
  | cons S Ss =>
    unfold fitR at t6 f6
    rw [q] at t6 f6
    obtain ⟨M, hM, qm, le⟩ := min_rows f6
    rw [← q] at hM
    obtain ⟨m1, m2⟩ := List.mem_filter.mp hM
    refine ⟨tupS M, h6, tail _ (ret_ok (ifE_tt t6 (bin_ok (x := rowS M) (y := .int 1) (callB_ok (one_ok (x := .ref h2.length) rfl) qm) rfl (ix_tup rfl)))), gr, .inr ⟨M, m1, of_decide_eq_true m2, rfl, fun T hT c => le T ?_⟩⟩
    rw [← q]
    exact List.mem_filter.mpr ⟨hT, decide_eq_true c⟩
end
end K28
set_option autoImplicit true
set_option Elab.async false
set_option linter.all false
set_option maxRecDepth 100000
set_option maxHeartbeats 1000000
namespace K28
open PySem L2 Iv
/-! the law's side: slow ones, sets, dicts of pairs -/
theorem callD_pure {F : List IV → M IV} {a : Iv.Env → M (List IV)} {env : Iv.Env} {h h1 : IH} {xs : List IV} {y : IV} {n : Nat} (e1 : a env h = some (.ok xs, h1)) (ps : pureIs xs = true) (ln : xs.length = n) (e2 : ∃ h', F xs [] = some (.ok y, h')) (e3 : pureI y = true) : CallD n F a env h = some (.ok y, h1) := by
  obtain ⟨h', e2⟩ := e2
  unfold CallD
  refine (bind_ok e1).trans ?_
  show (if pureIs xs = true then _ else _) = _
  rw [if_pos ps, if_pos ⟨ln, ps⟩]
  simp only [e2]
  rw [if_pos e3]
theorem pure_strs : ∀ l : List Str, pureIs (l.map .str) = true
  | [] => rfl
  | s :: l => by
    show (true && pureIs (l.map .str)) = true
    rw [pure_strs l]; rfl
theorem pure_rows : ∀ l : List Row, pureIs (l.map Row.v) = true
  | [] => rfl
  | r :: l => by
    show ((true && (pureIs (r.reads.map .str) && (true && true))) && pureIs (l.map Row.v)) = true
    rw [pure_rows l, pure_strs]; rfl
theorem pure_lat {rows : List Row} {L : Str → Int} : pureI (latV rows L) = true := by
  unfold latV
  rw [pureI]
  exact pures_all fun x hx => by
    obtain ⟨s, _, rfl⟩ := List.mem_map.mp hx
    rfl
def blkV (rows : List Row) (live : List Str) : IV := .tup [.tup (rows.map Row.v), .tup (live.map .str)]
theorem pure_args {rows : List Row} {live o : List Str} {L : Str → Int} {E : Int} : pureIs [blkV rows live, .tup (o.map .str), latV rows L, .int E] = true := by
  show ((pureIs (rows.map Row.v) && (pureIs (live.map .str) && true)) && (pureIs (o.map .str) && (pureI (latV rows L) && (true && true)))) = true
  rw [pure_rows, pure_strs, pure_strs, pure_lat]; rfl
theorem pairs_of {α : Type} (key : α → Str) (val : α → IV) : ∀ l : List α, pairsI (l.map fun a => IV.tup [.str (key a), val a]) = some (kvN key val l)
  | [] => rfl
  | a :: l => by
    show (match keyI (.str (key a)), pairsI (l.map fun a => IV.tup [.str (key a), val a]) with
    | some k, some q => some ((k, val a) :: q)
    | _, _ => none) = _
    rw [pairs_of key val l]; rfl
theorem merge_of {α : Type} (key : α → Str) (val : α → IV) : ∀ (l p : List α), ((p ++ l).map key).Nodup → mergeI (kvN key val p) (kvN key val l) = kvN key val (p ++ l)
  | [], p, _ => by rw [List.append_nil]; rfl
  | a :: l, p, n => by
    have ha : key a ∉ p.map key := by
      rw [List.map_append, List.map_cons, List.nodup_append] at n
      intro m
      exact n.2.2 _ m _ (List.mem_cons_self ..) rfl
    have := kvN_put (key := key) (val := val) (l := p) (a := a) ha
    show mergeI (putI (kvN key val p) (.inr (key a)) (val a)) (kvN key val l) = _
    rw [this, merge_of key val l (p ++ [a]) (by rw [List.append_assoc]; exact n), List.append_assoc]; rfl
theorem dict_pairs {α : Type} {key : α → Str} {val : α → IV} {l : List α} {h : IH} {n : Nat} (nd : (l.map key).Nodup) (e : h[n]? = some (.lst (l.map fun a => IV.tup [.str (key a), val a]))) : dictM [.ref n] h = some (.ok (.ref h.length), h ++ [.dic (kvN key val l)]) := by
  show (match h[n]? with
    | some (.lst xs) => match pairsI xs with
      | some kvs => some (Out.ok (IV.ref h.length), h ++ [Iv.IO.dic (mergeI [] kvs)])
      | none => none
    | _ => none) = _
  simp only [e, pairs_of]
  rw [show mergeI [] (kvN key val l) = kvN key val l from merge_of key val l [] nd]
theorem slow_ok {h : IH} {rows : List Row} {w : IV} (hl : rows.length ≤ 8) : F__law_slow [.tup [.tup (rows.map Row.v), w]] h = some (.ok (.tup ((slowL rows).map .str)), h ++ [.lst ((slowL rows).map .str)]) := by
  have inn : LcE LN (Iter (Bin ixM (Var 0) (Cst (.int 0)))) (.n 1) (Tru (Bin ixM (Var 1) (Cst (.int 2)))) (Bin ixM (Var 1) (Cst (.int 0))) [1] [some (.tup [.tup (rows.map Row.v), w]), none] h = some (.ok (.ref h.length), h ++ [.lst ((slowL rows).map .str)]) := by
    refine (lcE_pure (k := LN) (s := SItems (rows.map Row.v)) (h1 := h) (rows.map Row.v) (fun x => match x with | .tup [_, _, .bl b] => b | _ => false) (fun x => match x with | .tup [a, _, _] => a | x => x) (iter_ok (x := .tup (rows.map Row.v)) (bin_ok (x := .tup [.tup (rows.map Row.v), w]) (y := .int 0) rfl rfl (ix_tup rfl)) rfl) (LN_ok (by rw [List.length_map]; omega)) (by rw [List.length_map]; omega) (fun acc i => rfl) ?_).trans ?_
    · intro x hx
      obtain ⟨r, hr, rfl⟩ := List.mem_map.mp hx
      exact ⟨_, rfl, fun acc => ⟨tru_bl (bin_ok (x := r.v) (y := .int 2) rfl rfl (ix_tup rfl)), fun _ => bin_ok (x := r.v) (y := .int 0) rfl rfl (ix_tup rfl)⟩⟩
    · rw [List.filter_map, List.map_map]
      unfold slowL
      rw [List.map_map]; rfl
  exact fn_rt (ret_ok (callB_ok (one_ok inn) (tuple_lst push_len)))
theorem sets_head (l : List Str) : ∃ r, setsP l = [] :: r := by
  induction l using snoc_ind with
  | h0 => exact ⟨[], rfl⟩
  | h1 l x ih =>
    obtain ⟨r, e⟩ := ih
    exact ⟨r ++ (setsP l).map (· ++ [x]), by rw [setsP_snoc]; conv => lhs; rw [show setsP l ++ _ = ([] :: r) ++ (setsP l).map (· ++ [x]) from by rw [← e]]
                                             rfl⟩
theorem alike_sets (l : List (List Str)) : alikeB (l.map fun S => PyData.tuple (S.map .str)) = true := by
  unfold alikeB
  rw [List.all_eq_true]
  intro d hd
  rw [List.all_eq_true]
  intro e he
  obtain ⟨x, _, rfl⟩ := List.mem_map.mp hd
  obtain ⟨y, _, rfl⟩ := List.mem_map.mp he
  exact alike_tup x y
theorem sets_sort {h : IH} {n : Nat} {l : List Str} (hl : l.length ≤ 8) (e : h[n]? = some (.lst ((setsP l).map tupS))) : ∃ Z : List (List Str), Z.Perm (setsP l) ∧ sortE [.ref n] h = some (.ok (.ref h.length), h ++ [.lst (Z.map tupS)]) := by
  have e1 := enc_tups 64 (h := h) (setsP l)
  obtain ⟨r, er⟩ := sets_head l
  have pw : (setsP l).length ≤ 256 := by
    rw [setsP_len]
    have := Nat.pow_le_pow_right (n := 2) (by omega) hl
    omega
  let f : List Str → PyData := fun S => .tuple (S.map .str)
  have hz := zip_map2 tupS f (setsP l)
  refine ⟨(setsP l).mergeSort (PySem.W.dataLe false f), List.mergeSort_perm _ _, ?_⟩
  show (match lstI h (.ref n) with
    | some xs => match xs.mapM (encH h 66) with
      | some ds => if alikeB ds = true ∧ emptB ds = true ∧ (ds.all fun d => decide (d.depth ≤ depLim)) = true then mkL (((xs.zip ds).mergeSort (PySem.W.dataLe false fun p : IV × PyData => p.2)).map (fun p : IV × PyData => p.1)) h else none
      | none => none
    | none => none) = _
  rw [lst_lst e]
  simp only [e1]
  rw [if_pos]
  · have em : ((((setsP l).map tupS).zip ((setsP l).map f)).mergeSort (PySem.W.dataLe false fun p : IV × PyData => p.2)).map (fun p : IV × PyData => p.1) = ((setsP l).mergeSort (PySem.W.dataLe false f)).map tupS := by
      rw [hz, ← List.map_mergeSort (l := setsP l) (r := PySem.W.dataLe false f) (f := fun x => (tupS x, f x)) (s := PySem.W.dataLe false fun p : IV × PyData => p.2) (by intros; rfl), List.map_map]
      rfl
    refine (congrArg (fun z => mkL z h) em).trans (mkL_ok ?_)
    rw [List.length_map, List.length_mergeSort]; omega
  · refine ⟨alike_sets _, ?_, ?_⟩
    · unfold emptB
      rw [Bool.and_eq_true]
      refine ⟨by rw [er]; rfl, ?_⟩
      rw [List.all_eq_true]
      intro d hd
      obtain ⟨S, _, rfl⟩ := List.mem_map.mp hd
      rfl
    · rw [List.all_eq_true]
      intro d hd
      obtain ⟨S, _, rfl⟩ := List.mem_map.mp hd
      refine decide_eq_true ?_
      unfold depLim
      simp [PyData.depth, depth_strS]
theorem law_sets_ok {h : IH} {l : List Str} (hl : l.length ≤ 8) : Ok (F__law_sets [.tup (l.map .str)]) h fun v h' => ∃ (m : Nat) (Z : List (List Str)), v = .ref m ∧ Z.Perm (setsP l) ∧ h'[m]? = some (.lst (Z.map tupS)) ∧ Gr h h' ∧ h.length ≤ m := by
  obtain ⟨f, h2, q, m, o2, rfl, e2, g2⟩ := sets_loop (h := h) (s := SItems (l.map .str)) (v := .tup (l.map .str)) (l := l) rfl (fun h' g i => by show some (l.map IV.str)[i]? = _; rw [List.getElem?_map]) hl
  obtain ⟨Z, p, qs⟩ := sets_sort hl e2
  have gl : h.length ≤ h2.length := by
    rcases Nat.lt_or_ge h2.length h.length with c | c
    · have := g2 h2.length _ (List.getElem?_eq_getElem c)
      rw [List.getElem?_eq_none (Nat.le_refl _)] at this; cases this
    · exact c
  exact ⟨_, _, fn_rt ((seq_nx sets_first).trans ((seq_nx q).trans (ret_ok (callB_ok (one_ok (x := .ref m) rfl) qs)))), _, Z, rfl, p, push_len, g2.trans (Gr.push _ _), gl⟩
end K28
set_option autoImplicit true
set_option Elab.async false
set_option linter.all false
set_option maxRecDepth 100000
set_option maxHeartbeats 1000000
namespace K28
open PySem L2 Iv
/-! the machine of the law -/
section
variable {rows : List Row} {o : List Str} {la : Str → Int}
theorem nwL_len : ∀ p, (nwL rows o la p).length = p
  | 0 => rfl
  | p + 1 => by unfold nwL; rw [List.length_append, nwL_len p]; rfl
theorem nwL_get {p i : Nat} (hi : i < p) : ∀ d, (nwL rows o la (p + d)).getD i 0 = (nwL rows o la p).getD i 0
  | 0 => rfl
  | d + 1 => by
    show (nwL rows o la (p + d) ++ [_]).getD i 0 = _
    rw [getD_snoc (by rw [nwL_len]; omega)]
    exact nwL_get hi d
def nowI (rows : List Row) (o : List Str) (la : Str → Int) (i : Nat) : Int := (nwL rows o la i).getLastD (-1)
theorem nowI_succ (p : Nat) : nowI rows o la (p + 1) = maxL ((nowI rows o la p + 1) :: (rdO rows (o.getD p "")).map fun s => (nwL rows o la p).getD (o.idxOf s) 0 + la s) := by
  show (nwL rows o la p ++ [_]).getLastD (-1) = _
  rw [last_snoc]; rfl
theorem nowI_at {p : Nat} : (nwL rows o la (p + 1)).getD p 0 = nowI rows o la (p + 1) := by
  have := getD_snoc_eq (l := nwL rows o la p) (x := maxL (((nwL rows o la p).getLastD (-1) + 1) :: (rdO rows (o.getD p "")).map fun s => (nwL rows o la p).getD (o.idxOf s) 0 + la s)) (d := 0)
  rw [nwL_len] at this
  show (nwL rows o la p ++ [_]).getD p 0 = (nwL rows o la p ++ [_]).getLastD (-1)
  rw [last_snoc]
  exact this
def rdyI (rows : List Row) (o : List Str) (la : Str → Int) (s : Str) : Int := (nwL rows o la o.length).getD (o.idxOf s) 0 + la s
def ledB : Iv.Env → M Fl := (SeqS (AsgS (CallB maxI (Cons (Bin addI (Lst (Cons (Bin addI (Var 5) (Cst (.int 1))) Nil)) (LcE LN (Iter (Bin ixM (Var 3) (Var 6))) (.n 7) YesT (Bin ixM (Var 4) (Var 7)) [7])) Nil)) (TgN 5))
    (AsgS (Bin addI (Var 5) (GetE (Var 2) (Var 6) (Cst (.int 1)))) (TgSub (Var 4) (Var 6))))
/-- max([n + 1] + [ready[x] for x in xs]) -/
theorem maxes {a : Iv.Env → M IV} {q : Iv.Env → M IV} {env : Iv.Env} {h h1 : IH} {n : Int} {xs : List Int} (ea : a env h = some (.ok (.int n), h)) (eq : q env (h ++ [.lst [.int (n + 1)]]) = some (.ok (.ref h1.length), h1 ++ [.lst (xs.map .int)])) (g : Gr (h ++ [.lst [.int (n + 1)]]) h1) (hl : xs.length ≤ 100) :
    CallB maxI (Cons (Bin addI (Lst (Cons (Bin addI a (Cst (.int 1))) Nil)) q) Nil) env h = some (.ok (.int (maxL ((n + 1) :: xs))), (h1 ++ [.lst (xs.map .int)]) ++ [.lst (((n + 1) :: xs).map .int)]) := by
  have k1 := mkL_ok (xs := [.int (n + 1)]) (h := h) (by show 1 ≤ 100000; omega)
  have k2 := addI_lst (h := h1 ++ [.lst (xs.map .int)]) (m := h.length) (n := h1.length) (xs := [.int (n + 1)]) (ys := xs.map .int) (Gr.push _ _ _ _ (g _ _ push_len)) push_len (by rw [List.length_map]; show 1 + xs.length ≤ 100000; omega)
  exact callB_ok (one_ok (bin_ok (x := .ref h.length) (y := .ref h1.length) (lst_ok2 (one_ok (bin_ok (x := .int n) (y := .int 1) ea rfl rfl)) k1) eq k2)) (max_lst push_len)
theorem ready_ok {env : Iv.Env} {a : Iv.Env → M Src} {h : IH} {R k vn : Nat} {kvs : List (Key × IV)} {l : List Str} (ea : a env h = some (.ok (SItems (l.map .str)), h)) (hR : ∀ acc, (h ++ [.lst acc])[R]? = some (.dic kvs)) (hv : ∀ s ∈ l, valI kvs (.inr s) = some (.int (rdyI rows o la s))) (hl : l.length ≤ 100)
    (hk : ∀ s ∈ l, ∃ e2, Pat.set (.n k) (.str s) (wipeE env [k]) = some e2 ∧ e2[vn]? = some (some (.ref R)) ∧ e2[k]? = some (some (.str s))) :
    LcE LN a (.n k) YesT (Bin ixM (Var vn) (Var k)) [k] env h = some (.ok (.ref h.length), h ++ [.lst ((l.map (rdyI rows o la)).map .int)]) := by
  refine (lcE_pure (k := LN) (s := SItems (l.map .str)) (h1 := h) (l.map .str) (fun _ => true) (fun x => match x with | .str s => .int (rdyI rows o la s) | x => x) ea (LN_ok (by rw [List.length_map]; omega)) (by rw [List.length_map]; omega) (fun acc i => rfl) ?_).trans ?_
  · intro x hx
    obtain ⟨s, hs, rfl⟩ := List.mem_map.mp hx
    obtain ⟨e2, w1, w2, w3⟩ := hk s hs
    exact ⟨e2, w1, fun acc => ⟨rfl, fun _ => bin_ok (x := .ref R) (y := .str s) (var_ok w2) (var_ok w3) (ix_dic (hR acc) rfl (hv s hs))⟩⟩
  · rw [List.filter_eq_self.mpr (fun _ _ => rfl), List.map_map, List.map_map]; rfl
theorem dict8_ok {h : IH} {w : IV} {o1 o2 o3 o4 o5 o6 : Option IV} (nd : (rows.map Row.name).Nodup) (hl : rows.length ≤ 8) : CallB dictM (Cons (LcE LN (Iter (Bin ixM (Var 0) (Cst (.int 0)))) (.n 7) YesT (Sl (Var 7) NoO (SoO (Cst (.int 2)))) [7]) Nil)
    [some (.tup [.tup (rows.map Row.v), w]), o1, o2, o3, o4, o5, o6, none] h = some (.ok (.ref (h.length + 1)), (h ++ [.lst (rows.map fun r : Row => IV.tup [.str r.name, rdV r])]) ++ [.dic (kvN Row.name rdV rows)]) := by
  have inn : LcE LN (Iter (Bin ixM (Var 0) (Cst (.int 0)))) (.n 7) YesT (Sl (Var 7) NoO (SoO (Cst (.int 2)))) [7] [some (.tup [.tup (rows.map Row.v), w]), o1, o2, o3, o4, o5, o6, none] h = some (.ok (.ref h.length), h ++ [.lst (rows.map fun r : Row => IV.tup [.str r.name, rdV r])]) := by
    refine (lcE_pure (k := LN) (s := SItems (rows.map Row.v)) (h1 := h) (rows.map Row.v) (fun _ => true) (fun x => match x with | .tup [a, b, _] => .tup [a, b] | x => x) (iter_ok (x := .tup (rows.map Row.v)) (bin_ok (x := .tup [.tup (rows.map Row.v), w]) (y := .int 0) rfl rfl (ix_tup rfl)) rfl) (LN_ok (by rw [List.length_map]; omega)) (by rw [List.length_map]; omega) (fun acc i => rfl) ?_).trans ?_
    · intro x hx
      obtain ⟨r, hr, rfl⟩ := List.mem_map.mp hx
      refine ⟨_, rfl, fun acc => ⟨rfl, fun _ => sl_to (x := r.v) (j := 2) rfl rfl ?_⟩⟩
      have := cutI_to (xs := [IV.str r.name, .tup (r.reads.map .str), .bl r.slow]) (k := 2)
      show some (Out.ok (IV.tup (cutI [IV.str r.name, .tup (r.reads.map .str), .bl r.slow] none (some ((2 : Nat) : Int)))), _) = _
      rw [this]; rfl
    · rw [List.filter_eq_self.mpr (fun _ _ => rfl), List.map_map]; rfl
  refine (callB_ok (one_ok inn) (dict_pairs (key := Row.name) (val := rdV) nd push_len)).trans ?_
  rw [List.length_append]; rfl
theorem led_step {h : IH} {v : IV} {live : List Str} {Q D R p : Nat} {kq : List (Key × IV)} {o6 : Option IV} (G : Good8 rows) (O : Ord rows o) (hp : p < o.length) (eQ : h[Q]? = some (.dic kq)) (vq : ∀ s, (valI kq (.inr s)).getD (.int 1) = .int (la s)) (eD : h[D]? = some (.dic (kvN Row.name rdV rows))) (eR : h[R]? = some (.dic (kvN id (fun s => .int (rdyI rows o la s)) (o.take p)))) :
    ∃ h', ledB [some v, some (.tup (o.map .str)), some (.ref Q), some (.ref D), some (.ref R), some (.int (nowI rows o la p)), some (.str o[p]), none] h = some (.ok (.nx [some v, some (.tup (o.map .str)), some (.ref Q), some (.ref D), some (.ref R), some (.int (nowI rows o la (p + 1))), some (.str o[p]), none]), h'.set R (.dic (kvN id (fun s => .int (rdyI rows o la s)) (o.take (p + 1))))) ∧ Gr h h' := by
  have ol : o.length = rows.length := by rw [O.perm.length_eq, List.length_map]
  have hl := G.hl
  have on : o.Nodup := O.perm.symm.nodup G.nd
  have hs : o[p] ∈ o := List.getElem_mem hp
  obtain ⟨r, hr, er⟩ := List.mem_map.mp (O.perm.mem_iff.mp hs)
  have vr : valI (kvN Row.name rdV rows) (.inr o[p]) = some (rdV r) := by rw [← er]; exact kvN_val G.nd hr
  have erd : rdO rows (o.getD p "") = r.reads := by
    rw [List.getD_eq_getElem?_getD, List.getElem?_eq_getElem hp]
    show rdO rows o[p] = _
    rw [← er]; exact rdO_at G.nd hr
  have rl := (G.rd r hr).1
  have mem : ∀ s ∈ r.reads, s ∈ o.take p := O.reads r hr p (by rw [List.getElem?_eq_getElem hp, er])
  have tk : (o.take p).Nodup := List.Nodup.sublist (List.take_sublist _ _) on
  let env : Iv.Env := [some v, some (.tup (o.map .str)), some (.ref Q), some (.ref D), some (.ref R), some (.int (nowI rows o la p)), some (.str o[p]), none]
  let h0 : IH := h ++ [.lst [.int (nowI rows o la p + 1)]]
  have qr := ready_ok (rows := rows) (o := o) (la := la) (env := env) (a := Iter (Bin ixM (Var 3) (Var 6))) (h := h0) (R := R) (k := 7) (vn := 4) (l := r.reads)
    (iter_ok (x := rdV r) (bin_ok (x := .ref D) (y := .str o[p]) rfl rfl (ix_dic (Gr.push _ _ _ _ eD) rfl vr)) rfl)
    (fun acc => Gr.push _ _ _ _ (Gr.push _ _ _ _ eR)) (fun s hs => kvN_val (key := id) (a := s) (by rw [List.map_id]; exact tk) (mem s hs)) (by omega)
    (fun s hs => ⟨_, rfl, rfl, rfl⟩)
  have qm := maxes (a := Var 5) (env := env) (h := h) (h1 := h0) (n := nowI rows o la p) (xs := r.reads.map (rdyI rows o la)) rfl qr (Gr.refl _) (by rw [List.length_map]; omega)
  have en : maxL ((nowI rows o la p + 1) :: r.reads.map (rdyI rows o la)) = nowI rows o la (p + 1) := by
    rw [nowI_succ, erd]
    congr 2
    refine List.map_congr_left fun s hs => ?_
    unfold rdyI
    obtain ⟨d, hd⟩ : ∃ d, o.length = p + d := ⟨o.length - p, by omega⟩
    rw [hd, nwL_get (idx_take (mem s hs))]
  rw [en] at qm
  let h2 : IH := (h0 ++ [.lst ((r.reads.map (rdyI rows o la)).map .int)]) ++ [.lst (((nowI rows o la p + 1) :: r.reads.map (rdyI rows o la)).map .int)]
  have g2 : Gr h h2 := ((Gr.push _ _).trans (Gr.push _ _)).trans (Gr.push _ _)
  let env2 : Iv.Env := [some v, some (.tup (o.map .str)), some (.ref Q), some (.ref D), some (.ref R), some (.int (nowI rows o la (p + 1))), some (.str o[p]), none]
  have q1 : AsgS (CallB maxI (Cons (Bin addI (Lst (Cons (Bin addI (Var 5) (Cst (.int 1))) Nil)) (LcE LN (Iter (Bin ixM (Var 3) (Var 6))) (.n 7) YesT (Bin ixM (Var 4) (Var 7)) [7])) Nil)) (TgN 5) env h = some (.ok (.nx env2), h2) := asg_ok (i := 5) qm
  have gq : GetE (Var 2) (Var 6) (Cst (.int 1)) env2 h2 = some (.ok (.int (la o[p])), h2) := by
    have e := g2 _ _ eQ
    have c1 : chkD (.ref Q) h2 = some (.ok (), h2) := by
      show (match h2[Q]? with
        | some (.dic _) => some (Out.ok (), h2)
        | some (.fdc _) => some (.ok (), h2)
        | _ => none) = _
      simp only [e]
    have c2 : getI (.ref Q) (.str o[p]) (.int 1) h2 = some (.ok (.int (la o[p])), h2) := by
      show (match h2[Q]?, keyI (IV.str o[p]) with
        | some (.dic kvs), some k => some (Out.ok ((valI kvs k).getD (IV.int 1)), h2)
        | some (.fdc kvs), some k => some (Out.ok ((valI kvs k).getD (IV.int 1)), h2)
        | _, _ => none) = _
      simp only [e, keyI]
      rw [vq]
    exact (bind_ok (x := IV.ref Q) (h1 := h2) rfl).trans ((bind_ok c1).trans ((bind_ok (x := IV.str o[p]) (h1 := h2) rfl).trans ((bind_ok (x := IV.int 1) (h1 := h2) rfl).trans c2)))
  have ei : rdyI rows o la o[p] = nowI rows o la (p + 1) + la o[p] := by
    unfold rdyI
    rw [idx_nd on (List.getElem?_eq_getElem hp)]
    obtain ⟨d, hd⟩ : ∃ d, o.length = (p + 1) + d := ⟨o.length - (p + 1), by omega⟩
    rw [hd, nwL_get (Nat.lt_succ_self p), nowI_at]
  have st := set_dic (y := .str o[p]) (v := .int (rdyI rows o la o[p])) (k := .inr o[p]) (g2 _ _ eR) rfl (by unfold kvN; rw [List.length_map, List.length_take]; omega)
  have hnew : o[p] ∉ (o.take p).map id := by
    rw [List.map_id]
    intro m
    have := idx_take m
    rw [idx_nd on (List.getElem?_eq_getElem hp)] at this
    omega
  have kp := kvN_put (key := id) (val := fun s => IV.int (rdyI rows o la s)) (l := o.take p) (a := o[p]) hnew
  rw [show putI (kvN id (fun s => IV.int (rdyI rows o la s)) (o.take p)) (.inr o[p]) (.int (rdyI rows o la o[p])) = _ from kp, ← show o.take (p + 1) = o.take p ++ [o[p]] from by rw [List.take_succ, List.getElem?_eq_getElem hp]; rfl] at st
  refine ⟨h2, (seq_nx q1).trans (asgT_ok (x := .int (rdyI rows o la o[p])) ?_ (tgSub_ok (x := .ref R) (y := .str o[p]) rfl rfl st)), g2⟩
  rw [ei]
  exact bin_ok (x := .int (nowI rows o la (p + 1))) (y := .int (la o[p])) rfl gq rfl
theorem law_end_ok {h : IH} {live : List Str} {Q : Nat} {kq : List (Key × IV)} (G : Good8 rows) (O : Ord rows o) (lv : ∀ s ∈ live, s ∈ rows.map Row.name) (ll : live.length ≤ 8) (eQ : h[Q]? = some (.dic kq)) (vq : ∀ s, (valI kq (.inr s)).getD (.int 1) = .int (la s)) :
    Ok (F__law_end [blkV rows live, .tup (o.map .str), .ref Q]) h fun y h' => y = .int (nwE rows o la live) ∧ Gr h h' := by
  have ol : o.length = rows.length := by rw [O.perm.length_eq, List.length_map]
  have hl := G.hl
  have on : o.Nodup := O.perm.symm.nodup G.nd
  let v : IV := blkV rows live
  let h1 : IH := (h ++ [.lst (rows.map fun r : Row => IV.tup [.str r.name, rdV r])]) ++ [.dic (kvN Row.name rdV rows)]
  have g1 : Gr h h1 := (Gr.push _ _).trans (Gr.push _ _)
  have l1 : h1.length = h.length + 2 := by show ((h ++ _) ++ _).length = _; rw [List.length_append, List.length_append]; rfl
  have eD : h1[h.length + 1]? = some (.dic (kvN Row.name rdV rows)) := by
    have := push_len (h := h ++ [.lst (rows.map fun r : Row => IV.tup [.str r.name, rdV r])]) (o := .dic (kvN Row.name rdV rows))
    rw [List.length_append] at this; exact this
  let env0 : Iv.Env := [some v, some (.tup (o.map .str)), some (.ref Q), some (.ref (h.length + 1)), some (.ref h1.length), some (.int (-1)), none, none]
  have first : AsgS (Tup (Cons (CallB dictM (Cons (LcE LN (Iter (Bin ixM (Var 0) (Cst (.int 0)))) (.n 7) YesT (Sl (Var 7) NoO (SoO (Cst (.int 2)))) [7]) Nil)) (Cons DNew (Cons (Un negI (Cst (.int 1))) Nil)))) (TgUn 3 (TgCons (TgN 3) (TgCons (TgN 4) (TgCons (TgN 5) TgNil)))) [some v, some (.tup (o.map .str)), some (.ref Q), none, none, none, none, none] h = some (.ok (.nx env0), h1 ++ [.dic []]) :=
    asgT_ok (x := .tup [.ref (h.length + 1), .ref h1.length, .int (-1)]) (tup_ok (xs := [.ref (h.length + 1), .ref h1.length, .int (-1)]) (cons_ok (dict8_ok G.nd hl) (two_ok (x := .ref h1.length) (y := .int (-1)) (h1 := h1 ++ [.dic []]) rfl rfl)) (by show 3 ≤ 100000; omega)) rfl
  obtain ⟨f, h2, q2, env2, rfl, o6, rfl, e2, g2⟩ := forS_ok (src := Iter (Var 1)) (s := SItems (o.map .str)) (t := TgN 6) (b := ledB) (n := o.length) (k := LN) (env := env0) (h := h1 ++ [.dic []]) (h1 := h1 ++ [.dic []])
    (fun i env h' => ∃ o6, env = [some v, some (.tup (o.map .str)), some (.ref Q), some (.ref (h.length + 1)), some (.ref h1.length), some (.int (nowI rows o la i)), o6, none] ∧ h'[h1.length]? = some (.dic (kvN id (fun s => .int (rdyI rows o la s)) (o.take i))) ∧ Gr h1 h')
    (iter_ok (x := .tup (o.map .str)) rfl rfl) (LN_ok (by omega)) ⟨none, rfl, push_len, Gr.push _ _⟩
    (by
      rintro i env h' hi ⟨o6, rfl, e, g⟩
      obtain ⟨h'', q, g'⟩ := led_step (v := v) (live := live) (o6 := o6) G O hi (g _ _ (g1 _ _ eQ)) vq (g _ _ eD) e
      refine ⟨.str o[i], by show some (o.map IV.str)[i]? = _; rw [List.getElem?_map, List.getElem?_eq_getElem hi]; rfl, _, _, (bind_ok (x := [some v, some (.tup (o.map .str)), some (.ref Q), some (.ref (h.length + 1)), some (.ref h1.length), some (.int (nowI rows o la i)), some (.str o[i]), none]) (h1 := h') rfl).trans q, _, .inl rfl, _, rfl, List.getElem?_set_self (List.getElem?_eq_some_iff.mp (g' _ _ e)).1, gr_setd (g.trans g')⟩)
    (by
      rintro env h' ⟨o6, rfl, g⟩
      show some (o.map IV.str)[o.length]? = _
      rw [List.getElem?_eq_none (by rw [List.length_map]; omega)])
  rw [List.take_length] at e2
  let h3 : IH := h2 ++ [.lst [.int (nowI rows o la o.length + 1)]]
  have qr := ready_ok (rows := rows) (o := o) (la := la) (env := [some v, some (.tup (o.map .str)), some (.ref Q), some (.ref (h.length + 1)), some (.ref h1.length), some (.int (nowI rows o la o.length)), o6, none]) (a := Iter (Bin ixM (Var 0) (Cst (.int 1)))) (h := h3) (R := h1.length) (k := 6) (vn := 4) (l := live)
    (iter_ok (x := .tup (live.map .str)) (bin_ok (x := v) (y := .int 1) rfl rfl (ix_tup rfl)) rfl)
    (fun acc => Gr.push _ _ _ _ (Gr.push _ _ _ _ e2)) (fun s hs => kvN_val (key := id) (a := s) (by rw [List.map_id]; exact on) (O.perm.mem_iff.mpr (lv s hs))) (by omega)
    (fun s hs => ⟨_, rfl, rfl, rfl⟩)
  have qm := maxes (a := Var 5) (env := [some v, some (.tup (o.map .str)), some (.ref Q), some (.ref (h.length + 1)), some (.ref h1.length), some (.int (nowI rows o la o.length)), o6, none]) (h := h2) (h1 := h3) (n := nowI rows o la o.length) (xs := live.map (rdyI rows o la)) rfl qr (Gr.refl _) (by rw [List.length_map]; omega)
  exact ⟨_, _, fn_rt ((seq_nx first).trans ((seq_nx q2).trans (ret_ok qm))), rfl, (((g1.trans g2).trans (Gr.push _ _)).trans (Gr.push _ _)).trans (Gr.push _ _)⟩
end
end K28
set_option autoImplicit true
set_option Elab.async false
set_option linter.all false
set_option maxRecDepth 100000
set_option maxHeartbeats 1000000
namespace K28
open PySem L2 Iv
/-! drawn latencies -/
theorem zip_getD {l : List Str} (nd : l.Nodup) {ns : List Int} (h : ns.length = l.length) : (l.zip ns).map (fun p => IV.tup [.str p.1, .int p.2]) = l.map fun s => IV.tup [.str s, .int (ns.getD (l.idxOf s) 1)] := by
  apply List.ext_getElem (by simp; omega)
  intro i h1 h2
  rw [List.getElem_map, List.getElem_map, List.getElem_zip]
  have hi : i < l.length := by simpa using h2
  have : l.idxOf l[i] = i := idx_nd nd (List.getElem?_eq_getElem hi)
  show IV.tup [.str l[i], .int ns[i]] = IV.tup [.str l[i], .int (ns.getD (l.idxOf l[i]) 1)]
  rw [this, List.getD_eq_getElem?_getD, List.getElem?_eq_getElem (by omega)]
  rfl
theorem zip_snoc {l : List Str} {i : Nat} (hi : i < l.length) {ns : List Int} (h : ns.length = i) {n : Int} : (l.take (i + 1)).zip (ns ++ [n]) = (l.take i).zip ns ++ [(l[i], n)] := by
  rw [List.take_succ, List.getElem?_eq_getElem hi, List.zip_append (by rw [List.length_take]; omega)]
  rfl
theorem law_lasts_ok {h : IH} {u c : Nat} {rows : List Row} {w : IV} (U : Ur h u (c + 8)) (nd : (rows.map Row.name).Nodup) (hl : rows.length ≤ 8) :
    Ok (F__law_lasts [.ref u, .tup [.tup (rows.map Row.v), w], .int 5]) h fun y h' => ∃ L : Str → Int, y = latV rows L ∧ (∀ s, 1 ≤ L s ∧ L s ≤ 5) ∧ Ur h' u c ∧ GrX u h h' := by
  have ul := U.lt
  have sl := slow_len (rows := rows)
  let l := slowL rows
  let v : IV := .tup [.tup (rows.map Row.v), w]
  let h1 : IH := h ++ [.lst (l.map .str)]
  obtain ⟨y, h2, q2, rfl, acc, ns, rfl, n1, n2, n3, U2, G2⟩ := lcE_ok (k := LN) (n := l.length) (src := Iter (CallF 1 F__law_slow (Cons (Var 1) Nil))) (s := SItems (l.map .str)) (h := h) (h1 := h1) (p := .n 3) (vs := [3]) (c := YesT)
    (el := Tup (Cons (Var 3) (Cons (Bin addI (Cst (.int 1)) (CallF 2 F__law_take (Cons (Var 0) (Cons (Var 2) Nil)))) Nil))) (env := [some (.ref u), some v, some (.int 5), none])
    (fun i acc h' => ∃ ns : List Int, acc = ((l.take i).zip ns).map (fun p => IV.tup [.str p.1, .int p.2]) ∧ ns.length = i ∧ (∀ n ∈ ns, 1 ≤ n ∧ n ≤ 5) ∧ h'[h1.length]? = some (.lst acc) ∧ Ur h' u (c + (8 - i)) ∧ GrX u h h')
    (iter_ok (x := .tup (l.map .str)) (callF_ok (one_ok (x := v) rfl) rfl (slow_ok hl)) rfl) (LN_ok (by show (slowL rows).length < _; omega))
    ⟨[], rfl, rfl, by simp, push_len, (U.push.push).le (by omega), GrX.pushx (GrX.pushx (GrX.refl u h))⟩
    (by
      rintro i acc h' hi ⟨ns, rfl, n1, n2, n3, n4, n5⟩
      have hi8 : i < 8 := by have : l.length ≤ 8 := by show (slowL rows).length ≤ 8; omega
                             omega
      obtain ⟨x, h3, q3, r, rfl, r0, r1, U3, G3, L3⟩ := take_ok (c := c + (8 - (i + 1))) (n := 5) (n4.le (by omega)) (by omega) (by omega)
      have u1 : h1.length = h.length + 1 := by show (h ++ _).length = _; rw [List.length_append]; rfl
      have e3 := G3 h1.length _ (by omega) n3
      refine ⟨.str l[i], _, by show some (l.map IV.str)[i]? = _; rw [List.getElem?_map, List.getElem?_eq_getElem hi]; rfl, rfl, true, h', rfl, ?_⟩
      show Ok _ _ _
      refine ⟨.tup [.str l[i], .int (1 + r)], h3, tup_ok (xs := [.str l[i], .int (1 + r)]) (two_ok (x := .str l[i]) (y := .int (1 + r)) rfl (bin_ok (x := .int 1) (y := .int r) rfl (callF_ok (two_ok (x := .ref u) (y := .int 5) rfl rfl) rfl q3) rfl)) (by show 2 ≤ 100000; omega), e3, by simp; omega, ns ++ [1 + r], ?_, by simp [n1], ?_, ?_, U3.set (by omega), (n5.trans G3).setx (by omega)⟩
      · rw [zip_snoc hi n1, List.map_append]; rfl
      · intro n hn
        rcases List.mem_append.mp hn with hn | hn
        · exact n2 n hn
        · rw [List.mem_singleton.mp hn]; omega
      · rw [List.getElem?_set_self (List.getElem?_eq_some_iff.mp e3).1])
    (by
      rintro acc h' _
      show some (l.map IV.str)[l.length]? = _
      rw [List.getElem?_eq_none (by rw [List.length_map]; omega)])
  rw [List.take_length, zip_getD (slow_nd nd) n1] at n3
  refine ⟨_, h2, fn_rt (ret_ok (callB_ok (one_ok q2) (tuple_lst n3))), fun s => ns.getD (l.idxOf s) 1, rfl, fun s => ?_, U2.le (by omega), G2⟩
  show 1 ≤ ns.getD (l.idxOf s) 1 ∧ ns.getD (l.idxOf s) 1 ≤ 5
  rw [List.getD_eq_getElem?_getD]
  cases q : ns[l.idxOf s]? with
  | none => show (1 : Int) ≤ 1 ∧ (1 : Int) ≤ 5; omega
  | some n => exact n2 n (List.mem_of_getElem? q)
end K28
set_option autoImplicit true
set_option Elab.async false
set_option linter.all false
set_option maxRecDepth 100000
set_option maxHeartbeats 1000000
namespace K28
open PySem L2 Iv
/-! the same choice -/
section
variable {rows : List Row} {live o : List Str} {L : Str → Int}
/-- what the law's machine takes -/
def laS (rows : List Row) (L : Str → Int) (S : List Str) (s : Str) : Int := if s ∈ slowL rows then (if s ∈ S then 1 else L s) else 1
theorem nd_name {r r' : Row} (nd : (rows.map Row.name).Nodup) (h : r ∈ rows) (h' : r' ∈ rows) (e : r.name = r'.name) : r = r' := by
  obtain ⟨i, hi, ei⟩ := List.getElem_of_mem h
  obtain ⟨j, hj, ej⟩ := List.getElem_of_mem h'
  have a : i < (rows.map Row.name).length := by rw [List.length_map]; exact hi
  have b : j < (rows.map Row.name).length := by rw [List.length_map]; exact hj
  have : i = j := by
    rcases Nat.lt_trichotomy i j with c | c | c
    · refine absurd ?_ (List.pairwise_iff_getElem.mp nd i j a b c)
      rw [List.getElem_map, List.getElem_map, ei, ej, e]
    · exact c
    · refine absurd ?_ (List.pairwise_iff_getElem.mp nd j i b a c)
      rw [List.getElem_map, List.getElem_map, ei, ej, e]
  subst this
  rw [← ei, ← ej]
theorem rd_of {r : Row} {s : Str} (nd : (rows.map Row.name).Nodup) (hr : r ∈ rows) : s ∈ rdO rows r.name ↔ s ∈ r.reads := by rw [rdO_at nd hr]
theorem readB_iff (G : Good8 rows) (O : Ord rows o) {s : Str} : readB rows s = true ↔ ∃ t ∈ o, s ∈ rdO rows t := by
  unfold readB
  rw [List.any_eq_true]
  constructor
  · rintro ⟨r, hr, h⟩
    exact ⟨r.name, O.perm.mem_iff.mpr (List.mem_map.mpr ⟨r, hr, rfl⟩), (rd_of G.nd hr).mpr (of_decide_eq_true h)⟩
  · rintro ⟨t, ht, h⟩
    obtain ⟨r, hr, rfl⟩ := List.mem_map.mp (O.perm.mem_iff.mp ht)
    exact ⟨r, hr, decide_eq_true ((rd_of G.nd hr).mp h)⟩
theorem wt_of (G : Good8 rows) (O : Ord rows o) (lv : ∀ s ∈ live, s ∈ rows.map Row.name) (h1 : ∀ s, 1 ≤ L s) (S : List Str) : Wt rows live (awL rows live) o (leftS L S) (laS rows L S) where
  nd := O.perm.symm.nodup G.nd
  rd := fun j t e s hs => by
    have ht : t ∈ o := List.mem_of_getElem? e
    obtain ⟨r, hr, rfl⟩ := List.mem_map.mp (O.perm.mem_iff.mp ht)
    exact O.reads r hr j e s ((rd_of G.nd hr).mp hs)
  awf := fun s hs => by
    have hsl := aw_slow hs
    refine ⟨O.perm.mem_iff.mpr (aw_mem hs), ?_, ?_⟩
    · unfold laS leftS
      rw [if_pos hsl]
      by_cases c : s ∈ S
      · rw [if_pos c, if_pos c]; rfl
      · rw [if_neg c, if_neg c]; omega
    · obtain ⟨r, hr, rfl⟩ := List.mem_map.mp hs
      have h2 := (List.mem_filter.mp hr).2
      unfold awB at h2
      rw [Bool.and_eq_true, Bool.or_eq_true] at h2
      rcases h2.2 with c | c
      · exact .inl ((readB_iff G O).mp c)
      · exact .inr (of_decide_eq_true c)
  sl := fun s hs => by
    by_cases c : s ∈ slowL rows
    · by_cases ca : s ∈ awL rows live
      · exact .inl ca
      · right; right
        obtain ⟨r, hr, rfl⟩ := List.mem_map.mp c
        obtain ⟨hr1, hr2⟩ := List.mem_filter.mp hr
        have nb : ¬ awB rows live r = true := fun q => ca (List.mem_map.mpr ⟨r, List.mem_filter.mpr ⟨hr1, q⟩, rfl⟩)
        unfold awB at nb
        rw [Bool.and_eq_true, Bool.or_eq_true, not_and, not_or] at nb
        have nb := nb hr2
        exact ⟨fun m => nb.2 (decide_eq_true m), fun t ht m => nb.1 ((readB_iff G O).mpr ⟨t, ht, m⟩)⟩
    · right; left
      unfold laS
      rw [if_neg c]
  lv := fun s hs => O.perm.mem_iff.mpr (lv s hs)
  stn := fun s hs => by
    unfold leftS
    have := h1 s
    split <;> omega
def nE (rows : List Row) (live o : List Str) (L : Str → Int) (S : List Str) : Int := nwE rows o (laS rows L S) live
theorem nE_end (G : Good8 rows) (O : Ord rows o) (lv : ∀ s ∈ live, s ∈ rows.map Row.name) (h1 : ∀ s, 1 ≤ L s) (h0 : 0 < o.length) (S : List Str) : nE rows live o L S = endS rows live o L S := (wt_of G O lv h1 S).end_ h0
theorem tkL_congr {aw : List Str} {st st' : Str → Int} (e : ∀ s ∈ aw, st s = st' s) : ∀ p, tkL rows aw o st p = tkL rows aw o st' p
  | 0 => rfl
  | p + 1 => by
    unfold tkL
    rw [tkL_congr e p]
    congr 4
    refine List.map_congr_left fun s hs => ?_
    rw [e s (List.mem_filter.mp hs).1]
theorem endS_congr {S T : List Str} (h : ∀ s ∈ slA rows live L, s ∈ S ↔ s ∈ T) (h1 : ∀ s, 1 ≤ L s) : endS rows live o L S = endS rows live o L T := by
  unfold endS tkT
  rw [tkL_congr fun s hs => ?_]
  unfold leftS
  by_cases c : 0 < L s - 1
  · have m : s ∈ slA rows live L := List.mem_filter.mpr ⟨hs, decide_eq_true c⟩
    by_cases a : s ∈ S
    · rw [if_pos a, if_pos ((h s m).mp a)]
    · rw [if_neg a, if_neg fun b => a ((h s m).mpr b)]
  · have := h1 s
    have : L s - 1 = 0 := by omega
    rw [this]; simp
theorem filter_sub {l m : List Str} (nd : l.Nodup) (s : m.Sublist l) : l.filter (fun x => decide (x ∈ m)) = m := by
  induction s with
  | slnil => rfl
  | @cons l1 l2 a s ih =>
    have na : a ∉ l2 := (List.nodup_cons.mp nd).1
    rw [List.filter_cons_of_neg (by simpa using fun q => na (s.subset q))]
    exact ih (List.nodup_cons.mp nd).2
  | @cons_cons l1 l2 a s ih =>
    have na : a ∉ l2 := (List.nodup_cons.mp nd).1
    rw [List.filter_cons_of_pos (by simp)]
    congr 1
    conv => rhs; rw [← ih (List.nodup_cons.mp nd).2]
    refine List.filter_congr fun x hx => ?_
    rw [Bool.eq_iff_iff, decide_eq_true_iff, decide_eq_true_iff, List.mem_cons]
    exact ⟨fun q => q.resolve_left fun e => na (e ▸ hx), .inr⟩
theorem slA_sub : (slA rows live L).Sublist (slowL rows) := by
  unfold slA
  refine List.filter_sublist.trans ?_
  unfold awL slowL
  refine List.Sublist.map _ ?_
  have e : rows.filter (awB rows live) = (rows.filter Row.slow).filter (awB rows live) := by
    rw [List.filter_filter]
    refine List.filter_congr fun r _ => ?_
    unfold awB
    cases r.slow <;> simp
  rw [e]
  exact List.filter_sublist
/-- what stays of a set -/
theorem cut_set (G : Good8 rows) (h1 : ∀ s, 1 ≤ L s) {S : List Str} (hS : S ∈ setsP (slowL rows)) :
    S.filter (fun s => decide (s ∈ slA rows live L)) ∈ setsP (slA rows live L) ∧ S.filter (fun s => decide (s ∈ slA rows live L)) ∈ setsP (slowL rows) ∧ endS rows live o L (S.filter fun s => decide (s ∈ slA rows live L)) = endS rows live o L S := by
  have sub := (setsP_mem _ _).mp hS
  have s1 : (S.filter fun s => decide (s ∈ slA rows live L)).Sublist (slA rows live L) := by
    have := List.Sublist.filter (fun s => decide (s ∈ slA rows live L)) sub
    rw [filter_sub (slow_nd G.nd) slA_sub] at this
    exact this
  refine ⟨(setsP_mem _ _).mpr s1, (setsP_mem _ _).mpr (s1.trans slA_sub), endS_congr (fun s hs => ?_) h1⟩
  rw [List.mem_filter]
  exact ⟨fun q => q.1, fun q => ⟨q, decide_eq_true hs⟩⟩
theorem sets_up {S : List Str} (h : S ∈ setsP (slA rows live L)) : S ∈ setsP (slowL rows) := (setsP_mem _ _).mpr (((setsP_mem _ _).mp h).trans slA_sub)
/-- the least by the law is the least by the program -/
theorem choice (G : Good8 rows) (h1 : ∀ s, 1 ≤ L s) {E : Int} {S M : List Str} (hS : S ∈ setsP (slowL rows)) (eS : endS rows live o L S ≤ E) (lS : ∀ T ∈ setsP (slowL rows), endS rows live o L T ≤ E → ltD (keyT T (endS rows live o L T)) (keyT S (endS rows live o L S)) = false)
    (hM : M ∈ setsP (slA rows live L)) (eM : endS rows live o L M ≤ E) (lM : ∀ T ∈ setsP (slA rows live L), endS rows live o L T ≤ E → ltD (keyP T) (keyP M) = false) : M = S := by
  obtain ⟨c1, c2, c3⟩ := cut_set (live := live) (o := o) G h1 hS
  have inA : S ∈ setsP (slA rows live L) := by
    by_cases c : (S.filter fun s => decide (s ∈ slA rows live L)).length < S.length
    · have := lS _ c2 (by rw [c3]; exact eS)
      rw [ltT_len c] at this; cases this
    · have e := (List.filter_sublist (p := fun s => decide (s ∈ slA rows live L)) (l := S)).eq_of_length_le (by omega)
      rw [e] at c1; exact c1
  have a1 := lM S inA eS
  have a2 := lS M (sets_up hM) eM
  refine keyP_anti ?_ a1
  cases q : ltD (keyP M) (keyP S) with
  | false => rfl
  | true => rw [ltP_T q] at a2; cases a2
end
end K28
set_option autoImplicit true
set_option Elab.async false
set_option linter.all false
set_option maxRecDepth 100000
set_option maxHeartbeats 1000000
namespace K28
open PySem L2 Iv
/-! ends are small -/
section
variable {rows : List Row} {live o : List Str} {L : Str → Int} {la : Str → Int}
theorem lastD_le {l : List Int} {d b : Int} (hd : d ≤ b) (h : ∀ x ∈ l, x ≤ b) : l.getLastD d ≤ b := by
  cases l with
  | nil => exact hd
  | cons x l =>
    have : (x :: l).getLastD d ∈ x :: l := by
      rw [List.getLastD_cons]
      cases l with
      | nil => simp
      | cons y l => rw [List.getLastD_eq_getLast?, List.getLast?_eq_some_getLast (by simp)]; exact List.mem_cons_of_mem _ (List.getLast_mem _)
    exact h _ this
theorem getD_le {l : List Int} {i : Nat} {b : Int} (hb : 0 ≤ b) (h : ∀ x ∈ l, x ≤ b) : l.getD i 0 ≤ b := by
  rw [List.getD_eq_getElem?_getD]
  cases q : l[i]? with
  | none => exact hb
  | some x => exact h x (List.mem_of_getElem? q)
theorem nwL_le (hla : ∀ s, la s ≤ 5) : ∀ p, ∀ x ∈ nwL rows o la p, x ≤ 6 * (p : Int)
  | 0, x, h => by simp [nwL] at h
  | p + 1, x, h => by
    have ih := nwL_le hla p
    have h : x ∈ nwL rows o la p ++ [maxL (((nwL rows o la p).getLastD (-1) + 1) :: (rdO rows (o.getD p "")).map fun s => (nwL rows o la p).getD (o.idxOf s) 0 + la s)] := h
    rcases List.mem_append.mp h with h | h
    · have := ih x h; omega
    · rw [List.mem_singleton.mp h]
      have m := (mx ((nwL rows o la p).getLastD (-1) + 1) ((rdO rows (o.getD p "")).map fun s => (nwL rows o la p).getD (o.idxOf s) 0 + la s)).1
      rcases List.mem_cons.mp m with e | m
      · rw [e]
        have := lastD_le (d := -1) (b := 6 * (p : Int)) (by omega) ih
        omega
      · obtain ⟨s, _, e⟩ := List.mem_map.mp m
        rw [← e]
        have := getD_le (i := o.idxOf s) (b := 6 * (p : Int)) (by omega) ih
        have := hla s
        omega
theorem nowI_ge : ∀ p, -1 ≤ nowI rows o la p
  | 0 => by show (-1 : Int) ≤ -1; omega
  | p + 1 => by
    have ih := nowI_ge p
    rw [nowI_succ]
    have := (mx (nowI rows o la p + 1) ((rdO rows (o.getD p "")).map fun s => (nwL rows o la p).getD (o.idxOf s) 0 + la s)).2 _ List.mem_cons_self
    omega
theorem nwE_bd (hla : ∀ s, la s ≤ 5) (ho : o.length ≤ 8) : 0 ≤ nwE rows o la live ∧ nwE rows o la live ≤ 60 := by
  have le := nwL_le (rows := rows) (o := o) hla o.length
  have ge := nowI_ge (rows := rows) (o := o) (la := la) o.length
  have m := mx ((nwL rows o la o.length).getLastD (-1) + 1) (live.map fun s => (nwL rows o la o.length).getD (o.idxOf s) 0 + la s)
  constructor
  · have := m.2 _ List.mem_cons_self
    have ge : -1 ≤ (nwL rows o la o.length).getLastD (-1) := ge
    show 0 ≤ maxL _
    omega
  · show maxL _ ≤ 60
    rcases List.mem_cons.mp m.1 with e | m
    · rw [e]
      have := lastD_le (d := -1) (b := 6 * (o.length : Int)) (by omega) le
      omega
    · obtain ⟨s, _, e⟩ := List.mem_map.mp m
      rw [← e]
      have := getD_le (i := o.idxOf s) (b := 6 * (o.length : Int)) (by omega) le
      have := hla s
      omega
theorem laS_le (h5 : ∀ s, L s ≤ 5) (S : List Str) (s : Str) : laS rows L S s ≤ 5 := by
  unfold laS
  have := h5 s
  split
  · split <;> omega
  · omega
/-! rows with ends -/
def rowT (rows : List Row) (live o : List Str) (L : Str → Int) (S : List Str) : IV := .tup [.int (S.length : Nat), tupS S, .int (nE rows live o L S)]
def datT (rows : List Row) (live o : List Str) (L : Str → Int) (S : List Str) : PyData := keyT S (nE rows live o L S)
theorem enc_rowT (k : Nat) (S : List Str) {h : IH} : encH h (k + 3) (rowT rows live o L S) = some (datT rows live o L S) := by
  show (([IV.int (S.length : Nat), tupS S, .int (nE rows live o L S)] : List IV).mapM (encH h (k + 2))).map PyData.tuple = _
  rw [List.mapM_cons, List.mapM_cons, List.mapM_cons, enc_tupS]; rfl
theorem enc_rowTs (k : Nat) {h : IH} : ∀ Ss : List (List Str), (Ss.map (rowT rows live o L)).mapM (encH h (k + 3)) = some (Ss.map (datT rows live o L))
  | [] => rfl
  | S :: Ss => by
    rw [List.map_cons, List.mapM_cons, enc_rowT, enc_rowTs k Ss]; rfl
theorem alike_datT (S T : List Str) : PySem.W.alike (datT rows live o L S) (datT rows live o L T) = true := by
  simp [datT, keyT, PySem.W.alike, PySem.W.alikeAll, alike_strs2]
theorem depth_datT (S : List Str) : (datT rows live o L S).depth ≤ 60 := by
  unfold datT keyT
  have : (PyData.tuple [.int (S.length : Nat), .tuple (S.map .str), .int (nE rows live o L S)]).depth ≤ 2 := by simp [PyData.depth, PyData.depthAll, depth_strS]
  omega
theorem sort_rowT {h : IH} {n : Nat} {Z : List (List Str)} (e : h[n]? = some (.lst (Z.map (rowT rows live o L)))) (hl : Z.length ≤ 1000) : sortM [.ref n] h = some (.ok (.ref h.length), h ++ [.lst ((Z.mergeSort (PySem.W.dataLe false (datT rows live o L))).map (rowT rows live o L))]) := by
  refine sort_gen e (enc_rowTs 63 Z) ?_ ?_ ?_ (by omega)
  · unfold alikeB
    rw [List.all_eq_true]
    intro d hd
    rw [List.all_eq_true]
    intro e he
    obtain ⟨x, _, rfl⟩ := List.mem_map.mp hd
    obtain ⟨y, _, rfl⟩ := List.mem_map.mp he
    exact alike_datT x y
  · unfold sortableB
    rw [Bool.or_eq_true]; left
    rw [List.all_eq_true]
    intro d hd
    obtain ⟨S, _, rfl⟩ := List.mem_map.mp hd
    rfl
  · rw [List.all_eq_true]
    intro d hd
    obtain ⟨S, _, rfl⟩ := List.mem_map.mp hd
    exact decide_eq_true (depth_datT S)
theorem sorted_pw (Z : List (List Str)) : (Z.mergeSort (PySem.W.dataLe false (datT rows live o L))).Pairwise fun S T => ltD (datT rows live o L T) (datT rows live o L S) = false := by
  have t := (PySem.W.sortLe_total (PyProof.Rows.listOrd PyProof.Rows.itemOrd) false fun S : List Str => PySem.W.keyToks (datT rows live o L S))
  have p := List.pairwise_mergeSort (le := PySem.W.dataLe false (datT rows live o L)) (fun a b c h1 h2 => t.trans a b c h1 h2) (fun a b => by rw [Bool.or_eq_true]; exact t.total a b) Z
  refine p.imp fun {S T} h => ?_
  have h : (!ltD (datT rows live o L T) (datT rows live o L S)) = true := h
  simpa using h
/-- the few that fit, in order -/
def fewL (rows : List Row) (live o : List Str) (L : Str → Int) (E : Int) (Z : List (List Str)) : List (List Str) := (Z.mergeSort (PySem.W.dataLe false (datT rows live o L))).filter fun S => decide (nE rows live o L S ≤ E)
theorem fewL_mem {E : Int} {Z : List (List Str)} {S : List Str} : S ∈ fewL rows live o L E Z ↔ S ∈ Z ∧ nE rows live o L S ≤ E := by
  unfold fewL
  rw [List.mem_filter, (List.mergeSort_perm _ _).mem_iff, decide_eq_true_iff]
theorem fewL_head {E : Int} {Z : List (List Str)} {S : List Str} {r : List (List Str)} (e : fewL rows live o L E Z = S :: r) : ∀ T ∈ Z, nE rows live o L T ≤ E → ltD (datT rows live o L T) (datT rows live o L S) = false := by
  intro T hT hE
  have m : T ∈ S :: r := e ▸ fewL_mem.mpr ⟨hT, hE⟩
  have pw := (sorted_pw (rows := rows) (live := live) (o := o) (L := L) Z).filter (fun S => decide (nE rows live o L S ≤ E))
  rw [show (Z.mergeSort (PySem.W.dataLe false (datT rows live o L))).filter (fun S => decide (nE rows live o L S ≤ E)) = S :: r from e] at pw
  rcases List.mem_cons.mp m with rfl | m
  · exact ltD_irr
  · exact (List.pairwise_cons.mp pw).1 T m
/-- what the law awaits -/
def dueV (rows : List Row) (live o : List Str) (L : Str → Int) (E : Int) (Z : List (List Str)) : IV := match fewL rows live o L E Z with
  | [] => .non
  | S :: _ => tupS S
theorem few_due (G : Good8 rows) (O : Ord rows o) (lv : ∀ s ∈ live, s ∈ rows.map Row.name) (h1 : ∀ s, 1 ≤ L s) (h0 : 0 < o.length) {E : Int} {Z : List (List Str)} (p : Z.Perm (setsP (slowL rows))) {y : IV} (F : Few rows live o L E y) : y = dueV rows live o L E Z := by
  have ne := nE_end (live := live) G O lv h1 h0
  unfold dueV
  cases q : fewL rows live o L E Z with
  | nil =>
    rcases F with ⟨rfl, _⟩ | ⟨M, hM, eM, rfl, _⟩
    · rfl
    · exfalso
      have : M ∈ fewL rows live o L E Z := fewL_mem.mpr ⟨p.mem_iff.mpr (sets_up hM), by rw [ne]; exact eM⟩
      rw [q] at this; cases this
  | cons S r =>
    have mS : S ∈ fewL rows live o L E Z := by rw [q]; exact List.mem_cons_self
    obtain ⟨zS, eS⟩ := fewL_mem.mp mS
    have hS := p.mem_iff.mp zS
    rw [ne] at eS
    have hd := fewL_head q
    unfold datT at hd
    simp only [ne] at hd
    rcases F with ⟨rfl, no⟩ | ⟨M, hM, eM, rfl, lM⟩
    · exfalso
      obtain ⟨c1, c2, c3⟩ := cut_set (live := live) (o := o) G h1 hS
      exact no _ c1 (by rw [c3]; exact eS)
    · rw [choice G h1 hS eS (fun T hT eT => hd T (p.mem_iff.mpr hT) eT) hM eM lM]
end
end K28
set_option autoImplicit true
set_option Elab.async false
set_option linter.all false
set_option maxRecDepth 100000
set_option maxHeartbeats 1000000
namespace K28
open PySem L2 Iv
/-! the rows of all sets, by the law's machine -/
theorem kvN_none {α : Type} {key : α → Str} {val : α → IV} {l : List α} {s : Str} (n : s ∉ l.map key) : valI (kvN key val l) (.inr s) = none := by
  unfold valI
  rw [Option.map_eq_none_iff, List.find?_eq_none]
  intro kv hkv
  obtain ⟨a, ha, rfl⟩ := List.mem_map.mp hkv
  rw [decide_eq_true_iff]
  intro q
  exact n (List.mem_map.mpr ⟨a, ha, Sum.inr.inj q⟩)
def mkB : Iv.Env → M Fl := (SeqS (AsgS (CallB dictM (Cons (LcE LN (Iter (Var 4)) (.t [12, 11]) YesT (Tup (Cons (Var 12) (Cons (IfE (Tst (Bin (inM false) (Var 12) (Var 6))) (Cst (.int 1)) (Var 11)) Nil))) [12, 11]) Nil)) (TgN 7))
    (DropS (Mth chkL appM (Var 5) (Cons (Tup (Cons (CallB lenM (Cons (Var 6) Nil)) (Cons (Var 6) (Cons (CallF 3 F__law_end (Cons (Var 2) (Cons (Var 3) (Cons (Var 7) Nil)))) Nil)))) Nil))))
section
variable {rows : List Row} {live o : List Str} {L : Str → Int}
def quick (L : Str → Int) (S : List Str) (s : Str) : Int := if s ∈ S then 1 else L s
theorem mk_step {h : IH} {F : Nat} {S : List Str} {acc : List IV} {o0 o1 o7 o8 o9 o10 : Option IV} (G : Good8 rows) (O : Ord rows o) (lv : ∀ s ∈ live, s ∈ rows.map Row.name) (ll : live.length ≤ 8) (hF : h[F]? = some (.lst acc)) (ha : acc.length < 1000) :
    Ok (mkB [o0, o1, some (blkV rows live), some (.tup (o.map .str)), some (latV rows L), some (.ref F), some (tupS S), o7, o8, o9, o10, none, none]) h fun f h' => ∃ o7', f = .nx [o0, o1, some (blkV rows live), some (.tup (o.map .str)), some (latV rows L), some (.ref F), some (tupS S), o7', o8, o9, o10, none, none] ∧
      (∀ n z, n ≠ F → h[n]? = some z → h'[n]? = some z) ∧ h'[F]? = some (.lst (acc ++ [rowT rows live o L S])) := by
  have hl := G.hl
  have sl := slow_len (rows := rows)
  let v : IV := blkV rows live
  let env : Iv.Env := [o0, o1, some v, some (.tup (o.map .str)), some (latV rows L), some (.ref F), some (tupS S), o7, o8, o9, o10, none, none]
  let ps : List IV := (slowL rows).map fun s => IV.tup [.str s, .int (quick L S s)]
  have q := lcE_pure (k := LN) (src := Iter (Var 4)) (s := SItems ((slowL rows).map fun s => .tup [.str s, .int (L s)])) (p := .t [12, 11]) (c := YesT) (el := Tup (Cons (Var 12) (Cons (IfE (Tst (Bin (inM false) (Var 12) (Var 6))) (Cst (.int 1)) (Var 11)) Nil))) (vs := [12, 11]) (env := env) (h := h) (h1 := h)
    ((slowL rows).map fun s => .tup [.str s, .int (L s)]) (fun _ => true) (fun x => match x with | .tup [.str s, .int n] => .tup [.str s, .int (if s ∈ S then 1 else n)] | x => x)
    (iter_ok (x := latV rows L) rfl rfl) (LN_ok (by rw [List.length_map]; omega)) (by rw [List.length_map]; omega) (fun acc i => rfl)
    (fun x hx => by
      obtain ⟨s, hs, rfl⟩ := List.mem_map.mp hx
      refine ⟨_, rfl, fun acc => ⟨rfl, fun _ => ?_⟩⟩
      have t := tst_ok (a := Bin (inM false) (Var 12) (Var 6)) (env := [o0, o1, some v, some (.tup (o.map .str)), some (latV rows L), some (.ref F), some (tupS S), o7, o8, o9, o10, some (.int (L s)), some (.str s)]) (h := h ++ [.lst acc]) (bin_ok (x := .str s) (y := tupS S) rfl rfl in_tup)
      refine tup_ok (xs := [.str s, .int (if s ∈ S then 1 else L s)]) (two_ok (x := .str s) (y := .int (if s ∈ S then 1 else L s)) rfl ?_) (by show 2 ≤ 100000; omega)
      by_cases c : s ∈ S
      · rw [decide_eq_true c] at t
        rw [if_pos c]; exact ifE_tt t rfl
      · rw [decide_eq_false c] at t
        rw [if_neg c]; exact ifE_ff t rfl)
  rw [List.filter_eq_self.mpr (fun _ _ => rfl), List.map_map] at q
  have q : LcE LN (Iter (Var 4)) (.t [12, 11]) YesT (Tup (Cons (Var 12) (Cons (IfE (Tst (Bin (inM false) (Var 12) (Var 6))) (Cst (.int 1)) (Var 11)) Nil))) [12, 11] env h = some (.ok (.ref h.length), h ++ [.lst ps]) := q
  have qd := dict_pairs (key := id) (val := fun s => IV.int (quick L S s)) (l := slowL rows) (h := h ++ [.lst ps]) (n := h.length) (by rw [List.map_id]; exact slow_nd G.nd) push_len
  let h2 : IH := (h ++ [.lst ps]) ++ [.dic (kvN id (fun s => IV.int (quick L S s)) (slowL rows))]
  have g2 : Gr h h2 := (Gr.push _ _).trans (Gr.push _ _)
  have ln2 : (h ++ [Iv.IO.lst ps]).length = h.length + 1 := by rw [List.length_append]; rfl
  obtain ⟨y, h3, q3, rfl, g3⟩ := law_end_ok (h := h2) (la := laS rows L S) (Q := h.length + 1) (kq := kvN id (fun s => IV.int (quick L S s)) (slowL rows)) G O lv ll (by rw [← ln2]; exact push_len) (fun s => by
    unfold laS
    by_cases c : s ∈ slowL rows
    · have := kvN_val (key := id) (val := fun s => IV.int (quick L S s)) (a := s) (by rw [List.map_id]; exact slow_nd G.nd) c
      rw [show valI (kvN id (fun s => IV.int (quick L S s)) (slowL rows)) (.inr s) = some (.int (quick L S s)) from this, if_pos c]; rfl
    · rw [kvN_none (by rw [List.map_id]; exact c), if_neg c]; rfl)
  have F3 := g3 _ _ (g2 _ _ hF)
  rw [ln2] at qd
  let env2 : Iv.Env := [o0, o1, some v, some (.tup (o.map .str)), some (latV rows L), some (.ref F), some (tupS S), some (.ref (h.length + 1)), o8, o9, o10, none, none]
  have s1 : AsgS (CallB dictM (Cons (LcE LN (Iter (Var 4)) (.t [12, 11]) YesT (Tup (Cons (Var 12) (Cons (IfE (Tst (Bin (inM false) (Var 12) (Var 6))) (Cst (.int 1)) (Var 11)) Nil))) [12, 11]) Nil)) (TgN 7) env h = some (.ok (.nx env2), h2) := asg_ok (i := 7) (callB_ok (one_ok q) qd)
  have s2 : DropS (Mth chkL appM (Var 5) (Cons (Tup (Cons (CallB lenM (Cons (Var 6) Nil)) (Cons (Var 6) (Cons (CallF 3 F__law_end (Cons (Var 2) (Cons (Var 3) (Cons (Var 7) Nil)))) Nil)))) Nil)) env2 h2 = some (.ok (.nx env2), h3.set F (.lst (acc ++ [rowT rows live o L S]))) := by
    -- the list is looked up before its item is made
    refine drop_ok (x := .non) (mth_ok (x := .ref F) rfl (chk_lst (g2 _ _ hF)) (one_ok (x := rowT rows live o L S) (tup_ok (xs := [.int (S.length : Nat), tupS S, .int (nE rows live o L S)]) (cons_ok (x := .int (S.length : Nat)) (callB_ok (one_ok (x := tupS S) rfl) (by show lenM [.tup (S.map .str)] _ = _; rw [len_tup, List.length_map])) (two_ok (x := tupS S) (y := .int (nE rows live o L S)) rfl (callF_ok (cons_ok (x := v) rfl (two_ok (x := .tup (o.map .str)) (y := .ref (h.length + 1)) rfl rfl)) rfl q3))) (by show 3 ≤ 100000; omega))) (app_lst F3 (by omega)))
  refine ⟨_, _, (seq_nx s1).trans s2, _, rfl, fun n z hn e => ?_, List.getElem?_set_self (List.getElem?_eq_some_iff.mp F3).1⟩
  rw [List.getElem?_set_ne (Ne.symm hn)]
  exact g3 _ _ (g2 _ _ e)
theorem mk_loop {h : IH} {u : Nat} {F : Nat} {o1 o6 o7 o8 o9 o10 : Option IV} (G : Good8 rows) (O : Ord rows o) (lv : ∀ s ∈ live, s ∈ rows.map Row.name) (ll : live.length ≤ 8) (hF : h[F]? = some (.lst [])) :
    Ok (ForS LN (Iter (CallF 1 F__law_sets (Cons (CallF 1 F__law_slow (Cons (Var 2) Nil)) Nil))) (TgN 6) mkB [some (.ref u), o1, some (blkV rows live), some (.tup (o.map .str)), some (latV rows L), some (.ref F), o6, o7, o8, o9, o10, none, none]) h fun f h' => ∃ (Z : List (List Str)) (o6' o7' : Option IV), f = .nx [some (.ref u), o1, some (blkV rows live), some (.tup (o.map .str)), some (latV rows L), some (.ref F), o6', o7', o8, o9, o10, none, none] ∧
      Z.Perm (setsP (slowL rows)) ∧ h'[F]? = some (.lst (Z.map (rowT rows live o L))) ∧ ∀ n z, n ≠ F → h[n]? = some z → h'[n]? = some z := by
  have hl := G.hl
  have sl := slow_len (rows := rows)
  have fl := (List.getElem?_eq_some_iff.mp hF).1
  let v : IV := blkV rows live
  obtain ⟨y, h2, q2, m, Z, rfl, pZ, eZ, g2, ml⟩ := law_sets_ok (h := h ++ [.lst ((slowL rows).map .str)]) (l := slowL rows) (by omega)
  have hZ : Z.length ≤ 256 := by
    rw [pZ.length_eq, setsP_len]
    have := Nat.pow_le_pow_right (n := 2) (by omega) (show (slowL rows).length ≤ 8 by omega)
    omega
  rw [List.length_append] at ml
  have mF : m ≠ F := by omega
  have F2 : h2[F]? = some (.lst []) := g2 _ _ (Gr.push _ _ _ _ hF)
  obtain ⟨f, h3, q3, env3, rfl, o6', o7', rfl, g3, e3⟩ := forS_ok (src := Iter (CallF 1 F__law_sets (Cons (CallF 1 F__law_slow (Cons (Var 2) Nil)) Nil))) (s := SLive m) (t := TgN 6) (b := mkB) (n := Z.length) (k := LN) (env := [some (.ref u), o1, some v, some (.tup (o.map .str)), some (latV rows L), some (.ref F), o6, o7, o8, o9, o10, none, none]) (h := h) (h1 := h2)
    (fun i env h' => ∃ o6 o7, env = [some (.ref u), o1, some v, some (.tup (o.map .str)), some (latV rows L), some (.ref F), o6, o7, o8, o9, o10, none, none] ∧ (∀ n z, n ≠ F → h2[n]? = some z → h'[n]? = some z) ∧ h'[F]? = some (.lst ((Z.take i).map (rowT rows live o L))))
    (iter_ok (x := .ref m) (callF_ok (one_ok (callF_ok (one_ok (x := v) rfl) rfl (slow_ok hl))) rfl q2) (src_lst eZ)) (LN_ok (by omega)) ⟨o6, o7, rfl, fun _ _ _ e => e, F2⟩
    (by
      rintro i env h' hi ⟨o6, o7, rfl, g, e⟩
      have em := g m _ mF eZ
      obtain ⟨f, h'', q, o7', rfl, r1, r2⟩ := mk_step (L := L) (S := Z[i]) (o0 := some (.ref u)) (o1 := o1) (o7 := o7) (o8 := o8) (o9 := o9) (o10 := o10) G O lv ll e (by rw [List.length_map, List.length_take]; omega)
      refine ⟨tupS Z[i], by rw [slive em, List.getElem?_map, List.getElem?_eq_getElem hi]; rfl, _, _, (bind_ok (x := [some (.ref u), o1, some v, some (.tup (o.map .str)), some (latV rows L), some (.ref F), some (tupS Z[i]), o7, o8, o9, o10, none, none]) (h1 := h') rfl).trans q, _, .inl rfl, _, _, rfl, fun n z hn e => r1 n z hn (g n z hn e), ?_⟩
      rw [List.take_succ, List.getElem?_eq_getElem hi, List.map_append]
      exact r2)
    (by
      rintro env h' ⟨o6, o7, rfl, g, e⟩
      rw [slive (g m _ mF eZ), List.getElem?_eq_none (by rw [List.length_map]; exact Nat.le_refl _)])
  rw [List.take_length] at e3
  exact ⟨_, h3, q3, Z, o6', o7', rfl, pZ, e3, fun n z hn e => g3 n z hn (g2 _ _ (Gr.push _ _ _ _ e))⟩
end
end K28
set_option autoImplicit true
set_option Elab.async false
set_option linter.all false
set_option maxRecDepth 100000
set_option maxHeartbeats 1000000
namespace K28
open PySem L2 Iv
/-! one tick -/
theorem canStr (S : List Str) (o : ∀ s ∈ S, PyData.strOk s = true) : PyData.canLay0 (keyP S) = true := by
  simp [keyP, PyData.canLay0, PyData.canLayAll0, canAll S o]
theorem canRows : ∀ (Ss : List (List Str)), (∀ S ∈ Ss, ∀ s ∈ S, PyData.strOk s = true) → PyData.canLayAll0 (Ss.map keyP) = true
  | [], _ => by simp [PyData.canLayAll0]
  | S :: Ss, o => by
    have h1 := canStr S (o S (by simp))
    have h2 := canRows Ss fun T hT => o T (by simp [hT])
    simp [PyData.canLayAll0, h1, h2]
theorem shaped_rows {Ss : List (List Str)} (o : ∀ S ∈ Ss, ∀ s ∈ S, PyData.strOk s = true) : SeqAt.shaped (.list (Ss.map keyP)) = true := by
  unfold SeqAt.shaped
  have d := depths_le (n := 2) (l := Ss.map keyP) fun d hd => by
    obtain ⟨T, _, rfl⟩ := List.mem_map.mp hd
    exact depth_keyP T
  have c := canRows Ss o
  simp [PyData.canLay0, c, PyData.depth]
  omega
theorem eqv_rnil (Ss : List (List Str)) : PyData.eqv (.list (Ss.map keyP)) (.list []) = Ss.isEmpty := by
  cases Ss <;> simp [PyData.eqv, PyData.eqvAll]
theorem neI_rows_nil {h : IH} {a b : Nat} {Ss : List (List Str)} (o : ∀ S ∈ Ss, ∀ s ∈ S, PyData.strOk s = true) (e : h[a]? = some (.lst (Ss.map rowS))) (e2 : h[b]? = some (.lst [])) : neI (.ref a) (.ref b) h = some (.ok (.bl (!Ss.isEmpty)), h) := by
  have q1 : encH h 66 (.ref a) = some (.list (Ss.map keyP)) := by
    show (match h[a]? with
    | some (.lst xs) => (xs.mapM (encH h 65)).map PyData.list
    | _ => none) = _
    simp only [e]
    rw [enc_rowSs 62]; rfl
  have q2 : encH h 66 (.ref b) = some (.list []) := by
    show (match h[b]? with
    | some (.lst xs) => (xs.mapM (encH h 65)).map PyData.list
    | _ => none) = _
    simp only [e2]; rfl
  show (eqG h (.ref a) (.ref b)).map _ = _
  unfold eqG
  rw [q1, q2]
  simp only
  rw [if_pos ⟨shaped_rows o, shaped_strs (ss := []) (by simp)⟩, eqv_rnil]; rfl
theorem same_non (k : Nat) (h : IH) : F__law_same (k + 1) [.non, .non] h = some (.ok (.bl true), h) := rfl
theorem same_due {y : IV} (h : IH) (c : y = .non ∨ ∃ S, y = tupS S ∧ S.length < 100000) : Ok (F__law_same 16 [y, y]) h fun v h' => v = .bl true ∧ Gr h h' := by
  rcases c with rfl | ⟨S, rfl, l⟩
  · exact ⟨_, _, same_non 15 h, rfl, Gr.refl h⟩
  · refine same_pq 16 _ h ⟨by rw [List.length_map]; exact l, fun y hy => ?_⟩
    obtain ⟨s, _, rfl⟩ := List.mem_map.mp hy
    trivial
theorem pool8_sok {s : Str} (h : s ∈ pool8) : PyData.strOk s = true := by
  have : pool8.all PyData.strOk = true := by decide +kernel
  exact List.all_eq_true.mp this s h
def tickB : Iv.Env → M Fl := (SeqS (AsgS (LcE LN (Iter (CallB sortM (Cons (Var 5) Nil))) (.n 6) (Tst (Bin leI (Bin ixM (Var 6) (Cst (.int 2))) (Var 9))) (Sl (Var 6) NoO (SoO (Cst (.int 2)))) [6]) (TgN 10))
    (IfS (NotT (Tru (CallF 2 (F__law_same 16) (Cons (CallD 4 F_fewest_quick (Cons (Var 2) (Cons (Var 3) (Cons (Var 4) (Cons (Var 9) Nil))))) (Cons (IfE (Tst (Bin neI (Var 10) (Lst Nil))) (Bin ixM (Bin ixM (Var 10) (Cst (.int 0))) (Cst (.int 1))) (Cst .non)) Nil))))) (RetS (Cst (.bl false))) NextS))
section
variable {rows : List Row} {live o : List Str} {L : Str → Int}
theorem tick_step {h : IH} {F : Nat} {E : Int} {Z : List (List Str)} {o0 o1 o6 o7 o8 o10 o11 o12 : Option IV} (G : Good8 rows) (pd : Pd 16 (blkV rows live)) (O : Ord rows o) (lv : ∀ s ∈ live, s ∈ rows.map Row.name) (h1 : ∀ s, 1 ≤ L s) (h0 : 0 < o.length) (pZ : Z.Perm (setsP (slowL rows))) (hF : h[F]? = some (.lst (Z.map (rowT rows live o L)))) :
    Ok (tickB [o0, o1, some (blkV rows live), some (.tup (o.map .str)), some (latV rows L), some (.ref F), o6, o7, o8, some (.int E), o10, o11, o12]) h fun f h' => ∃ o10', f = .nx [o0, o1, some (blkV rows live), some (.tup (o.map .str)), some (latV rows L), some (.ref F), o6, o7, o8, some (.int E), o10', o11, o12] ∧ Gr h h' := by
  have hl := G.hl
  have sl := slow_len (rows := rows)
  have hZ : Z.length ≤ 256 := by
    rw [pZ.length_eq, setsP_len]
    have := Nat.pow_le_pow_right (n := 2) (by omega) (show (slowL rows).length ≤ 8 by omega)
    omega
  let v : IV := blkV rows live
  let env : Iv.Env := [o0, o1, some v, some (.tup (o.map .str)), some (latV rows L), some (.ref F), o6, o7, o8, some (.int E), o10, o11, o12]
  have qs := sort_rowT hF (by omega)
  let Zs := Z.mergeSort (PySem.W.dataLe false (datT rows live o L))
  have lZs : Zs.length = Z.length := List.length_mergeSort _
  let hs : IH := h ++ [.lst (Zs.map (rowT rows live o L))]
  have q := lcE_pure (k := LN) (src := Iter (CallB sortM (Cons (Var 5) Nil))) (s := SLive h.length) (p := .n 6) (c := Tst (Bin leI (Bin ixM (Var 6) (Cst (.int 2))) (Var 9))) (el := Sl (Var 6) NoO (SoO (Cst (.int 2)))) (vs := [6]) (env := env) (h := h) (h1 := hs) (Zs.map (rowT rows live o L))
    (fun x => match x with | .tup [_, _, .int n] => decide (n ≤ E) | _ => false) (fun x => match x with | .tup [a, b, _] => .tup [a, b] | x => x)
    (iter_ok (x := .ref h.length) (callB_ok (one_ok (x := .ref F) rfl) qs) (src_lst push_len)) (LN_ok (by rw [List.length_map]; omega)) (by rw [List.length_map]; omega)
    (fun acc i => slive (Gr.push _ _ _ _ push_len))
    (fun x hx => by
      obtain ⟨S, hS, rfl⟩ := List.mem_map.mp hx
      refine ⟨_, rfl, fun acc => ⟨tst_ok (bin_ok (x := .int (nE rows live o L S)) (y := .int E) (bin_ok (x := rowT rows live o L S) (y := .int 2) rfl rfl (ix_tup rfl)) rfl leI_int), fun _ => sl_to (x := rowT rows live o L S) (j := 2) rfl rfl ?_⟩⟩
      have := cutI_to (xs := [IV.int (S.length : Nat), tupS S, .int (nE rows live o L S)]) (k := 2)
      show some (Out.ok (IV.tup (cutI [IV.int (S.length : Nat), tupS S, .int (nE rows live o L S)] none (some ((2 : Nat) : Int)))), _) = _
      rw [this]; rfl)
  rw [List.filter_map, List.map_map] at q
  have q : LcE LN (Iter (CallB sortM (Cons (Var 5) Nil))) (.n 6) (Tst (Bin leI (Bin ixM (Var 6) (Cst (.int 2))) (Var 9))) (Sl (Var 6) NoO (SoO (Cst (.int 2)))) [6] env h = some (.ok (.ref hs.length), hs ++ [.lst ((fewL rows live o L E Z).map rowS)]) := q
  let h2 : IH := hs ++ [.lst ((fewL rows live o L E Z).map rowS)]
  have g2 : Gr h h2 := (Gr.push _ _).trans (Gr.push _ _)
  let env2 : Iv.Env := [o0, o1, some v, some (.tup (o.map .str)), some (latV rows L), some (.ref F), o6, o7, o8, some (.int E), some (.ref hs.length), o11, o12]
  have s1 : AsgS _ (TgN 10) env h = some (.ok (.nx env2), h2) := asg_ok (i := 10) q
  -- the program
  have hi : ∀ s ∈ awL rows live, o.idxOf s < frs rows s 0 o := fun s hs => (wt_of G O lv h1 []).idx_fr (O.perm.mem_iff.mpr (aw_mem hs))
  obtain ⟨y, hp, qp, _, Fy⟩ := fewest_ok (h := []) (L := L) (E := E) G pd O hi
  have ey := few_due G O lv h1 h0 pZ Fy
  have inS : ∀ S ∈ fewL rows live o L E Z, ∀ s ∈ S, PyData.strOk s = true := fun S hS s hs => by
    have m := ((setsP_mem _ _).mp (pZ.mem_iff.mp (fewL_mem.mp hS).1)).subset hs
    obtain ⟨r, hr, rfl⟩ := List.mem_map.mp m
    exact pool8_sok (G.pl r (List.mem_filter.mp hr).1)
  have cy : y = .non ∨ ∃ S, y = tupS S ∧ S.length < 100000 := by
    rw [ey]
    unfold dueV
    cases c : fewL rows live o L E Z with
    | nil => exact .inl rfl
    | cons S r =>
      refine .inr ⟨S, rfl, ?_⟩
      have m : S ∈ fewL rows live o L E Z := by rw [c]; exact List.mem_cons_self
      have := setsP_lens (pZ.mem_iff.mp (fewL_mem.mp m).1)
      omega
  have py : pureI y = true := by
    rcases cy with rfl | ⟨S, rfl, _⟩
    · rfl
    · exact pure_tupS S
  have a1 : CallD 4 F_fewest_quick (Cons (Var 2) (Cons (Var 3) (Cons (Var 4) (Cons (Var 9) Nil)))) env2 h2 = some (.ok y, h2) :=
    callD_pure (cons_ok (x := v) rfl (cons_ok (x := .tup (o.map .str)) rfl (two_ok (x := latV rows L) (y := .int E) rfl rfl))) pure_args rfl ⟨hp, qp⟩ py
  have t2 := tst_ok (a := Bin neI (Var 10) (Lst Nil)) (env := env2) (h := h2) (bin_ok (x := .ref hs.length) (y := .ref h2.length) rfl (lst_ok2 (xs := []) rfl (mkL_ok (by show 0 ≤ 100000; omega))) (neI_rows_nil (Ss := fewL rows live o L E Z) inS (Gr.push _ _ _ _ push_len) push_len))
  have a2 : IfE (Tst (Bin neI (Var 10) (Lst Nil))) (Bin ixM (Bin ixM (Var 10) (Cst (.int 0))) (Cst (.int 1))) (Cst .non) env2 h2 = some (.ok y, h2 ++ [.lst []]) := by
    rw [ey]
    unfold dueV
    have e10 : (h2 ++ [Iv.IO.lst []])[hs.length]? = some (.lst ((fewL rows live o L E Z).map rowS)) := Gr.push _ _ _ _ push_len
    cases c : fewL rows live o L E Z with
    | nil =>
      rw [c] at t2
      exact ifE_ff t2 rfl
    | cons S r =>
      rw [c] at t2 e10
      exact ifE_tt t2 (bin_ok (x := rowS S) (y := .int 1) (bin_ok (x := .ref hs.length) (y := .int 0) rfl rfl (ix_lst e10 (by rw [atI_nn (by omega) (by rw [List.length_map, List.length_cons]; omega)]; rfl))) rfl (ix_tup rfl))
  obtain ⟨w, h4, q4, rfl, g4⟩ := same_due (h2 ++ [.lst []]) cy
  have c4 := not_ok (k := true) (tru_bl (callF_ok (n := 2) (two_ok a1 a2) rfl q4))
  exact ⟨_, h4, (seq_nx s1).trans (ifS_ff c4 rfl), _, rfl, (g2.trans (Gr.push _ _)).trans g4⟩
/-- the ticks that are asked -/
theorem every_ok {h : IH} {F : Nat} {Z : List (List Str)} {o0 o1 o2 o4 o6 o7 o8 o9 o10 o11 o12 : Option IV} (h5 : ∀ s, L s ≤ 5) (ol : o.length ≤ 8) (hZ : Z.length ≤ 256) (ne : Z ≠ []) (hF : h[F]? = some (.lst (Z.map (rowT rows live o L)))) :
    ∃ ns : List Int, ns.length ≤ 1000 ∧ AsgS (ListRg (Bin subI (CallB lenM (Cons (Var 3) Nil)) (Cst (.int 1))) (Bin addI (CallB maxI (Cons (LcE LN (Iter (Var 5)) (.n 6) YesT (Bin ixM (Var 6) (Cst (.int 2))) [6]) Nil)) (Cst (.int 2)))) (TgN 8) [o0, o1, o2, some (.tup (o.map .str)), o4, some (.ref F), o6, o7, o8, o9, o10, o11, o12] h = some (.ok (.nx [o0, o1, o2, some (.tup (o.map .str)), o4, some (.ref F), o6, o7, some (.ref (h.length + 1)), o9, o10, o11, o12]), (h ++ [.lst ((Z.map (nE rows live o L)).map .int)]) ++ [.lst (ns.map .int)]) := by
  let env : Iv.Env := [o0, o1, o2, some (.tup (o.map .str)), o4, some (.ref F), o6, o7, o8, o9, o10, o11, o12]
  have q := lcE_pure (k := LN) (src := Iter (Var 5)) (s := SLive F) (p := .n 6) (c := YesT) (el := Bin ixM (Var 6) (Cst (.int 2))) (vs := [6]) (env := env) (h := h) (h1 := h) (Z.map (rowT rows live o L))
    (fun _ => true) (fun x => match x with | .tup [_, _, n] => n | x => x)
    (iter_ok (x := .ref F) rfl (src_lst hF)) (LN_ok (by rw [List.length_map]; omega)) (by rw [List.length_map]; omega)
    (fun acc i => slive (Gr.push _ _ _ _ hF))
    (fun x hx => by
      obtain ⟨S, hS, rfl⟩ := List.mem_map.mp hx
      exact ⟨_, rfl, fun acc => ⟨rfl, fun _ => bin_ok (x := rowT rows live o L S) (y := .int 2) rfl rfl (ix_tup rfl)⟩⟩)
  rw [List.filter_eq_self.mpr (fun _ _ => rfl), List.map_map] at q
  have eqm : (Z.map ((fun x => match x with | .tup [_, _, n] => n | x => x) ∘ rowT rows live o L)) = (Z.map (nE rows live o L)).map .int := by rw [List.map_map]; rfl
  rw [eqm] at q
  obtain ⟨S, r, rfl⟩ : ∃ S r, Z = S :: r := by
    cases Z with
    | nil => exact absurd rfl ne
    | cons S r => exact ⟨S, r, rfl⟩
  have bd : ∀ T, 0 ≤ nE rows live o L T ∧ nE rows live o L T ≤ 60 := fun T => nwE_bd (fun s => laS_le h5 T s) ol
  let h1 : IH := h ++ [.lst (((S :: r).map (nE rows live o L)).map .int)]
  have mq := max_lst (h := h1) (n := h.length) (x := nE rows live o L S) (xs := r.map (nE rows live o L)) push_len
  have mm := mx (nE rows live o L S) (r.map (nE rows live o L))
  generalize em : maxL (nE rows live o L S :: r.map (nE rows live o L)) = M at mq mm
  have bM : 0 ≤ M ∧ M ≤ 60 := by
    rcases List.mem_cons.mp mm.1 with e | e
    · rw [e]; exact bd S
    · obtain ⟨T, _, e⟩ := List.mem_map.mp e
      rw [← e]; exact bd T
  refine ⟨(List.range (M + 2 - ((o.length : Int) - 1)).toNat).map fun k => (o.length : Int) - 1 + (k : Nat), by rw [List.length_map, List.length_range]; omega, ?_⟩
  have l1 : h1.length = h.length + 1 := by show (h ++ _).length = _; rw [List.length_append]; rfl
  have qa : Bin subI (CallB lenM (Cons (Var 3) Nil)) (Cst (.int 1)) env h = some (.ok (.int ((o.length : Int) - 1)), h) := bin_ok (x := .int (o.length : Nat)) (y := .int 1) (callB_ok (one_ok (x := .tup (o.map .str)) rfl) (by rw [len_tup, List.length_map])) rfl rfl
  have qb : Bin addI (CallB maxI (Cons (LcE LN (Iter (Var 5)) (.n 6) YesT (Bin ixM (Var 6) (Cst (.int 2))) [6]) Nil)) (Cst (.int 2)) env h = some (.ok (.int (M + 2)), h1) := bin_ok (x := .int M) (y := .int 2) (callB_ok (one_ok q) mq) rfl rfl
  have ql : ListRg (Bin subI (CallB lenM (Cons (Var 3) Nil)) (Cst (.int 1))) (Bin addI (CallB maxI (Cons (LcE LN (Iter (Var 5)) (.n 6) YesT (Bin ixM (Var 6) (Cst (.int 2))) [6]) Nil)) (Cst (.int 2))) env h = some (.ok (.ref (h.length + 1)), h1 ++ [.lst (((List.range (M + 2 - ((o.length : Int) - 1)).toNat).map fun k => (o.length : Int) - 1 + (k : Nat)).map .int)]) := by
    unfold ListRg
    refine (bind_ok qa).trans ((bind_ok qb).trans ?_)
    show (if (-rngLim ≤ (o.length : Int) - 1 ∧ (o.length : Int) - 1 < rngLim) ∧ (-rngLim ≤ M + 2 ∧ M + 2 < rngLim) ∧ (M + 2 - ((o.length : Int) - 1)).toNat ≤ lim then some (Out.ok (IV.ref h1.length), h1 ++ [Iv.IO.lst (intsR ((o.length : Int) - 1) (M + 2))]) else none) = _
    rw [if_pos ⟨rngs (by omega) (by omega), rngs (by omega) (by omega), by rw [show lim = 100000 by unfold lim; rfl]; omega⟩, l1]
    unfold intsR
    rw [List.map_map]; rfl
  exact asg_ok (i := 8) ql
end
end K28
set_option autoImplicit true
set_option Elab.async false
set_option linter.all false
set_option maxRecDepth 100000
set_option maxHeartbeats 1000000
namespace K28
open PySem L2 Iv
def evB : Iv.Env → M Fl := AsgS (ListRg (Bin subI (CallB lenM (Cons (Var 3) Nil)) (Cst (.int 1))) (Bin addI (CallB maxI (Cons (LcE LN (Iter (Var 5)) (.n 6) YesT (Bin ixM (Var 6) (Cst (.int 2))) [6]) Nil)) (Cst (.int 2)))) (TgN 8)
def ticksB : Iv.Env → M Fl := ForS LN (Iter (CallF 3 F__law_pick (Cons (Var 0) (Cons (Var 8) (Cons (Cst (.int 6)) Nil))))) (TgN 9) tickB
def turnB : Iv.Env → M Fl := (SeqS (AsgS (CallF 2 F__law_block (Cons (Var 0) (Cons (Bin addI (Cst (.int 1)) (CallF 2 F__law_take (Cons (Var 0) (Cons (Cst (.int 6)) Nil)))) Nil))) (TgN 2))
    (SeqS (ParS 3 4 (Cons (CallF 2 F__law_order (Cons (Var 0) (Cons (Var 2) Nil))) (Cons (CallF 3 F__law_lasts (Cons (Var 0) (Cons (Var 2) (Cons (Cst (.int 5)) Nil)))) Nil)))
    (SeqS (AsgS (Lst Nil) (TgN 5))
    (SeqS (ForS LN (Iter (CallF 1 F__law_sets (Cons (CallF 1 F__law_slow (Cons (Var 2) Nil)) Nil))) (TgN 6) mkB)
    (SeqS evB ticksB)))))
theorem ticks_ok {h : IH} {u c F e8 : Nat} {rows : List Row} {live o : List Str} {L : Str → Int} {Z : List (List Str)} {ns : List Int} {o1 o6 o7 o9 o10 o11 o12 : Option IV} (U : Ur h u (c + 6)) (G : Good8 rows) (pd : Pd 16 (blkV rows live)) (O : Ord rows o) (lv : ∀ s ∈ live, s ∈ rows.map Row.name) (h1 : ∀ s, 1 ≤ L s) (h0 : 0 < o.length) (pZ : Z.Perm (setsP (slowL rows)))
    (hF : h[F]? = some (.lst (Z.map (rowT rows live o L)))) (h8 : h[e8]? = some (.lst (ns.map .int))) (nl : ns.length ≤ 1000) (uF : u ≠ F) (u8 : u ≠ e8) :
    Ok (ticksB [some (.ref u), o1, some (blkV rows live), some (.tup (o.map .str)), some (latV rows L), some (.ref F), o6, o7, some (.ref e8), o9, o10, o11, o12]) h fun f h' => (∃ o9 o10, f = .nx [some (.ref u), o1, some (blkV rows live), some (.tup (o.map .str)), some (latV rows L), some (.ref F), o6, o7, some (.ref e8), o9, o10, o11, o12]) ∧ Ur h' u c ∧ GrX u h h' := by
  obtain ⟨w, h2, q2, m, ys, rest, rfl, ml, em, pm, lm, U2, G2⟩ := pick_ok (h := h) (u := u) (l := e8) (c := c) (k := 6) (xs := ns.map .int) u8 U h8 (by rw [List.length_map]; exact nl)
  have yl : ys.length ≤ 6 := by omega
  have F2 := G2 F _ (Ne.symm uF) hF
  let v : IV := blkV rows live
  obtain ⟨f, h3, q3, env3, rfl, o9', o10', rfl, g3⟩ := forS_ok (src := Iter (CallF 3 F__law_pick (Cons (Var 0) (Cons (Var 8) (Cons (Cst (.int 6)) Nil))))) (s := SLive m) (t := TgN 9) (b := tickB) (n := ys.length) (k := LN) (env := [some (.ref u), o1, some v, some (.tup (o.map .str)), some (latV rows L), some (.ref F), o6, o7, some (.ref e8), o9, o10, o11, o12]) (h := h) (h1 := h2)
    (fun i env h' => ∃ o9 o10, env = [some (.ref u), o1, some v, some (.tup (o.map .str)), some (latV rows L), some (.ref F), o6, o7, some (.ref e8), o9, o10, o11, o12] ∧ Gr h2 h')
    (iter_ok (x := .ref m) (callF_ok (cons_ok (x := .ref u) rfl (two_ok (x := .ref e8) (y := .int (6 : Nat)) rfl rfl)) rfl q2) (src_lst em)) (LN_ok (by omega)) ⟨o9, o10, rfl, Gr.refl _⟩
    (by
      rintro i env h' hi ⟨o9, o10, rfl, g⟩
      obtain ⟨E, hE, eE⟩ := List.mem_map.mp (pm.mem_iff.mp (List.mem_append_left rest (List.getElem_mem hi)))
      obtain ⟨f, h'', q, o10', rfl, g'⟩ := tick_step (h := h') (E := E) (o0 := some (.ref u)) (o1 := o1) (o6 := o6) (o7 := o7) (o8 := some (.ref e8)) (o10 := o10) (o11 := o11) (o12 := o12) G pd O lv h1 h0 pZ (g _ _ F2)
      have e1 : TgN 9 (.int E) [some (.ref u), o1, some v, some (.tup (o.map .str)), some (latV rows L), some (.ref F), o6, o7, some (.ref e8), o9, o10, o11, o12] h' = some (.ok [some (.ref u), o1, some v, some (.tup (o.map .str)), some (latV rows L), some (.ref F), o6, o7, some (.ref e8), some (.int E), o10, o11, o12], h') := rfl
      refine ⟨.int E, by rw [slive (g _ _ em), List.getElem?_eq_getElem hi, eE], _, _, (bind_ok e1).trans q, _, .inl rfl, _, _, rfl, g.trans g'⟩)
    (by
      rintro env h' ⟨o9, o10, rfl, g⟩
      rw [slive (g _ _ em), List.getElem?_eq_none (Nat.le_refl _)])
  exact ⟨_, h3, q3, ⟨o9', o10', rfl⟩, U2.gr g3, fun n p hn e => g3 _ _ (G2 n p hn e)⟩
theorem turn_ok {h : IH} {u c : Nat} {o1 o2 o3 o4 o5 o6 o7 o8 o9 o10 : Option IV} (U : Ur h u (c + 200)) : Ok (turnB [some (.ref u), o1, o2, o3, o4, o5, o6, o7, o8, o9, o10, none, none]) h fun f h' => (∃ o2 o3 o4 o5 o6 o7 o8 o9 o10, f = .nx [some (.ref u), o1, o2, o3, o4, o5, o6, o7, o8, o9, o10, none, none]) ∧ Ur h' u c ∧ GrX u h h' := by
  have ul := U.lt
  obtain ⟨x, h1, q1, r, rfl, r0, r1, U1, G1, L1⟩ := take_ok (n := 6) (c := c + 199) (U.le (by omega)) (by omega) (by omega)
  have er : (1 : Int) + r = (((1 + r).toNat : Nat) : Int) := by omega
  generalize em : (1 + r).toNat = many at er
  have m0 : 0 < many := by omega
  have m8 : many ≤ 6 := by omega
  obtain ⟨v, h2, q2, ⟨B⟩, U2, G2⟩ := block_ok (h := h1) (u := u) (c := c + 60) (many := many) (U1.le (by omega)) (by omega)
  obtain ⟨w, h3, q3, ⟨o, rfl, O⟩, U3, G3⟩ := order_ok (c := c + 40) (U2.le (by omega)) B (by omega)
  have G := B.g8 (by omega)
  have pd := blk_pd (k := 11) B (by omega)
  have ev : v = blkV B.rows B.live := B.eq
  have lv : ∀ s ∈ B.live, s ∈ B.rows.map Row.name := fun s hs => (B.perm.map Row.name).mem_iff.mpr (B.lv s hs)
  have ll : B.live.length ≤ 8 := by have := B.lens; omega
  have ol : o.length = many := by rw [O.perm.length_eq, List.length_map, B.ln]
  obtain ⟨w, h4, q4, L, rfl, hL, U4, G4⟩ := law_lasts_ok (c := c + 20) (h := h3) (w := .tup (B.live.map .str)) (U3.le (by omega)) G.nd G.hl
  have q4 : F__law_lasts [.ref u, blkV B.rows B.live, .int 5] h3 = some (.ok (latV B.rows L), h4) := q4
  rw [ev] at q2 q3 pd
  let rows := B.rows
  let live := B.live
  have u4 := U4.lt
  let h5 : IH := h4 ++ [.lst []]
  obtain ⟨f, h6, q6, Z, o6', o7', rfl, pZ, eF, g6⟩ := mk_loop (L := L) (h := h5) (u := u) (F := h4.length) (o1 := o1) (o6 := o6) (o7 := o7) (o8 := o8) (o9 := o9) (o10 := o10) G O lv ll push_len
  have hZ : Z.length ≤ 256 := by
    rw [pZ.length_eq, setsP_len]
    have := slow_len (rows := B.rows)
    have := G.hl
    have := Nat.pow_le_pow_right (n := 2) (by omega) (show (slowL B.rows).length ≤ 8 by omega)
    omega
  have nZ : Z ≠ [] := by
    intro c
    subst c
    have := pZ.length_eq
    rw [setsP_len] at this
    have z := Nat.two_pow_pos (slowL B.rows).length
    have : (0 : Nat) = 2 ^ (slowL B.rows).length := this
    omega
  obtain ⟨ns, nl, q7⟩ := every_ok (h := h6) (F := h4.length) (Z := Z) (o0 := some (.ref u)) (o1 := o1) (o2 := some (blkV B.rows B.live)) (o4 := some (latV B.rows L)) (o6 := o6') (o7 := o7') (o8 := o8) (o9 := o9) (o10 := o10) (o11 := none) (o12 := none) (fun s => (hL s).2) (by omega) hZ nZ eF
  let h7 : IH := (h6 ++ [.lst ((Z.map (nE B.rows B.live o L)).map .int)]) ++ [.lst (ns.map .int)]
  have U6 : Ur h6 u (c + 20) := by
    obtain ⟨a, b, d, z1, z2⟩ := U4
    exact ⟨a, b, d, g6 u _ (by omega) (Gr.push _ _ _ _ z1), z2⟩
  have l6 := U6.lt
  have F6 := (List.getElem?_eq_some_iff.mp eF).1
  obtain ⟨f, h8, q8, ⟨o9', o10', rfl⟩, U8, G8⟩ := ticks_ok (h := h7) (u := u) (c := c) (F := h4.length) (e8 := h6.length + 1) (ns := ns) (o1 := o1) (o6 := o6') (o7 := o7') (o9 := o9) (o10 := o10) (o11 := none) (o12 := none) ((U6.push.push).le (by omega)) G pd O lv (fun s => (hL s).1) (by omega) pZ (Gr.push _ _ _ _ (Gr.push _ _ _ _ eF)) (by
    have := push_len (h := h6 ++ [Iv.IO.lst ((Z.map (nE B.rows B.live o L)).map .int)]) (o := .lst (ns.map .int))
    rw [List.length_append] at this
    exact this) nl (by omega) (by omega)
  have GR : GrX u h h8 := by
    intro n p hn e
    have nl := (List.getElem?_eq_some_iff.mp e).1
    have a1 := G4 n p hn (G3 n p hn (G2 n p hn (G1 n p hn e)))
    have nl4 := (List.getElem?_eq_some_iff.mp a1).1
    exact G8 n p hn (Gr.push _ _ _ _ (Gr.push _ _ _ _ (g6 n p (by omega) (Gr.push _ _ _ _ a1))))
  have s2 : ParS 3 4 (Cons (CallF 2 F__law_order (Cons (Var 0) (Cons (Var 2) Nil))) (Cons (CallF 3 F__law_lasts (Cons (Var 0) (Cons (Var 2) (Cons (Cst (.int 5)) Nil)))) Nil)) [some (.ref u), o1, some (blkV B.rows B.live), o3, o4, o5, o6, o7, o8, o9, o10, none, none] h2 = some (.ok (.nx [some (.ref u), o1, some (blkV B.rows B.live), some (.tup (o.map .str)), some (latV B.rows L), o5, o6, o7, o8, o9, o10, none, none]), h4) := by
    unfold ParS
    exact (bind_ok (two_ok (x := .tup (o.map .str)) (y := latV B.rows L) (callF_ok (two_ok (x := .ref u) (y := blkV B.rows B.live) rfl rfl) rfl q3) (callF_ok (cons_ok (x := .ref u) rfl (two_ok (x := blkV B.rows B.live) (y := .int 5) rfl rfl)) rfl q4))).trans rfl
  have s3 : AsgS (Lst Nil) (TgN 5) [some (.ref u), o1, some (blkV B.rows B.live), some (.tup (o.map .str)), some (latV B.rows L), o5, o6, o7, o8, o9, o10, none, none] h4 = some (.ok (.nx [some (.ref u), o1, some (blkV B.rows B.live), some (.tup (o.map .str)), some (latV B.rows L), some (.ref h4.length), o6, o7, o8, o9, o10, none, none]), h5) := asg_ok (i := 5) (lst_ok2 (xs := []) rfl (mkL_ok (by show 0 ≤ 100000; omega)))
  refine ⟨_, h8, (seq_nx (asg_ok (x := blkV B.rows B.live) (h1 := h2) (callF_ok (two_ok (x := .ref u) (y := .int (many : Nat)) (h1 := h) (h2 := h1) rfl (bin_ok (x := .int 1) (y := .int r) rfl (callF_ok (two_ok (x := .ref u) (y := .int 6) rfl rfl) rfl q1) (by rw [addI_int, er]; rfl))) rfl q2))).trans ((seq_nx s2).trans ((seq_nx s3).trans ((seq_nx q6).trans ((seq_nx q7).trans q8)))), ⟨_, _, _, _, _, _, _, _, _, rfl⟩, U8, GR⟩
def RI (h : IH) (u i : Nat) (env : Iv.Env) (h' : IH) : Prop := (∃ o1 o2 o3 o4 o5 o6 o7 o8 o9 o10, env = [some (.ref u), o1, o2, o3, o4, o5, o6, o7, o8, o9, o10, none, none]) ∧ Ur h' u (200 * (5 - i)) ∧ GrX u h h'
theorem right_step {h : IH} {u : Nat} : ∀ (i : Nat) (env : Iv.Env) (h' : IH), i < 5 → RI h u i env h' → ∃ x, SRange 0 5 h' i = some (some x) ∧ Ok (M.bind (TgN 1 x env) turnB) h' fun f h2 => ∃ e, (f = .nx e ∨ f = .ct e) ∧ RI h u (i + 1) e h2 := by
  rintro i env h' hi ⟨⟨o1, o2, o3, o4, o5, o6, o7, o8, o9, o10, rfl⟩, U1, G1⟩
  have U2 : Ur h' u (200 * (5 - (i + 1)) + 200) := U1.le (by omega)
  have rt := turn_ok (o1 := some (.int i)) (o2 := o2) (o3 := o3) (o4 := o4) (o5 := o5) (o6 := o6) (o7 := o7) (o8 := o8) (o9 := o9) (o10 := o10) U2
  obtain ⟨f, h3, q3, ⟨p2, p3, p4, p5, p6, p7, p8, p9, p10, rfl⟩, U3, G3⟩ := rt
  refine ⟨.int i, srange hi, ?_⟩
  refine ⟨.nx [some (.ref u), some (.int i), p2, p3, p4, p5, p6, p7, p8, p9, p10, none, none], h3, ?_, [some (.ref u), some (.int i), p2, p3, p4, p5, p6, p7, p8, p9, p10, none, none], .inl rfl, ⟨some (.int i), p2, p3, p4, p5, p6, p7, p8, p9, p10, rfl⟩, U3, G1.trans G3⟩
  have e1 : TgN 1 (.int i) [some (.ref u), o1, o2, o3, o4, o5, o6, o7, o8, o9, o10, none, none] h' = some (.ok [some (.ref u), some (.int i), o2, o3, o4, o5, o6, o7, o8, o9, o10, none, none], h') := rfl
  generalize turnB = B at q3 ⊢
  rw [bind_ok e1]; exact q3
theorem right_ok {h : IH} {u : Nat} (U : Ur h u 900000000) : Ok (F__law_right [.ref u]) h fun v h' => v = .bl true ∧ GrX u h h' := by
  have U0 : Ur h u (200 * (5 - 0)) := U.le (by omega)
  have hfor := forS_ok (src := IterA rng1 (Cons (Cst (.int 5)) Nil)) (s := SRange 0 5) (t := TgN 1) (b := turnB)
    (n := 5) (k := LN) (env := [some (.ref u), none, none, none, none, none, none, none, none, none, none, none, none]) (h := h) (h1 := h)
    (RI h u)
    (iterA_ok (one_ok (x := .int (5 : Nat)) rfl) (rng1_ok (by omega))) (LN_ok (by omega))
    ⟨⟨none, none, none, none, none, none, none, none, none, none, rfl⟩, U0, GrX.refl u h⟩
    right_step
    (fun env h' _ => srange_end)
  obtain ⟨f, h2, q2, env2, rfl, _, _, G2⟩ := hfor
  have e0 : F__law_right [.ref u] = Fn 13 (SeqS (ForS LN (IterA rng1 (Cons (Cst (.int 5)) Nil)) (TgN 1) turnB) (RetS (Cst (.bl true)))) [.ref u] := rfl
  rw [e0]
  generalize turnB = B at q2 ⊢
  exact ⟨.bl true, h2, fn_rt ((seq_nx q2).trans (ret_ok (x := .bl true) rfl)), rfl, G2⟩
end K28
set_option autoImplicit true
set_option Elab.async false
set_option linter.all false
set_option maxRecDepth 100000
set_option maxHeartbeats 1000000
namespace K28
open PySem L2 Iv
/-! a chain of eight, all alike far -/
def chN (i : Nat) : Str := ⟨#[97 + i]⟩
def chO : List Str := (List.range 8).map chN
def chR : List Row := (List.range 8).map fun i => ⟨chN i, if i = 0 then [] else [chN (i - 1)], true⟩
def chL : List Str := [chN 7]
def near : Int := 9999999999999999999999999999999999999990
def chT : Str → Int := fun _ => near
theorem chG : Good8 chR where
  nd := by decide +kernel
  hl := by decide +kernel
  pl := by decide +kernel
  rd := by decide +kernel
theorem chPd : Pd 16 (blkV chR chL) := by
  refine ⟨by show 2 < 100000; omega, fun y hy => ?_⟩
  simp only [List.mem_cons, List.mem_nil_iff, or_false] at hy
  rcases hy with rfl | rfl
  · refine ⟨by decide +kernel, fun y hy => ?_⟩
    obtain ⟨r, hr, rfl⟩ := List.mem_map.mp hy
    refine ⟨by show 3 < 100000; omega, fun y hy => ?_⟩
    simp only [List.mem_cons, List.mem_nil_iff, or_false] at hy
    rcases hy with rfl | rfl | rfl
    · exact rfl
    · exact pd_strs (by have := (chG.rd r hr).1; omega) 11
    · exact rfl
  · exact pd_strs (by decide +kernel) 13
theorem chOrd : Ord chR chO where
  perm := by
    have : chO = chR.map Row.name := by decide +kernel
    rw [this]
  reads := fun r hr i e s hs => by
    have nd : chO.Nodup := by decide +kernel
    have all : ∀ r ∈ chR, ∀ s ∈ r.reads, s ∈ chO.take (chO.idxOf r.name) := by decide +kernel
    have := all r hr s hs
    rw [idx_nd nd e] at this
    exact this
theorem chHi : ∀ s ∈ awL chR chL, chO.idxOf s < frs chR s 0 chO := by decide +kernel
theorem chAw : awL chR chL = chO := by decide +kernel
theorem chA : slA chR chL chT = chO := by
  unfold slA
  rw [chAw]
  exact List.filter_eq_self.mpr fun _ _ => decide_eq_true (show (0 : Int) < near - 1 by unfold near; omega)
theorem chSlow : slowL chR = chO := by decide +kernel
/-- the end of the chain: a tick for each, and its stall -/
theorem chStep (S : List Str) (p : Nat) (hp : p < 8) : tkT chR chO chO (leftS chT S) (p + 1) = tkT chR chO chO (leftS chT S) p + leftS chT S (chN p) + 1 := by
  have f : ∀ p < 8, (chO.filter fun s => decide (frs chR s 0 chO = p + 1)) = [chN p] ∧ chO.idxOf (chN p) = p := by decide +kernel
  obtain ⟨f1, f2⟩ := f p hp
  rw [tkT_succ, f1, List.map_cons, List.map_nil, f2, tkL_get (Nat.le_refl p)]
  have nn : 0 ≤ leftS chT S (chN p) := by
    unfold leftS chT near
    split <;> omega
  obtain ⟨m, l⟩ := mx (tkT chR chO chO (leftS chT S) p + 1) [tkT chR chO chO (leftS chT S) p + leftS chT S (chN p) + 1]
  have l2 := l _ (List.mem_cons_of_mem _ (List.mem_singleton.mpr rfl))
  rcases List.mem_cons.mp m with e | m
  · omega
  · exact List.mem_singleton.mp m
def mis (S : List Str) : Nat := (chO.filter fun s => !decide (s ∈ S)).length
theorem chEnd (S : List Str) : ∀ p, p ≤ 8 → tkT chR chO chO (leftS chT S) p = (p : Int) + (near - 1) * (((chO.take p).filter fun s => !decide (s ∈ S)).length : Nat)
  | 0, _ => by simp [tkT, tkL]
  | p + 1, hp => by
    have t : ∀ p < 8, chO.take (p + 1) = chO.take p ++ [chN p] := by decide +kernel
    rw [chStep S p (by omega), chEnd S p (by omega), t p (by omega), List.filter_append, List.length_append]
    unfold leftS chT near
    by_cases c : chN p ∈ S
    · rw [if_pos c, List.filter_cons_of_neg (by simpa using c)]
      simp; omega
    · rw [if_neg c, List.filter_cons_of_pos (by simpa using c)]
      simp; omega
theorem chE (S : List Str) : endS chR chL chO chT S = 8 + (near - 1) * (mis S : Nat) := by
  unfold endS
  rw [chAw]
  exact chEnd S 8 (Nat.le_refl 8)
theorem chAll {E : Int} {y : IV} (F : Few chR chL chO chT E y) (h1 : 8 ≤ E) (h2 : E < 8 + (near - 1)) : y = tupS chO := by
  have z : mis chO = 0 := by decide +kernel
  have one : ∀ S ∈ setsP chO, mis S = 0 → S = chO := by decide +kernel
  unfold Few at F
  rw [chA] at F
  rcases F with ⟨rfl, no⟩ | ⟨M, hM, eM, rfl, _⟩
  · refine absurd ?_ (no chO ((setsP_mem _ _).mpr (List.Sublist.refl _)))
    rw [chE, z]
    simpa using h1
  · rw [chE] at eM
    have : mis M = 0 := by
      unfold near at eM h2
      omega
    rw [one M hM this]
theorem chNone {E : Int} {y : IV} (F : Few chR chL chO chT E y) (h1 : E < 8) : y = .non := by
  unfold Few at F
  rw [chA] at F
  rcases F with ⟨rfl, _⟩ | ⟨M, hM, eM, rfl, _⟩
  · rfl
  · exfalso
    rw [chE] at eM
    unfold near at eM
    omega
def seven : List Str := chO.take 7
theorem chSeven {y : IV} (F : Few chR chL chO chT (near + 7) y) : y = tupS seven := by
  have z : mis seven = 1 := by decide +kernel
  have one : ∀ S ∈ setsP chO, mis S ≤ 1 → S = seven ∨ ltD (keyP seven) (keyP S) = true := by decide +kernel
  have m7 : seven ∈ setsP chO := (setsP_mem _ _).mpr (List.take_sublist _ _)
  unfold Few at F
  rw [chA] at F
  rcases F with ⟨rfl, no⟩ | ⟨M, hM, eM, rfl, lM⟩
  · refine absurd ?_ (no seven m7)
    rw [chE, z]
    unfold near; omega
  · rw [chE] at eM
    have : mis M ≤ 1 := by
      unfold near at eM
      omega
    rcases one M hM this with e | e
    · rw [e]
    · have l := lM seven m7 (by rw [chE, z]; unfold near; omega)
      rw [e] at l; cases l
end K28
set_option autoImplicit true
set_option Elab.async false
set_option linter.all false
set_option maxRecDepth 100000
set_option maxHeartbeats 1000000
namespace K28
open PySem L2 Iv
/-! the chain by hand -/
def chK : List Int := [8, 7, near, near + 6, near + 7]
def chY (E : Int) : IV := if E < 8 then .non else if E < near + 7 then tupS chO else tupS seven
theorem chFew {E : Int} {y : IV} (m : E ∈ chK) (F : Few chR chL chO chT E y) : y = chY E := by
  unfold chY
  by_cases c : E < 8
  · rw [if_pos c]; exact chNone F c
  · rw [if_neg c]
    by_cases c2 : E < near + 7
    · rw [if_pos c2]
      exact chAll F (by omega) (by omega)
    · rw [if_neg c2]
      have : E = near + 7 := by
        unfold chK at m
        simp only [List.mem_cons, List.mem_nil_iff, or_false] at m
        unfold near at *
        omega
      rw [this] at F
      exact chSeven F
theorem pure_chY (E : Int) : pureI (chY E) = true := by
  unfold chY
  split
  · rfl
  · split
    · exact pure_tupS _
    · exact pure_tupS _
theorem chunk10 {h : IH} {a : Nat} {xs : List IV} {o0 o1 o2 o3 o4 o6 o11 o12 o13 o14 o15 : Option IV} (e : h[a]? = some (.lst xs)) (hx : xs.length ≤ 100) :
    hc10 [o0, o1, o2, o3, o4, some (.ref a), o6, some (.tup (chO.map .str)), some (blkV chR chL), some (.int near), some (latV chR chT), o11, o12, o13, o14, o15, none] h = some (.ok (.nx [o0, o1, o2, o3, o4, some (.ref (h.length + 2)), o6, some (.tup (chO.map .str)), some (blkV chR chL), some (.int near), some (latV chR chT), o11, o12, o13, o14, o15, none]), ((h ++ [.lst (chK.map chY)]) ++ [.lst [.ref h.length]]) ++ [.lst (xs ++ [.ref h.length])]) := by
  let env : Iv.Env := [o0, o1, o2, o3, o4, some (.ref a), o6, some (.tup (chO.map .str)), some (blkV chR chL), some (.int near), some (latV chR chT), o11, o12, o13, o14, o15, none]
  have e0 : Iter (Tup (Cons (Cst (.int 8)) (Cons (Cst (.int 7)) (Cons (Var 9) (Cons (Bin addI (Var 9) (Cst (.int 6))) (Cons (Bin addI (Var 9) (Cst (.int 7))) Nil)))))) env h = some (.ok (SItems (chK.map .int)), h) :=
    iter_ok (x := .tup (chK.map .int)) (tup_ok (xs := chK.map .int) (cons_ok (x := .int 8) rfl (cons_ok (x := .int 7) rfl (cons_ok (x := .int near) rfl (two_ok (x := .int (near + 6)) (y := .int (near + 7)) rfl rfl)))) (by show 5 ≤ 100000; omega)) rfl
  have q := lcE_pure (k := LN) (src := Iter (Tup (Cons (Cst (.int 8)) (Cons (Cst (.int 7)) (Cons (Var 9) (Cons (Bin addI (Var 9) (Cst (.int 6))) (Cons (Bin addI (Var 9) (Cst (.int 7))) Nil))))))) (s := SItems (chK.map .int)) (p := .n 16) (c := YesT) (el := CallD 4 F_fewest_quick (Cons (Var 8) (Cons (Var 7) (Cons (Var 10) (Cons (Var 16) Nil))))) (vs := [16]) (env := env) (h := h) (h1 := h) (chK.map .int) (fun _ => true)
    (fun x => match x with | .int E => chY E | x => x) e0 (LN_ok (by show 5 < 100000; omega)) (by show 5 < 100000; omega) (fun acc i => rfl)
    (fun x hx => by
      obtain ⟨E, hE, rfl⟩ := List.mem_map.mp hx
      refine ⟨_, rfl, fun acc => ⟨rfl, fun _ => ?_⟩⟩
      obtain ⟨y, hp, qp, _, F⟩ := fewest_ok (h := []) (L := chT) (E := E) chG chPd chOrd chHi
      rw [chFew hE F] at qp
      exact callD_pure (cons_ok (x := blkV chR chL) rfl (cons_ok (x := .tup (chO.map .str)) rfl (two_ok (x := latV chR chT) (y := .int E) rfl rfl))) pure_args rfl ⟨hp, qp⟩ (pure_chY E))
  rw [List.filter_eq_self.mpr (fun _ _ => rfl), List.map_map] at q
  have q : LcE LN (Iter (Tup (Cons (Cst (.int 8)) (Cons (Cst (.int 7)) (Cons (Var 9) (Cons (Bin addI (Var 9) (Cst (.int 6))) (Cons (Bin addI (Var 9) (Cst (.int 7))) Nil))))))) (.n 16) YesT (CallD 4 F_fewest_quick (Cons (Var 8) (Cons (Var 7) (Cons (Var 10) (Cons (Var 16) Nil))))) [16] env h = some (.ok (.ref h.length), h ++ [.lst (chK.map chY)]) := q
  have k1 := mkL_ok (xs := [.ref h.length]) (h := h ++ [.lst (chK.map chY)]) (by show 1 ≤ 100000; omega)
  have k2 := addI_lst (h := (h ++ [.lst (chK.map chY)]) ++ [.lst [.ref h.length]]) (m := a) (n := (h ++ [Iv.IO.lst (chK.map chY)]).length) (Gr.push _ _ _ _ (Gr.push _ _ _ _ e)) push_len (by show xs.length + 1 ≤ 100000; omega)
  have l2 : ((h ++ [Iv.IO.lst (chK.map chY)]) ++ [Iv.IO.lst [.ref h.length]]).length = h.length + 2 := by rw [List.length_append, List.length_append]; rfl
  rw [l2] at k2
  exact asg_ok (i := 5) (bin_ok (x := .ref a) (y := .ref (h ++ [Iv.IO.lst (chK.map chY)]).length) rfl (lst_ok2 (one_ok q) k1) k2)
theorem he10_eq : he10 = [he10.getD 0 none, he10.getD 1 none, he10.getD 2 none, he10.getD 3 none, he10.getD 4 none, some (.ref 6), he10.getD 6 none, some (.tup (chO.map .str)), some (blkV chR chL), some (.int near), some (latV chR chT), none, none, none, none, none, none] := qqE_eq (by decide +kernel)
theorem he11_eq : he11 = [he10.getD 0 none, he10.getD 1 none, he10.getD 2 none, he10.getD 3 none, he10.getD 4 none, some (.ref (hh10.length + 2)), he10.getD 6 none, some (.tup (chO.map .str)), some (blkV chR chL), some (.int near), some (latV chR chT), none, none, none, none, none, none] := qqE_eq (by decide +kernel)
theorem hh11_eq : hh11 = ((hh10 ++ [.lst (chK.map chY)]) ++ [.lst [.ref hh10.length]]) ++ [.lst ([.ref 0, .ref 4] ++ [.ref hh10.length])] := qqH_eq (by decide +kernel)
theorem hs10 : hc10 he10 hh10 = some (.ok (.nx he11), hh11) := by
  have e := chunk10 (h := hh10) (a := 6) (xs := [.ref 0, .ref 4]) (o0 := he10.getD 0 none) (o1 := he10.getD 1 none) (o2 := he10.getD 2 none) (o3 := he10.getD 3 none) (o4 := he10.getD 4 none) (o6 := he10.getD 6 none) (o11 := none) (o12 := none) (o13 := none) (o14 := none) (o15 := none) rfl (by decide)
  rw [← he10_eq, ← he11_eq, ← hh11_eq] at e
  exact e
theorem hand_b : b__law_by_hand_right = (SeqS hc0 (SeqS hc1 (SeqS hc2 (SeqS hc3 (SeqS hc4 (SeqS hc5 (SeqS hc6 (SeqS hc7 (SeqS hc8 (SeqS hc9 (SeqS hc10 (SeqS hc11 (SeqS hc12 (SeqS hc13 (SeqS hc14 (SeqS hc15 (SeqS hc16 (SeqS hc17 (SeqS hc18 (SeqS hc19 (SeqS hc20 (SeqS hc21 (SeqS hc22 hcE))))))))))))))))))))))) := by
  unfold b__law_by_hand_right hc0 hc1 hc2 hc3 hc4 hc5 hc6 hc7 hc8 hc9 hc10 hc11 hc12 hc13 hc14 hc15 hc16 hc17 hc18 hc19 hc20 hc21 hc22 hcE
  try simp only [← seq_as]
theorem hand_ok : ∃ h', F__law_by_hand_right [] [] = some (.ok (.bl true), h') := by
  obtain ⟨h', q⟩ := hsE
  refine ⟨h', ?_⟩
  unfold F__law_by_hand_right
  rw [hand_b]
  have e : Fn 17 (SeqS hc0 (SeqS hc1 (SeqS hc2 (SeqS hc3 (SeqS hc4 (SeqS hc5 (SeqS hc6 (SeqS hc7 (SeqS hc8 (SeqS hc9 (SeqS hc10 (SeqS hc11 (SeqS hc12 (SeqS hc13 (SeqS hc14 (SeqS hc15 (SeqS hc16 (SeqS hc17 (SeqS hc18 (SeqS hc19 (SeqS hc20 (SeqS hc21 (SeqS hc22 hcE))))))))))))))))))))))) [] [] = some (.ok (.bl true), h') := fn_rt ((seq_nx hs0).trans ((seq_nx hs1).trans ((seq_nx hs2).trans ((seq_nx hs3).trans ((seq_nx hs4).trans ((seq_nx hs5).trans ((seq_nx hs6).trans ((seq_nx hs7).trans ((seq_nx hs8).trans ((seq_nx hs9).trans ((seq_nx hs10).trans ((seq_nx hs11).trans ((seq_nx hs12).trans ((seq_nx hs13).trans ((seq_nx hs14).trans ((seq_nx hs15).trans ((seq_nx hs16).trans ((seq_nx hs17).trans ((seq_nx hs18).trans ((seq_nx hs19).trans ((seq_nx hs20).trans ((seq_nx hs21).trans ((seq_nx hs22).trans (q))))))))))))))))))))))))
  exact e
theorem callP_ok {F : List IV → M IV} {a : Iv.Env → M (List IV)} {env : Iv.Env} {h h1 : IH} {xs : List IV} {y : IV} {n : Nat} (e1 : a env h = some (.ok xs, h1)) (ps : pureIs xs = true) (ln : xs.length = n) (e2 : ∃ h', F xs [] = some (.ok y, h')) (e3 : pureI y = true) : CallP n F a env h = some (.ok y, h1) := by
  obtain ⟨h', e2⟩ := e2
  unfold CallP
  refine (bind_ok e1).trans ?_
  show (if xs.length = n ∧ pureIs xs = true then _ else _) = _
  rw [if_pos ⟨ln, ps⟩]
  simp only [e2]
  rw [if_pos e3]
theorem law_from (bh : ∃ h', F__law_by_hand_right [] [] = some (.ok (.bl true), h')) {ns : List Int} {x : IV} (hn : ns.length ≤ 63) (hx : x = .fl (ns.map .int) ∨ x = .kl (ns.map .int)) : ∃ h', F_law [x] [] = some (.ok (.bl true), h') := by
  obtain ⟨v, h1, q1, m, cs, rfl, e1, c0, c3⟩ := cells_ok (h := []) hn hx
  have ml := (List.getElem?_eq_some_iff.mp e1).1
  obtain ⟨v, h2, q2, rfl, acc, rfl, b2, b3⟩ := lcE_ok (k := LN) (n := cs.length) (src := IterA rng1 (Cons (CallB lenM (Cons (Var 1) Nil)) Nil)) (s := SRange 0 cs.length) (h := h1) (h1 := h1) (p := .n 2) (vs := [2]) (c := YesT) (el := CallF 1 F__law_right (Cons (CallF 2 F__law_box (Cons (Var 1) (Cons (Var 2) Nil))) Nil)) (env := [some x, some (.ref m), none])
    (fun i acc h' => acc = (List.replicate i true).map .bl ∧ h'[h1.length]? = some (.lst acc) ∧ h'[m]? = some (.lst (cs.map .int)))
    (iterA_ok (one_ok (x := .int (cs.length : Nat)) (callB_ok (one_ok (x := .ref m) rfl) (by rw [len_lst e1, List.length_map]))) (rng1_ok (by omega))) (LN_ok (by omega)) ⟨rfl, push_len, by rw [List.getElem?_append_left ml]; exact e1⟩
    (by
      rintro i acc h' hi ⟨rfl, b2, b3⟩
      obtain ⟨w, h3, q3, rfl, U3, g3⟩ := box_ok (m := m) (k := i) b3 hi (by omega)
      obtain ⟨w, h4, q4, rfl, g4⟩ := right_ok U3
      refine ⟨.int i, _, srange hi, rfl, true, h', rfl, ?_⟩
      show Ok _ _ _
      have l2 := (List.getElem?_eq_some_iff.mp b2).1
      have l3 := (List.getElem?_eq_some_iff.mp b3).1
      have b2' := g4 _ _ (by omega) (g3 _ _ b2)
      have b3' := g4 m _ (by omega) (g3 _ _ b3)
      refine ⟨.bl true, h4, callF_ok (one_ok (callF_ok (two_ok (x := .ref m) (y := .int i) rfl rfl) rfl q3)) rfl q4, b2', by simp; omega, ?_, ?_, ?_⟩
      · rw [List.replicate_succ']; simp
      · rw [List.getElem?_set_self (List.getElem?_eq_some_iff.mp b2').1]
      · rw [List.getElem?_set_ne (by omega)]; exact b3')
    (by rintro acc h' _; exact srange_end)
  have al := all_lst b2
  have at_ : (List.replicate cs.length true).all id = true := by simp
  rw [at_] at al
  have c1 : NotT (Tru (CallP 0 F__law_by_hand_right Nil)) [some x, none, none] [] = some (.ok false, []) := not_ok (k := true) (tru_bl (callP_ok (xs := []) rfl rfl rfl bh rfl))
  exact ⟨h2, fn_rt ((seq_nx (env2 := [some x, none, none]) (h1 := []) (ifS_ff c1 rfl)).trans ((seq_nx (asg_ok (x := .ref m) (h1 := h1) (callF_ok (two_ok (x := x) (y := .int 2) rfl rfl) rfl q1))).trans (ret_ok (callB_ok (one_ok q2) al))))⟩
theorem law_pure : ∀ (ns : List Int) (x : IV), ns.length ≤ 63 → x = .fl (ns.map .int) ∨ x = .kl (ns.map .int) → ∃ h', F_law [x] [] = some (.ok (.bl true), h') := fun ns x hn hx => law_from hand_ok hn hx
end K28
set_option autoImplicit true
namespace K28
open PySem L2 Iv
abbrev Kof {K : PySem.W.Frag} {h : Heap} (_ : K.In h) : PySem.W.Frag := K
theorem all_mk [KL] {l : PySem.W.OpenLaw} {w : World} {K : PySem.W.Frag} {mg : Str → Option Value} {fa : Addr} (hkl : KLOk K) (hKL : ∀ a vs, (∀ H, SqL K H a vs) → KL.p a vs) (hfa : mg "law" = some (.ref fa)) (Z : Exs K mg) (B : Blt mg) (T : Tops K mg)
    (pureT : ∀ (ns : List Int) (x : IV), ns.length ≤ 63 → x = .fl (ns.map IV.int) ∨ x = .kl (ns.map IV.int) → ∃ h', F_law [x] [] = some (.ok (.bl true), h')) :
    ∃ fd : FuncData, (∀ (s : Shared) (v : Value), BindsTo s fd ⟨[v], []⟩ [("_law_script", v)]) ∧ ∀ base : Heap, K.In base → base.Ns mainGlobals mg → FnOk l.prog w K mg base CX0 24 fa fd ["_law_script"] (Iv.spLaw K) := by
  obtain ⟨f, fd, F, m, b⟩ := T.law
  have e := hfa.symm.trans m
  cases e
  obtain ⟨oc, od, kV, doc, pm, an, cdv, ct, osl, rfl, lk, hcd⟩ := id F.ex
  exact ⟨_, fun s v => .of_eq rfl, fun base _ _ => (law_fn hkl Z B T F).imp (law_imp hKL pureT)⟩
theorem all_mk2 {l : PySem.W.OpenLaw} {w : World} {K : PySem.W.Frag} {mg : Str → Option Value} {fa : Addr} (hfa : mg "law" = some (.ref fa)) (Z : Exs K mg) (B : Blt mg) (T : Tops K mg)
    (pureT : ∀ (ns : List Int) (x : IV), ns.length ≤ 63 → x = .fl (ns.map IV.int) ∨ x = .kl (ns.map IV.int) → ∃ h', F_law [x] [] = some (.ok (.bl true), h')) :
    ∃ fd : FuncData, (∀ (s : Shared) (v : Value), BindsTo s fd ⟨[v], []⟩ [("_law_script", v)]) ∧ ∀ base : Heap, K.In base → base.Ns mainGlobals mg → FnOk l.prog w K mg base CX0 24 fa fd ["_law_script"] (Iv.spLaw K) := by
  letI : Iv.KL := ⟨fun a vs => ∀ H, SqL K H a vs, fun D => ExF K D⟩
  exact all_mk ⟨fun a vs H p => p H, fun _ => Iff.rfl⟩ (fun a vs p => p) hfa Z B T pureT
theorem walk {l : PySem.W.OpenLaw} {q : Program} {loose : List Str} {XP : (Str → Option Value) → Heap → Prop} {YP : World → Heap → Prop} {d : DefRec} {K : Params → PySem.W.Frag} (hn : l.most = some 63) (hdf : d.params.defaults = [])
    (hY : ∀ (w : World) (h : Heap), YP w h → (K w.params).In h)
    (F : ∀ (w : World) (mg : Str → Option Value) (fa : Addr) (h : Heap), (K w.params).In h → h.Ns mainGlobals mg → mg d.name = some (.ref fa) →
      ∃ fd : FuncData, (∀ (s : Shared) (u : Value), BindsTo s fd ⟨[u], []⟩ [("_law_script", u)]) ∧ ∀ base : Heap, (K w.params).In base → base.Ns mainGlobals mg → FnOk l.prog w (K w.params) mg base CX0 24 fa fd ["_law_script"] (Iv.spLaw (K w.params))) :
    PySem.W.WalkO q loose XP YP l.row.toRowW d [] (fun f vs => PySem.call f vs) :=
  L2.walk_of (n := 63) (k := 24) (x := "_law_script") (CX := fun _ => CX0) (sp := fun w => Iv.spLaw (K w.params)) hn (by decide) hdf ⟨rfl, by decide, by decide⟩ hY F (fun _ H a ns hl hO hS => ⟨a, ns, rfl, hS, hl, hO, fun _ => rfl⟩) fun _ _ _ _ _ z => z
end K28
open PySem PySem.W PyProof.Rows in
set_option maxRecDepth 100000 in
set_option maxHeartbeats 0 in
theorem PySem.Challenge.cw_anylatency_k28_fewest_made_quick_holds : PySem.Challenge.rw_anylatency_k28_fewest_made_quick.Holds := by
  w_on; o_law; k_head; (case hw => w_witness2)
  k_fill
  refine K28.walk (l := PySem.Challenge.rw_anylatency_k28_fewest_made_quick) rfl rfl (fun w h Y => PySem.W.kIn_of Y) ?F
  case F =>
    intro w mg fa h KX G hmg
    letI : Iv.KL := ⟨fun _ _ => False, fun _ => False⟩
    have b_ValueError : mg "ValueError" = none := by
      refine PySem.W.mg_none_of KX G ?z
      (case z => k_is)
    have b_abs : mg "abs" = none := by
      refine PySem.W.mg_none_of KX G ?z
      (case z => k_is)
    have b_all : mg "all" = none := by
      refine PySem.W.mg_none_of KX G ?z
      (case z => k_is)
    have b_bool : mg "bool" = none := by
      refine PySem.W.mg_none_of KX G ?z
      (case z => k_is)
    have b_dict : mg "dict" = none := by
      refine PySem.W.mg_none_of KX G ?z
      (case z => k_is)
    have b_enumerate : mg "enumerate" = none := by
      refine PySem.W.mg_none_of KX G ?z
      (case z => k_is)
    have b_int : mg "int" = none := by
      refine PySem.W.mg_none_of KX G ?z
      (case z => k_is)
    have b_isinstance : mg "isinstance" = none := by
      refine PySem.W.mg_none_of KX G ?z
      (case z => k_is)
    have b_len : mg "len" = none := by
      refine PySem.W.mg_none_of KX G ?z
      (case z => k_is)
    have b_list : mg "list" = none := by
      refine PySem.W.mg_none_of KX G ?z
      (case z => k_is)
    have b_max : mg "max" = none := by
      refine PySem.W.mg_none_of KX G ?z
      (case z => k_is)
    have b_min : mg "min" = none := by
      refine PySem.W.mg_none_of KX G ?z
      (case z => k_is)
    have b_range : mg "range" = none := by
      refine PySem.W.mg_none_of KX G ?z
      (case z => k_is)
    have b_sorted : mg "sorted" = none := by
      refine PySem.W.mg_none_of KX G ?z
      (case z => k_is)
    have b_str : mg "str" = none := by
      refine PySem.W.mg_none_of KX G ?z
      (case z => k_is)
    have b_tuple : mg "tuple" = none := by
      refine PySem.W.mg_none_of KX G ?z
      (case z => k_is)
    have b_zip : mg "zip" = none := by
      refine PySem.W.mg_none_of KX G ?z
      (case z => k_is)
    have z_NoOrder : Iv.OwnX (K28.Kof KX) mg "NoOrder" := by
      refine' Iv.own_of KX G ?a ?xc ?kp ?sb ?ty ?su ?hg ?hk ?hd ?ha ?hn ?ht ?hm ?ve
      (case a => k_is); (case xc => k_exc); (case kp => k_is); (case sb => k_is); (case ty => k_is); (case su => first | rfl | k_is); (case hg => k_is); (case hk => k_is); (case hd => k_is); (case ha => k_is); (case hn => k_is); (case ht => k_is); (case hm => k_is); (case ve => k_is)
    have t_tupled : Iv.TopFn (K28.Kof KX) mg "tupled" K28.s_tupled ["value"] := by
      refine' Iv.topFn_of KX G ?a ?l ?c ?k (fun _ _ _ _ _ _ us hl => match us, hl with | [_], _ => rfl)
      (case a => k_is)
      (case l => k_is)
      (case c => k_is)
      (case k => k_is)
    have t_is_name : Iv.TopFn (K28.Kof KX) mg "is_name" K28.s_is_name ["thing"] := by
      refine' Iv.topFn_of KX G ?a ?l ?c ?k (fun _ _ _ _ _ _ us hl => match us, hl with | [_], _ => rfl)
      (case a => k_is)
      (case l => k_is)
      (case c => k_is)
      (case k => k_is)
    have t_is_tuple_of : Iv.TopFn (K28.Kof KX) mg "is_tuple_of" K28.s_is_tuple_of ["thing", "many"] := by
      refine' Iv.topFn_of KX G ?a ?l ?c ?k (fun _ _ _ _ _ _ us hl => match us, hl with | [_, _], _ => rfl)
      (case a => k_is)
      (case l => k_is)
      (case c => k_is)
      (case k => k_is)
    have t_reads_by_name : Iv.TopFn (K28.Kof KX) mg "reads_by_name" K28.s_reads_by_name ["rows"] := by
      refine' Iv.topFn_of KX G ?a ?l ?c ?k (fun _ _ _ _ _ _ us hl => match us, hl with | [_], _ => rfl)
      (case a => k_is)
      (case l => k_is)
      (case c => k_is)
      (case k => k_is)
    have t_readers_by_name : Iv.TopFn (K28.Kof KX) mg "readers_by_name" K28.s_readers_by_name ["reads"] := by
      refine' Iv.topFn_of KX G ?a ?l ?c ?k (fun _ _ _ _ _ _ us hl => match us, hl with | [_], _ => rfl)
      (case a => k_is)
      (case l => k_is)
      (case c => k_is)
      (case k => k_is)
    have t_is_order_of : Iv.TopFn (K28.Kof KX) mg "is_order_of" K28.s_is_order_of ["reads", "thing"] := by
      refine' Iv.topFn_of KX G ?a ?l ?c ?k (fun _ _ _ _ _ _ us hl => match us, hl with | [_, _], _ => rfl)
      (case a => k_is)
      (case l => k_is)
      (case c => k_is)
      (case k => k_is)
    have t_told_order : Iv.TopFn (K28.Kof KX) mg "told_order" K28.s_told_order ["block", "order"] := by
      refine' Iv.topFn_of KX G ?a ?l ?c ?k (fun _ _ _ _ _ _ us hl => match us, hl with | [_, _], _ => rfl)
      (case a => k_is)
      (case l => k_is)
      (case c => k_is)
      (case k => k_is)
    have t_awaited_in : Iv.TopFn (K28.Kof KX) mg "awaited_in" K28.s_awaited_in ["block"] := by
      refine' Iv.topFn_of KX G ?a ?l ?c ?k (fun _ _ _ _ _ _ us hl => match us, hl with | [_], _ => rfl)
      (case a => k_is)
      (case l => k_is)
      (case c => k_is)
      (case k => k_is)
    have t__firsts_by : Iv.TopFn (K28.Kof KX) mg "_firsts_by" K28.s__firsts_by ["order", "readers"] := by
      refine' Iv.topFn_of KX G ?a ?l ?c ?k (fun _ _ _ _ _ _ us hl => match us, hl with | [_, _], _ => rfl)
      (case a => k_is)
      (case l => k_is)
      (case c => k_is)
      (case k => k_is)
    have t_first_readers : Iv.TopFn (K28.Kof KX) mg "first_readers" K28.s_first_readers ["block", "order"] := by
      refine' Iv.topFn_of KX G ?a ?l ?c ?k (fun _ _ _ _ _ _ us hl => match us, hl with | [_, _], _ => rfl)
      (case a => k_is)
      (case l => k_is)
      (case c => k_is)
      (case k => k_is)
    have t__waits_by : Iv.TopFn (K28.Kof KX) mg "_waits_by" K28.s__waits_by ["order", "firsts", "awaited"] := by
      refine' Iv.topFn_of KX G ?a ?l ?c ?k (fun _ _ _ _ _ _ us hl => match us, hl with | [_, _, _], _ => rfl)
      (case a => k_is)
      (case l => k_is)
      (case c => k_is)
      (case k => k_is)
    have t_waits_in : Iv.TopFn (K28.Kof KX) mg "waits_in" K28.s_waits_in ["block", "order"] := by
      refine' Iv.topFn_of KX G ?a ?l ?c ?k (fun _ _ _ _ _ _ us hl => match us, hl with | [_, _], _ => rfl)
      (case a => k_is)
      (case l => k_is)
      (case c => k_is)
      (case k => k_is)
    have t_stalls_in : Iv.TopFn (K28.Kof KX) mg "stalls_in" K28.s_stalls_in ["latencies"] := by
      refine' Iv.topFn_of KX G ?a ?l ?c ?k (fun _ _ _ _ _ _ us hl => match us, hl with | [_], _ => rfl)
      (case a => k_is)
      (case l => k_is)
      (case c => k_is)
      (case k => k_is)
    have t_end_by : Iv.TopFn (K28.Kof KX) mg "end_by" K28.s_end_by ["many", "waits", "stalls"] := by
      refine' Iv.topFn_of KX G ?a ?l ?c ?k (fun _ _ _ _ _ _ us hl => match us, hl with | [_, _, _], _ => rfl)
      (case a => k_is)
      (case l => k_is)
      (case c => k_is)
      (case k => k_is)
    have t__all_sets : Iv.TopFn (K28.Kof KX) mg "_all_sets" K28.s__all_sets ["names"] := by
      refine' Iv.topFn_of KX G ?a ?l ?c ?k (fun _ _ _ _ _ _ us hl => match us, hl with | [_], _ => rfl)
      (case a => k_is)
      (case l => k_is)
      (case c => k_is)
      (case k => k_is)
    have t_fewest_quick : Iv.TopFn (K28.Kof KX) mg "fewest_quick" K28.s_fewest_quick ["block", "order", "latencies", "end"] := by
      refine' Iv.topFn_of KX G ?a ?l ?c ?k (fun _ _ _ _ _ _ us hl => match us, hl with | [_, _, _, _], _ => rfl)
      (case a => k_is)
      (case l => k_is)
      (case c => k_is)
      (case k => k_is)
    have t__law_box : Iv.TopFn (K28.Kof KX) mg "_law_box" K28.s__law_box ["_law_script", "_law_k"] := by
      refine' Iv.topFn_of KX G ?a ?l ?c ?k (fun _ _ _ _ _ _ us hl => match us, hl with | [_, _], _ => rfl)
      (case a => k_is)
      (case l => k_is)
      (case c => k_is)
      (case k => k_is)
    have t__law_take : Iv.TopFn (K28.Kof KX) mg "_law_take" K28.s__law_take ["_law_tub", "_law_under"] := by
      refine' Iv.topFn_of KX G ?a ?l ?c ?k (fun _ _ _ _ _ _ us hl => match us, hl with | [_, _], _ => rfl)
      (case a => k_is)
      (case l => k_is)
      (case c => k_is)
      (case k => k_is)
    have t__law_cells : Iv.TopFn (K28.Kof KX) mg "_law_cells" K28.s__law_cells ["_law_script", "_law_top"] := by
      refine' Iv.topFn_of KX G ?a ?l ?c ?k (fun _ _ _ _ _ _ us hl => match us, hl with | [_, _], _ => rfl)
      (case a => k_is)
      (case l => k_is)
      (case c => k_is)
      (case k => k_is)
    have t__law_of : Iv.TopFn (K28.Kof KX) mg "_law_of" K28.s__law_of ["_law_tub", "_law_few_so"] := by
      refine' Iv.topFn_of KX G ?a ?l ?c ?k (fun _ _ _ _ _ _ us hl => match us, hl with | [_, _], _ => rfl)
      (case a => k_is)
      (case l => k_is)
      (case c => k_is)
      (case k => k_is)
    have t__law_pick : Iv.TopFn (K28.Kof KX) mg "_law_pick" K28.s__law_pick ["_law_tub", "_law_few_so", "_law_much_so"] := by
      refine' Iv.topFn_of KX G ?a ?l ?c ?k (fun _ _ _ _ _ _ us hl => match us, hl with | [_, _, _], _ => rfl)
      (case a => k_is)
      (case l => k_is)
      (case c => k_is)
      (case k => k_is)
    have t__law_same : Iv.TopFn (K28.Kof KX) mg "_law_same" K28.s__law_same ["_law_got", "_law_due"] := by
      refine' Iv.topFn_of KX G ?a ?l ?c ?k (fun _ _ _ _ _ _ us hl => match us, hl with | [_, _], _ => rfl)
      (case a => k_is)
      (case l => k_is)
      (case c => k_is)
      (case k => k_is)
    have t__law_lists : Iv.TopFn (K28.Kof KX) mg "_law_lists" K28.s__law_lists ["_law_matter"] := by
      refine' Iv.topFn_of KX G ?a ?l ?c ?k (fun _ _ _ _ _ _ us hl => match us, hl with | [_], _ => rfl)
      (case a => k_is)
      (case l => k_is)
      (case c => k_is)
      (case k => k_is)
    have t__law_block : Iv.TopFn (K28.Kof KX) mg "_law_block" K28.s__law_block ["_law_tub", "_law_many_so"] := by
      refine' Iv.topFn_of KX G ?a ?l ?c ?k (fun _ _ _ _ _ _ us hl => match us, hl with | [_, _], _ => rfl)
      (case a => k_is)
      (case l => k_is)
      (case c => k_is)
      (case k => k_is)
    have t__law_inside : Iv.TopFn (K28.Kof KX) mg "_law_inside" K28.s__law_inside ["_law_some_so", "_law_lot_so"] := by
      refine' Iv.topFn_of KX G ?a ?l ?c ?k (fun _ _ _ _ _ _ us hl => match us, hl with | [_, _], _ => rfl)
      (case a => k_is)
      (case l => k_is)
      (case c => k_is)
      (case k => k_is)
    have t__law_order : Iv.TopFn (K28.Kof KX) mg "_law_order" K28.s__law_order ["_law_tub", "_law_block_so"] := by
      refine' Iv.topFn_of KX G ?a ?l ?c ?k (fun _ _ _ _ _ _ us hl => match us, hl with | [_, _], _ => rfl)
      (case a => k_is)
      (case l => k_is)
      (case c => k_is)
      (case k => k_is)
    have t__law_end : Iv.TopFn (K28.Kof KX) mg "_law_end" K28.s__law_end ["_law_block_so", "_law_line_so", "_law_lasts_so"] := by
      refine' Iv.topFn_of KX G ?a ?l ?c ?k (fun _ _ _ _ _ _ us hl => match us, hl with | [_, _, _], _ => rfl)
      (case a => k_is)
      (case l => k_is)
      (case c => k_is)
      (case k => k_is)
    have t__law_slow : Iv.TopFn (K28.Kof KX) mg "_law_slow" K28.s__law_slow ["_law_block_so"] := by
      refine' Iv.topFn_of KX G ?a ?l ?c ?k (fun _ _ _ _ _ _ us hl => match us, hl with | [_], _ => rfl)
      (case a => k_is)
      (case l => k_is)
      (case c => k_is)
      (case k => k_is)
    have t__law_sets : Iv.TopFn (K28.Kof KX) mg "_law_sets" K28.s__law_sets ["_law_tags"] := by
      refine' Iv.topFn_of KX G ?a ?l ?c ?k (fun _ _ _ _ _ _ us hl => match us, hl with | [_], _ => rfl)
      (case a => k_is)
      (case l => k_is)
      (case c => k_is)
      (case k => k_is)
    have t__law_lasts : Iv.TopFn (K28.Kof KX) mg "_law_lasts" K28.s__law_lasts ["_law_tub", "_law_block_so", "_law_most_so"] := by
      refine' Iv.topFn_of KX G ?a ?l ?c ?k (fun _ _ _ _ _ _ us hl => match us, hl with | [_, _, _], _ => rfl)
      (case a => k_is)
      (case l => k_is)
      (case c => k_is)
      (case k => k_is)
    have t__law_kit : Iv.TopFn (K28.Kof KX) mg "_law_kit" K28.s__law_kit [] := by
      refine' Iv.topFn_of KX G ?a ?l ?c ?k (fun _ _ _ _ _ _ us hl => match us, hl with | [], _ => rfl)
      (case a => k_is)
      (case l => k_is)
      (case c => k_is)
      (case k => k_is)
    have t__law_heard : Iv.TopFn (K28.Kof KX) mg "_law_heard" K28.s__law_heard ["_law_kit_here", "_law_line_so", "_law_lasts_so", "_law_tick_so"] := by
      refine' Iv.topFn_of KX G ?a ?l ?c ?k (fun _ _ _ _ _ _ us hl => match us, hl with | [_, _, _, _], _ => rfl)
      (case a => k_is)
      (case l => k_is)
      (case c => k_is)
      (case k => k_is)
    have t__law_by_hand_right : Iv.TopFn (K28.Kof KX) mg "_law_by_hand_right" K28.s__law_by_hand_right [] := by
      refine' Iv.topFn_of KX G ?a ?l ?c ?k (fun _ _ _ _ _ _ us hl => match us, hl with | [], _ => rfl)
      (case a => k_is)
      (case l => k_is)
      (case c => k_is)
      (case k => k_is)
    have t__law_right : Iv.TopFn (K28.Kof KX) mg "_law_right" K28.s__law_right ["_law_tub"] := by
      refine' Iv.topFn_of KX G ?a ?l ?c ?k (fun _ _ _ _ _ _ us hl => match us, hl with | [_], _ => rfl)
      (case a => k_is)
      (case l => k_is)
      (case c => k_is)
      (case k => k_is)
    have t_law : Iv.TopFn (K28.Kof KX) mg "law" K28.s_law ["_law_script"] := by
      refine' Iv.topFn_of KX G ?a ?l ?c ?k (fun _ _ _ _ _ _ us hl => match us, hl with | [_], _ => rfl)
      (case a => k_is)
      (case l => k_is)
      (case c => k_is)
      (case k => k_is)
    exact K28.all_mk2 hmg ⟨z_NoOrder⟩ ⟨b_ValueError, b_abs, b_all, b_bool, b_dict, b_enumerate, b_int, b_isinstance, b_len, b_list, b_max, b_min, b_range, b_sorted, b_str, b_tuple, b_zip⟩ ⟨t_tupled, t_is_name, t_is_tuple_of, t_reads_by_name, t_readers_by_name, t_is_order_of, t_told_order, t_awaited_in, t__firsts_by, t_first_readers, t__waits_by, t_waits_in, t_stalls_in, t_end_by, t__all_sets, t_fewest_quick, t__law_box, t__law_take, t__law_cells, t__law_of, t__law_pick, t__law_same, t__law_lists, t__law_block, t__law_inside, t__law_order, t__law_end, t__law_slow, t__law_sets, t__law_lasts, t__law_kit, t__law_heard, t__law_by_hand_right, t__law_right, t_law⟩ K28.law_pure
