import PyProof.Rows.All
import Wide.All
import OpenK.AllK
import Wide.FinOn
import HandS.ForMost
import HandS.Wide
import HandS.Flow
import HandS.TupAny
import HandS.SortRule
import HandS.SortInts
import HandS.IsInst
import HandS.EndBits
import PySem.Challenge.RW_pastamended_k01_wrap
set_option Elab.async false
set_option linter.all false
set_option maxRecDepth 100000
set_option maxHeartbeats 4000000
namespace Pu
open PySem PySem.Spec PyProof.Rows L2
abbrev D := PyData
def keyD : Key → D
  | .inl i => .int i
  | .inr x => .str x
mutual
inductive Rp (K : PySem.W.Frag) (H : Hp) : V → D → Prop
  | non : Rp K H .non .none
  | bl (b : Bool) : Rp K H (.bl b) (.bool b)
  | int (i : Int) : Rp K H (.int i) (.int i)
  | str (x : Str) : Rp K H (.str x) (.str x)
  | lst {a : Addr} {xs : List V} {ds : List D} : Rd H a (.lst xs) → RpAll K H xs ds → Rp K H (.ref a) (.list ds)
  | scr {a : Addr} {xs : List V} {ds : List D} : SqL K H a xs → RpAll K H xs ds → Rp K H (.ref a) (.dict [(.list ds, .none)])
  | tup {a : Addr} {xs : List V} {ds : List D} : SqT K H a xs → RpAll K H xs ds → Rp K H (.ref a) (.tuple ds)
  | dct {a : Addr} {kvs : List (Key × V)} {es : List (D × D)} : H a = some (.dK kvs) → RpKV K H kvs es → Rp K H (.ref a) (.dict es)
  | dctT {a : Addr} {kvs : List (List Key × V)} {es : List (D × D)} : H a = some (.dT kvs) → RpKT K H kvs es → Rp K H (.ref a) (.dict es)
inductive RpAll (K : PySem.W.Frag) (H : Hp) : List V → List D → Prop
  | nil : RpAll K H [] []
  | cons {v : V} {vs : List V} {d : D} {ds : List D} : Rp K H v d → RpAll K H vs ds → RpAll K H (v :: vs) (d :: ds)
inductive RpKV (K : PySem.W.Frag) (H : Hp) : List (Key × V) → List (D × D) → Prop
  | nil : RpKV K H [] []
  | cons {k : Key} {v : V} {vs : List (Key × V)} {d : D} {ds : List (D × D)} : Rp K H v d → RpKV K H vs ds → RpKV K H ((k, v) :: vs) ((keyD k, d) :: ds)
inductive RpKT (K : PySem.W.Frag) (H : Hp) : List (List Key × V) → List (D × D) → Prop
  | nil : RpKT K H [] []
  | cons {k : List Key} {v : V} {vs : List (List Key × V)} {d : D} {ds : List (D × D)} : Rp K H v d → RpKT K H vs ds → RpKT K H ((k, v) :: vs) ((.tuple (k.map keyD), d) :: ds)
end
theorem Same.rd {H H' : Hp} (e : Same H H') {a : Addr} {o : HO} (h : Rd H a o) : Rd H' a o := by
  rcases h with h | ⟨u, h⟩
  · exact .inl (e _ _ h)
  · exact .inr ⟨u, e _ _ h⟩
theorem Same.seqT {K : PySem.W.Frag} {H H' : Hp} {a : Addr} {xs : List V} (e : Same H H') (h : SqT K H a xs) : SqT K H' a xs := by
  rcases h with h | h
  · exact .inl (Same.rd e h)
  · exact .inr h
section
variable {K : PySem.W.Frag} {H H' : Hp}
mutual
theorem Rp.mono (e : Same H H') {v : V} {d : D} (h : Rp K H v d) : Rp K H' v d := by
  cases h with
  | non => exact .non
  | bl b => exact .bl b
  | int i => exact .int i
  | str x => exact .str x
  | lst s r => exact .lst (Same.rd e s) (RpAll.mono e r)
  | scr s r => exact .scr (e.seq s) (RpAll.mono e r)
  | tup s r => exact .tup (Same.seqT e s) (RpAll.mono e r)
  | dct s r => exact .dct (e _ _ s) (RpKV.mono e r)
  | dctT s r => exact .dctT (e _ _ s) (RpKT.mono e r)
theorem RpAll.mono (e : Same H H') {v : List V} {d : List D} (h : RpAll K H v d) : RpAll K H' v d := by
  cases h with
  | nil => exact .nil
  | cons a b => exact .cons (Rp.mono e a) (RpAll.mono e b)
theorem RpKV.mono (e : Same H H') {v : List (Key × V)} {d : List (D × D)} (h : RpKV K H v d) : RpKV K H' v d := by
  cases h with
  | nil => exact .nil
  | cons a b => exact .cons (Rp.mono e a) (RpKV.mono e b)
theorem RpKT.mono (e : Same H H') {v : List (List Key × V)} {d : List (D × D)} (h : RpKT K H v d) : RpKT K H' v d := by
  cases h with
  | nil => exact .nil
  | cons a b => exact .cons (Rp.mono e a) (RpKT.mono e b)
end
theorem RpAll.length {vs : List V} : ∀ {ds : List D}, RpAll K H vs ds → vs.length = ds.length := by
  induction vs with
  | nil => intro ds h; cases h; rfl
  | cons v vs ih => intro ds h; cases h with | cons a b => simp [ih b]
theorem RpAll.get {vs : List V} : ∀ {ds : List D} {i : Nat} {d : D}, RpAll K H vs ds → ds[i]? = some d → ∃ v, vs[i]? = some v ∧ Rp K H v d := by
  induction vs with
  | nil => intro ds i d h e; cases h; simp at e
  | cons v vs ih =>
    intro ds i d h e
    cases h with
    | cons a b =>
      cases i with
      | zero => simp at e; subst e; exact ⟨v, rfl, a⟩
      | succ i => simpa using ih b (by simpa using e)
theorem RpAll.getV {vs : List V} : ∀ {ds : List D} {i : Nat} {v : V}, RpAll K H vs ds → vs[i]? = some v → ∃ d, ds[i]? = some d ∧ Rp K H v d := by
  induction vs with
  | nil => intro ds i d h e; simp at e
  | cons v vs ih =>
    intro ds i d h e
    cases h with
    | cons a b =>
      cases i with
      | zero => simp at e; subst e; exact ⟨_, rfl, a⟩
      | succ i => simpa using ih b (by simpa using e)
theorem RpAll.append {vs ws : List V} : ∀ {ds es : List D}, RpAll K H vs ds → RpAll K H ws es → RpAll K H (vs ++ ws) (ds ++ es) := by
  induction vs with
  | nil => intro ds es h h2; cases h; exact h2
  | cons v vs ih => intro ds es h h2; cases h with | cons a b => exact .cons a (ih b h2)
theorem RpAll.take {vs : List V} : ∀ {ds : List D} (n : Nat), RpAll K H vs ds → RpAll K H (vs.take n) (ds.take n) := by
  induction vs with
  | nil => intro ds n h; cases h; simp; exact .nil
  | cons v vs ih =>
    intro ds n h
    cases h with
    | cons a b =>
      cases n with
      | zero => exact .nil
      | succ n => exact .cons a (ih n b)
theorem RpAll.drop {vs : List V} : ∀ {ds : List D} (n : Nat), RpAll K H vs ds → RpAll K H (vs.drop n) (ds.drop n) := by
  induction vs with
  | nil => intro ds n h; cases h; simp; exact .nil
  | cons v vs ih =>
    intro ds n h
    cases h with
    | cons a b =>
      cases n with
      | zero => exact .cons a b
      | succ n => exact ih n b
theorem RpAll.set {vs : List V} : ∀ {ds : List D} (i : Nat) {v : V} {d : D}, RpAll K H vs ds → Rp K H v d → RpAll K H (vs.set i v) (ds.set i d) := by
  induction vs with
  | nil => intro ds i v d h _; cases h; exact .nil
  | cons w vs ih =>
    intro ds i v d h r
    cases h with
    | cons a b =>
      cases i with
      | zero => exact .cons r b
      | succ i => exact .cons a (ih i b r)
theorem RpAll.dropLast {vs : List V} {ds : List D} (h : RpAll K H vs ds) : RpAll K H vs.dropLast ds.dropLast := by
  rw [List.dropLast_eq_take, List.dropLast_eq_take, h.length]; exact h.take _
theorem RpAll.nilD {vs : List V} (h : RpAll K H vs []) : vs = [] := by cases h; rfl
theorem RpAll.reverse {vs : List V} {ds : List D} (h : RpAll K H vs ds) : RpAll K H vs.reverse ds.reverse := by
  induction vs generalizing ds with
  | nil => cases h; exact .nil
  | cons v vs ih =>
    cases h with
    | cons a b => rw [List.reverse_cons, List.reverse_cons]; exact (ih b).append (.cons a .nil)
-- ints
theorem RpAll.ints : ∀ (ns : List Int), RpAll K H (ns.map V.int) (ns.map PyData.int)
  | [] => .nil
  | n :: ns => .cons (.int n) (RpAll.ints ns)
theorem Rp.int_inv {v : V} {i : Int} (h : Rp K H v (.int i)) : v = .int i := by cases h; rfl
theorem Rp.bl_inv {v : V} {i : Bool} (h : Rp K H v (.bool i)) : v = .bl i := by cases h; rfl
theorem Rp.str_inv {v : V} {i : Str} (h : Rp K H v (.str i)) : v = .str i := by cases h; rfl
theorem Rp.non_inv {v : V} (h : Rp K H v .none) : v = .non := by cases h; rfl
theorem Rp.lst_inv {v : V} {ds : List D} (h : Rp K H v (.list ds)) : ∃ a xs, v = .ref a ∧ Rd H a (.lst xs) ∧ RpAll K H xs ds := by cases h with | lst s r => exact ⟨_, _, rfl, s, r⟩
theorem Rp.tup_inv {v : V} {ds : List D} (h : Rp K H v (.tuple ds)) : ∃ a xs, v = .ref a ∧ SqT K H a xs ∧ RpAll K H xs ds := by cases h with | tup s r => exact ⟨_, _, rfl, s, r⟩
theorem RpAll.ints_inv {vs : List V} : ∀ {ns : List Int}, RpAll K H vs (ns.map PyData.int) → vs = ns.map V.int := by
  induction vs with
  | nil => intro ns h; cases ns with | nil => rfl | cons n r => cases h
  | cons v vs ih => intro ns h; cases ns with | nil => cases h | cons n r => cases h with | cons a b => rw [ih b, a.int_inv]; rfl
theorem RpAll.bools_inv {vs : List V} : ∀ {ns : List Bool}, RpAll K H vs (ns.map PyData.bool) → vs = ns.map V.bl := by
  induction vs with
  | nil => intro ns h; cases ns with | nil => rfl | cons n r => cases h
  | cons v vs ih => intro ns h; cases ns with | nil => cases h | cons n r => cases h with | cons a b => rw [ih b, a.bl_inv]; rfl
theorem RpAll.strs_inv {vs : List V} : ∀ {ns : List Str}, RpAll K H vs (ns.map PyData.str) → vs = ns.map V.str := by
  induction vs with
  | nil => intro ns h; cases ns with | nil => rfl | cons n r => cases h
  | cons v vs ih => intro ns h; cases ns with | nil => cases h | cons n r => cases h with | cons a b => rw [ih b, a.str_inv]; rfl
/- no dict in it -/
mutual
def noDict : D → Bool
  | .dict _ => false
  | .list xs => noDicts xs
  | .tuple xs => noDicts xs
  | _ => true
def noDicts : List D → Bool
  | [] => true
  | d :: ds => noDict d && noDicts ds
end
mutual
theorem Rp.dp : ∀ {d : D} {v : V}, Rp K H v d → noDict d = true → Dp K H v d
  | .none, v, h, n => by cases h; exact .non
  | .bool b, v, h, n => by cases h; exact .bl b
  | .int i, v, h, n => by cases h; exact .int i
  | .str x, v, h, n => by cases h; exact .str x
  | .list ds, v, h, n => by
    obtain ⟨a, xs, rfl, s, r⟩ := h.lst_inv
    exact .lst (.inl s) (RpAll.dp r (by simpa [noDict] using n))
  | .tuple ds, v, h, n => by
    obtain ⟨a, xs, rfl, s, r⟩ := h.tup_inv
    exact .tup s (RpAll.dp r (by simpa [noDict] using n))
  | .dict _, v, h, n => by simp [noDict] at n
theorem RpAll.dp : ∀ {ds : List D} {vs : List V}, RpAll K H vs ds → noDicts ds = true → DpAll K H vs ds
  | [], vs, h, n => by cases h; exact .nil
  | d :: ds, vs, h, n => by
    cases h with
    | cons a b =>
      simp only [noDicts, Bool.and_eq_true] at n
      exact .cons (Rp.dp a n.1) (RpAll.dp b n.2)
end
end

/-! ### heaps: the frozen part within the whole -/
structure Ext (Hf H Hf' H' : Hp) : Prop where
  all : Same H H'
  fro : Same Hf Hf'
  sub : Same Hf' H'
  keep : ∀ b o, H b = some o → Hf b = none → Hf' b = none
theorem Ext.refl {Hf H : Hp} (h : Same Hf H) : Ext Hf H Hf H := ⟨Same.refl _, Same.refl _, h, fun _ _ _ n => n⟩
theorem Ext.trans {Hf H Hf1 H1 Hf2 H2 : Hp} (a : Ext Hf H Hf1 H1) (b : Ext Hf1 H1 Hf2 H2) : Ext Hf H Hf2 H2 :=
  ⟨a.all.trans b.all, a.fro.trans b.fro, b.sub, fun c o h n => b.keep c o (a.all c o h) (a.keep c o h n)⟩
theorem Same.updB {H H' : Hp} {p : Addr} {o : HO} (s : Same H H') : Same (upd H p o) (upd H' p o) := fun b u e => by
  by_cases hb : b = p
  · subst hb; rw [upd_same] at e ⊢; exact e
  · rw [upd_ne hb] at e ⊢; exact s b u e
theorem Same.new {H : Hp} {p : Addr} {o : HO} (h : H p = none) : Same H (upd H p o) := fun b u e => by
  rw [upd_ne (ne_of_none e h)]; exact e
/-- a new object, frozen -/
theorem Ext.fresh {Hf H : Hp} {p : Addr} {o : HO} (s : Same Hf H) (h : H p = none) : Ext Hf H (upd Hf p o) (upd H p o) :=
  ⟨Same.new h, Same.new (s.free h), Same.updB s, fun b u e n => by rw [upd_ne (ne_of_none e h)]; exact n⟩
/-- a new object, not frozen -/
theorem Ext.loose {Hf H : Hp} {p : Addr} {o : HO} (s : Same Hf H) (h : H p = none) : Ext Hf H Hf (upd H p o) :=
  ⟨Same.new h, Same.refl _, s.trans (Same.new h), fun b u e n => n⟩
/-- what is new and loose is frozen -/
theorem Ext.freeze {Hf H Hf' H' : Hp} {p : Addr} {o : HO} (x : Ext Hf H Hf' H') (h : H p = none) (e : H' p = some o) (n : Hf' p = none) : Ext Hf H (upd Hf' p o) H' :=
  ⟨x.all, x.fro.trans (Same.new n), fun b u q => by
    by_cases hb : b = p
    · subst hb; rw [upd_same] at q; rw [← q]; exact e
    · rw [upd_ne hb] at q; exact x.sub b u q, fun b u q m => by rw [upd_ne (ne_of_none q h)]; exact x.keep b u q m⟩

abbrev scrD (ds : List D) : D := .dict [(.list ds, .none)]
/-! ### slots -/
inductive Sl where
  | un
  | val (d : D)
  | own (ds : List D)
abbrev En := List Sl
def SlOk (K : PySem.W.Frag) (H0 Hf H : Hp) : Sl → Option V → Prop
  | .un, _ => True
  | .val d, o => ∃ v, o = some v ∧ Rp K Hf v d
  | .own ds, o => ∃ a vs, o = some (.ref a) ∧ H0 a = none ∧ H a = some (.lst vs) ∧ Hf a = none ∧ RpAll K Hf vs ds
/-- the slots bear ρ; H0: the entry -/
structure StOk (K : PySem.W.Frag) (H0 : Hp) (ρ : En) (σ : L2.St) (Hf H : Hp) : Prop where
  sub : Same Hf H
  at_ : ∀ (i : Nat) (s : Sl), ρ[i]? = some s → ∃ o : Option V, σ[i]? = some o ∧ SlOk K H0 Hf H s o
  sep : ∀ (i j : Nat) (ds es : List D) (a : Addr), i ≠ j → ρ[i]? = some (.own ds) → ρ[j]? = some (.own es) → σ[i]? = some (some (.ref a)) → σ[j]? ≠ some (some (.ref a))
theorem SlOk.ext {K : PySem.W.Frag} {H0 Hf H Hf' H' : Hp} {s : Sl} {o : Option V} (x : Ext Hf H Hf' H') (h : SlOk K H0 Hf H s o) : SlOk K H0 Hf' H' s o := by
  cases s with
  | un => trivial
  | val d => obtain ⟨v, e, r⟩ := h; exact ⟨v, e, r.mono x.fro⟩
  | own ds => obtain ⟨a, vs, e, h0, h1, h2, r⟩ := h; exact ⟨a, vs, e, h0, x.all _ _ h1, x.keep _ _ h1 h2, r.mono x.fro⟩
theorem StOk.ext {K : PySem.W.Frag} {H0 : Hp} {ρ : En} {σ : L2.St} {Hf H Hf' H' : Hp} (x : Ext Hf H Hf' H') (h : StOk K H0 ρ σ Hf H) : StOk K H0 ρ σ Hf' H' :=
  ⟨x.sub, fun i s e => let ⟨o, a, b⟩ := h.at_ i s e; ⟨o, a, b.ext x⟩, h.sep⟩

/-! ### results of expressions -/
inductive Rs where
  | val (d : D)
  | view (ds : List D)
  | new (ds : List D)
def RsOk (K : PySem.W.Frag) (H0 Hf H : Hp) (v : V) : Rs → Prop
  | .val d => Rp K Hf v d
  | .view ds => ∃ a vs, v = .ref a ∧ H a = some (.lst vs) ∧ RpAll K Hf vs ds
  | .new ds => ∃ a vs, v = .ref a ∧ H0 a = none ∧ H a = some (.lst vs) ∧ Hf a = none ∧ RpAll K Hf vs ds
/-- the reading of a pure expression -/
def tPu (K : PySem.W.Frag) (g : En → Option Rs) : TE := fun σ H Q => ∃ H0 ρ Hf r, StOk K H0 ρ σ Hf H ∧ g ρ = some r ∧ ∀ v Hf' H', Ext Hf H Hf' H' → RsOk K H Hf' H' v r → Q v H'
def fz : Rs → Option D
  | .val d => some d
  | .new ds => some (.list ds)
  | .view _ => none
/-- its value, frozen -/
def gv (g : En → Option Rs) : En → Option D := fun ρ => (g ρ).bind fz
def tPv (K : PySem.W.Frag) (g : En → Option D) : TE := fun σ H Q => ∃ H0 ρ Hf d, StOk K H0 ρ σ Hf H ∧ g ρ = some d ∧ ∀ v Hf' H', Ext Hf H Hf' H' → Rp K Hf' v d → Q v H'
theorem PE.weaken {X : Cx} {e : Expr} {t t' : TE} (h : PE X e t) (w : ∀ σ H Q, t' σ H Q → t σ H Q) : PE X e t' := ⟨fun pins s σ H Q I q => h.run pins s σ H Q I (w σ H Q q)⟩
theorem PT.weaken {X : Cx} {e : Expr} {t t' : TT} (h : PT X e t) (w : ∀ σ H Q, t' σ H Q → t σ H Q) : PT X e t' := ⟨fun pins s σ H Q I q => h.run pins s σ H Q I (w σ H Q q)⟩
theorem PA.weaken {X : Cx} {e : List Expr} {t t' : TA} (h : PA X e t) (w : ∀ σ H Q, t' σ H Q → t σ H Q) : PA X e t' := ⟨fun pos pins s σ H Q I q => h.run pos pins s σ H Q I (w σ H Q q)⟩
theorem PS.weaken {X : Cx} {e : Stmt} {t t' : TS} (h : PS X e t) (w : ∀ D σ H, t' D σ H → t D σ H) : PS X e t' := ⟨fun pins s σ H D I q => h.run pins s σ H D I (w D σ H q)⟩
theorem PSs.weaken {X : Cx} {e : List Stmt} {t t' : TS} (h : PSs X e t) (w : ∀ D σ H, t' D σ H → t D σ H) : PSs X e t' := ⟨fun pins s σ H D I q => h.run pins s σ H D I (w D σ H q)⟩
theorem freezeR {K : PySem.W.Frag} {H Hf Hf' H' : Hp} {v : V} {r : Rs} {d : D} (x : Ext Hf H Hf' H') (h : RsOk K H Hf' H' v r) (e : fz r = some d) : ∃ Hf'', Ext Hf H Hf'' H' ∧ Rp K Hf'' v d := by
  cases r with
  | val u => cases e; exact ⟨Hf', x, h⟩
  | view u => cases e
  | new u =>
    cases e
    obtain ⟨a, vs, rfl, h0, h1, h2, q⟩ := h
    exact ⟨_, x.freeze h0 h1 h2, .lst (.of upd_same) (q.mono (Same.new h2))⟩
/-- frozen at once -/
theorem pv_of {X : Cx} {e : Expr} {g : En → Option Rs} (h : PE X e (tPu X.K g)) : PE X e (tPv X.K (gv g)) := PE.weaken h fun σ H Q ⟨H0, ρ, Hf, d, S, e, q⟩ => by
  unfold gv at e
  cases hg : g ρ with
  | none => rw [hg] at e; cases e
  | some r =>
    rw [hg] at e
    exact ⟨H0, ρ, Hf, r, S, hg, fun v Hf' H' x ro => let ⟨Hf2, x2, r2⟩ := freezeR x ro e; q v Hf2 H' x2 r2⟩
/-- a value as a result -/
def gr (g : En → Option D) : En → Option Rs := fun ρ => (g ρ).map Rs.val
theorem pu_of {X : Cx} {e : Expr} {g : En → Option D} (h : PE X e (tPv X.K g)) : PE X e (tPu X.K (gr g)) := PE.weaken h fun σ H Q ⟨H0, ρ, Hf, r, S, e, q⟩ => by
  unfold gr at e
  cases hg : g ρ with
  | none => rw [hg] at e; cases e
  | some d =>
    rw [hg] at e
    cases e
    exact ⟨H0, ρ, Hf, d, S, hg, fun v Hf' H' x ro => q v Hf' H' x ro⟩
end Pu

namespace Pu
open PySem PySem.Spec PyProof.Rows L2
section
variable {X : Cx} {e a b : Expr} {es : List Expr} {pos : Pos} {ga gb : En → Option D}
/-! ### names, constants -/
def vVar (i : Nat) : En → Option D := fun ρ => match ρ[i]? with
  | some (.val d) => some d
  | _ => none
def rVar (i : Nat) : En → Option Rs := fun ρ => match ρ[i]? with
  | some (.val d) => some (.val d)
  | some (.own ds) => some (.view ds)
  | _ => none
theorem pv_var {i : Nat} (h : PE X e (tVar i)) : PE X e (tPv X.K (vVar i)) := PE.weaken h fun σ H Q ⟨H0, ρ, Hf, d, S, e, q⟩ => by
  unfold vVar at e
  split at e
  · rename_i d' hd
    cases e
    obtain ⟨o, ho, v, rfl, r⟩ := S.at_ i _ hd
    exact ⟨v, ho, q v Hf H (.refl S.sub) r⟩
  · cases e
theorem pu_var {i : Nat} (h : PE X e (tVar i)) : PE X e (tPu X.K (rVar i)) := PE.weaken h fun σ H Q ⟨H0, ρ, Hf, r, S, e, q⟩ => by
  unfold rVar at e
  split at e
  · rename_i d' hd
    cases e
    obtain ⟨o, ho, v, rfl, r⟩ := S.at_ i _ hd
    exact ⟨v, ho, q v Hf H (.refl S.sub) r⟩
  · rename_i d' hd
    cases e
    obtain ⟨o, ho, a, vs, rfl, _, h1, _, r⟩ := S.at_ i _ hd
    exact ⟨_, ho, q _ Hf H (.refl S.sub) ⟨a, vs, rfl, h1, r⟩⟩
  · cases e
def vC (d : D) : En → Option D := fun _ => some d
theorem pv_c {v : V} {d : D} (h : PE X e (tC v)) (r : ∀ H, Rp X.K H v d) : PE X e (tPv X.K (vC d)) := PE.weaken h fun σ H Q ⟨H0, ρ, Hf, d', S, e, q⟩ => by
  cases e
  exact q v Hf H (.refl S.sub) (r _)
/-! ### two values -/
def rPv2 (K : PySem.W.Frag) (f : D → D → Option D) : R2 := fun x y H Q => ∃ Hf a b d, Same Hf H ∧ Rp K Hf x a ∧ Rp K Hf y b ∧ f a b = some d ∧ ∀ v Hf' H', Ext Hf H Hf' H' → Rp K Hf' v d → Q v H'
def b2 (f : D → D → Option D) (ga gb : En → Option D) : En → Option D := fun ρ => (ga ρ).bind fun a => (gb ρ).bind fun b => f a b
theorem b2_some {f : D → D → Option D} {ρ : En} {d : D} (h : b2 f ga gb ρ = some d) : ∃ a b, ga ρ = some a ∧ gb ρ = some b ∧ f a b = some d := by
  unfold b2 at h
  obtain ⟨a, h1, h⟩ := Option.bind_eq_some_iff.mp h
  obtain ⟨b, h2, h⟩ := Option.bind_eq_some_iff.mp h
  exact ⟨a, b, h1, h2, h⟩
theorem tOp_pv {K : PySem.W.Frag} {f : D → D → Option D} {σ : L2.St} {H : Hp} {Q : VK} (h : tPv K (b2 f ga gb) σ H Q) : tOp (rPv2 K f) (tPv K ga) (tPv K gb) σ H Q := by
  obtain ⟨H0, ρ, Hf, d, S, e, q⟩ := h
  obtain ⟨a, b, ea, eb, ef⟩ := b2_some e
  exact ⟨H0, ρ, Hf, a, S, ea, fun x Hf1 H1 x1 r1 => ⟨H0, ρ, Hf1, b, S.ext x1, eb, fun y Hf2 H2 x2 r2 => ⟨Hf2, a, b, d, x2.sub, r1.mono x2.fro, r2, ef, fun v Hf3 H3 x3 r3 => q v Hf3 H3 (x1.trans (x2.trans x3)) r3⟩⟩⟩
theorem pv_op {op : Operator} {f : D → D → Option D} (ho : OpR X (binaryOp op) (rPv2 X.K f)) (ha : PE X a (tPv X.K ga)) (hb : PE X b (tPv X.K gb)) : PE X (.BinOp a op b pos) (tPv X.K (b2 f ga gb)) :=
  PE.weaken (pe_op ho ha hb) fun _ _ _ h => tOp_pv h
theorem pv_cmp {op : CmpOp} {f : D → D → Option D} (ho : OpR X (compareOp op) (rPv2 X.K f)) (ha : PE X a (tPv X.K ga)) (hb : PE X b (tPv X.K gb)) (hm : behindInMarks op b = false) : PE X (.Compare a [op] [b] pos) (tPv X.K (b2 f ga gb)) :=
  PE.weaken (pe_cmpR ho ha hb hm) fun _ _ _ h => tOp_pv h
/-- a view on the left -/
def rPu2 (K : PySem.W.Frag) (f : Rs → D → Option D) : R2 := fun x y H Q => ∃ H0 Hf a b d, Same Hf H ∧ RsOk K H0 Hf H x a ∧ Rp K Hf y b ∧ f a b = some d ∧ ∀ v Hf' H', Ext Hf H Hf' H' → Rp K Hf' v d → Q v H'
theorem OpR.weaken {f : Value → Value → Sem Value} {r r' : R2} (h : OpR X f r) (w : ∀ x y H Q, r' x y H Q → r x y H Q) : OpR X f r' := fun pins s σ H x y v u Q I rx ry q => h pins s σ H x y v u Q I rx ry (w _ _ _ _ q)
/-! ### operators -/
def mulOk (i j : Int) : Bool := decide (i.natAbs < 2 ^ 64) || decide (j.natAbs < 2 ^ 64) || decide (i.natAbs.log2 + j.natAbs.log2 < 134000000)
def divOk (j : Int) : Bool := decide (j ≠ 0) && decide (j.natAbs.log2 < 9000)
def dAdd : D → D → Option D
  | .int a, .int b => some (.int (a + b))
  | .str a, .str b => if a.length + b.length ≤ sizeLine then some (.str (a ++ b)) else none
  | .list a, .list b => if a.length + b.length ≤ sizeLine then some (.list (a ++ b)) else none
  | .tuple a, .tuple b => if a.length + b.length ≤ sizeLine then some (.tuple (a ++ b)) else none
  | _, _ => none
def dSub : D → D → Option D
  | .int a, .int b => some (.int (a - b))
  | _, _ => none
def dMul : D → D → Option D
  | .int a, .int b => if mulOk a b = true then some (.int (a * b)) else none
  | _, _ => none
def dFdiv : D → D → Option D
  | .int a, .int b => if divOk b = true then some (.int (a.fdiv b)) else none
  | _, _ => none
def dMod : D → D → Option D
  | .int a, .int b => if b ≠ 0 then some (.int (a.fmod b)) else none
  | _, _ => none
def dPow : D → D → Option D
  | .int a, .int b => if 0 ≤ b ∧ b ≤ 1000000 ∧ a.natAbs < 2 ^ 64 then some (.int (a ^ b.toNat)) else none
  | _, _ => none
def dXor : D → D → Option D
  | .int a, .int b => some (.int (Builtin.bitXor a b))
  | _, _ => none
theorem mulOk_ok {i j : Int} (h : mulOk i j = true) : IntMulOk i j := by
  unfold mulOk at h
  rw [Bool.or_eq_true, Bool.or_eq_true] at h
  rcases h with (h | h) | h
  · have h := of_decide_eq_true h
    exact CMul.ok (.inl ⟨by omega, by omega⟩)
  · have h := of_decide_eq_true h
    exact CMul.ok (.inr ⟨by omega, by omega⟩)
  · have h := of_decide_eq_true h
    have b : ∀ x : Int, Builtin.Int.intBits x ≤ x.natAbs.log2 + 1 := fun x => by
      unfold Builtin.Int.intBits
      split <;> omega
    have h1 := b i
    have h2 := b j
    have e : bitsLine = 134217728 := by decide
    unfold IntMulOk
    intro z
    rw [Bool.and_eq_true] at z
    have z2 := z.2
    unfold Builtin.Int.intTooBig at z2
    have z3 := of_decide_eq_true z2
    rw [e] at z3
    omega
theorem or_int2 {f : Value → Value → Sem Value} {C : Int → Int → Prop} {g : Int → Int → Int} {F : D → D → Option D} (h : OpR X f (rI C fun i j => .int (g i j)))
    (w : ∀ a b d, F a b = some d → ∃ i j, a = .int i ∧ b = .int j ∧ C i j ∧ d = .int (g i j)) : OpR X f (rPv2 X.K F) := OpR.weaken h fun x y H Q ⟨Hf, a, b, d, s, ra, rb, e, q⟩ => by
  obtain ⟨i, j, rfl, rfl, c, rfl⟩ := w a b d e
  exact ⟨i, j, ra.int_inv, rb.int_inv, c, q _ Hf H (.refl s) (.int _)⟩
theorem op_mulA : OpR X (binaryOp .Mult) (rI (fun i j => mulOk i j = true) fun i j => .int (i * j)) := opI fun _ _ _ _ _ _ _ hc q => mul_int q (mulOk_ok hc)
theorem op_fdivA : OpR X (binaryOp .FloorDiv) (rI (fun _ j => divOk j = true) fun i j => .int (i.fdiv j)) := opI fun i j _ _ _ _ _ hc q => by
  unfold divOk at hc
  rw [Bool.and_eq_true] at hc
  exact floordiv_int (of_decide_eq_true hc.1) q (.inl (PyProof.noPylong_of_log2 (of_decide_eq_true hc.2)))
theorem or_mul : OpR X (binaryOp .Mult) (rPv2 X.K dMul) := or_int2 op_mulA fun a b d h => by
  cases a <;> cases b <;> simp only [dMul] at h <;> first | (split at h; (cases h; exact ⟨_, _, rfl, rfl, by assumption, rfl⟩); cases h) | cases h
theorem or_fdiv : OpR X (binaryOp .FloorDiv) (rPv2 X.K dFdiv) := or_int2 op_fdivA fun a b d h => by
  cases a <;> cases b <;> simp only [dFdiv] at h <;> first | (split at h; (cases h; exact ⟨_, _, rfl, rfl, by assumption, rfl⟩); cases h) | cases h
theorem or_mod : OpR X (binaryOp .Mod) (rPv2 X.K dMod) := or_int2 op_modN fun a b d h => by
  cases a <;> cases b <;> simp only [dMod] at h <;> first | (split at h; (cases h; exact ⟨_, _, rfl, rfl, by assumption, rfl⟩); cases h) | cases h
theorem or_pow : OpR X (binaryOp .Pow) (rPv2 X.K dPow) := or_int2 op_pow fun a b d h => by
  cases a <;> cases b <;> simp only [dPow] at h <;> first | (split at h; (cases h; exact ⟨_, _, rfl, rfl, by assumption, rfl⟩); cases h) | cases h
theorem or_sub : OpR X (binaryOp .Sub) (rPv2 X.K dSub) := or_int2 (C := fun _ _ => True) (OpR.weaken op_sub fun x y H Q ⟨i, j, a, b, _, q⟩ => ⟨i, j, a, b, q⟩) fun a b d h => by
  cases a <;> cases b <;> simp only [dSub] at h <;> first | (cases h; exact ⟨_, _, rfl, rfl, trivial, rfl⟩) | cases h
theorem or_xor : OpR X (binaryOp .BitXor) (rPv2 X.K dXor) := or_int2 (C := fun _ _ => True) (OpR.weaken op_xor fun x y H Q ⟨i, j, a, b, _, q⟩ => ⟨i, j, a, b, q⟩) fun a b d h => by
  cases a <;> cases b <;> simp only [dXor] at h <;> first | (cases h; exact ⟨_, _, rfl, rfl, trivial, rfl⟩) | cases h
/-- list + list, tracked or frozen -/
def rCatR : R2 := fun x y H Q => ∃ l b xs zs, x = .ref l ∧ y = .ref b ∧ Rd H l (.lst xs) ∧ Rd H b (.lst zs) ∧ xs.length + zs.length ≤ sizeLine ∧ ∀ p, H p = none → Q (.ref p) (L2.upd H p (.lst (xs ++ zs)))
theorem op_catR : OpR X (binaryOp .Add) rCatR := by
  intro pins s σ H x y v u Q I rx ry h
  obtain ⟨l, b, xs, zs, rfl, rfl, hH, hB, hz, q⟩ := h
  cases rx
  cases ry
  obtain ⟨z, its, n, r, e⟩ := hH.ok I.hok
  obtain ⟨z2, its2, n2, r2, e2⟩ := hB.ok I.hok
  have hl := r.length
  have hl2 := r2.length
  refine PySem.P.add_list e e2 ?_ (by rw [List.size_toArray, List.size_toArray]; omega)
  have ea : its.toArray ++ its2.toArray = (its ++ its2).toArray := by simp
  rw [ea]
  exact ⟨.ref _, _, I.lnew (t' := s.toks) (r.append r2) (by rw [List.length_append]; omega), rfl, q _ I.fresh⟩
theorem or_add : OpR X (binaryOp .Add) (rPv2 X.K dAdd) := OpR.weaken (((op_add.or op_add_str).or op_catR).or op_catA) fun x y H Q ⟨Hf, a, b, d, s, ra, rb, e, q⟩ => by
  cases a <;> cases b <;> simp only [dAdd] at e <;> first | cases e | skip
  · exact .inl (.inl (.inl ⟨_, _, ra.int_inv, rb.int_inv, q _ Hf H (.refl s) (.int _)⟩))
  · split at e
    · cases e
      exact .inl (.inl (.inr ⟨_, _, ra.str_inv, rb.str_inv, by assumption, q _ Hf H (.refl s) (.str _)⟩))
    · cases e
  · split at e
    · rename_i h
      cases e
      obtain ⟨l1, xs, rfl, h1, r1⟩ := ra.lst_inv
      obtain ⟨l2, ys, rfl, h2, r2⟩ := rb.lst_inv
      exact .inl (.inr ⟨l1, l2, xs, ys, rfl, rfl, Same.rd s h1, Same.rd s h2, by rw [r1.length, r2.length]; exact h, fun p hp => q _ _ _ (.fresh s hp) (.lst (.of upd_same) ((r1.append r2).mono (Same.new (s.free hp))))⟩)
    · cases e
  · split at e
    · rename_i h
      cases e
      obtain ⟨l1, xs, rfl, h1, r1⟩ := ra.tup_inv
      obtain ⟨l2, ys, rfl, h2, r2⟩ := rb.tup_inv
      refine .inr ⟨l1, l2, xs, ys, rfl, rfl, Same.seqT s h1, Same.seqT s h2, by rw [r1.length, r2.length]; exact h, fun z => ?_, fun _ z => ?_, fun _ _ p hp => q _ _ _ (.fresh s hp) (.tup (.of upd_same) ((r1.append r2).mono (Same.new (s.free hp))))⟩
      · subst z; cases r1; exact q _ Hf H (.refl s) (.tup h2 r2)
      · subst z; cases r2; rw [List.append_nil] at q; exact q _ Hf H (.refl s) (.tup h1 r1)
    · cases e
/-! ### comparisons of ints and texts -/
def dLt : D → D → Option D
  | .int a, .int b => some (.bool (decide (a < b)))
  | .str a, .str b => some (.bool (decide (a.cps.toList < b.cps.toList)))
  | _, _ => none
def dLe : D → D → Option D
  | .int a, .int b => some (.bool (decide (a ≤ b)))
  | .str a, .str b => some (.bool (!decide (b.cps.toList < a.cps.toList)))
  | _, _ => none
def dGt : D → D → Option D
  | .int a, .int b => some (.bool (decide (b < a)))
  | .str a, .str b => some (.bool (decide (b.cps.toList < a.cps.toList)))
  | _, _ => none
def dGe : D → D → Option D
  | .int a, .int b => some (.bool (decide (b ≤ a)))
  | .str a, .str b => some (.bool (!decide (a.cps.toList < b.cps.toList)))
  | _, _ => none
theorem or_cmp2 {f : Value → Value → Sem Value} {g : Int → Int → Bool} {gs : Str → Str → Bool} {F : D → D → Option D} (h : OpR X f (rI0 fun i j => .bl (g i j)))
    (h' : OpR X f (fun x y H Q => ∃ i j, x = .str i ∧ y = .str j ∧ Q (.bl (gs i j)) H))
    (w : ∀ a b d, F a b = some d → (∃ i j, a = .int i ∧ b = .int j ∧ d = .bool (g i j)) ∨ (∃ i j, a = .str i ∧ b = .str j ∧ d = .bool (gs i j))) : OpR X f (rPv2 X.K F) := OpR.weaken (h.or h') fun x y H Q ⟨Hf, a, b, d, s, ra, rb, e, q⟩ => by
  rcases w a b d e with ⟨i, j, rfl, rfl, rfl⟩ | ⟨i, j, rfl, rfl, rfl⟩
  · exact .inl ⟨i, j, ra.int_inv, rb.int_inv, q _ Hf H (.refl s) (.bl _)⟩
  · exact .inr ⟨i, j, ra.str_inv, rb.str_inv, q _ Hf H (.refl s) (.bl _)⟩
theorem or_lt : OpR X (compareOp .Lt) (rPv2 X.K dLt) := or_cmp2 op_lt op_lt_str fun a b d h => by
  cases a <;> cases b <;> simp only [dLt] at h <;> cases h
  · exact .inl ⟨_, _, rfl, rfl, rfl⟩
  · exact .inr ⟨_, _, rfl, rfl, rfl⟩
theorem or_le : OpR X (compareOp .LtE) (rPv2 X.K dLe) := or_cmp2 op_le op_le_str fun a b d h => by
  cases a <;> cases b <;> simp only [dLe] at h <;> cases h
  · exact .inl ⟨_, _, rfl, rfl, rfl⟩
  · exact .inr ⟨_, _, rfl, rfl, rfl⟩
theorem or_gt : OpR X (compareOp .Gt) (rPv2 X.K dGt) := or_cmp2 op_gt op_gt_str fun a b d h => by
  cases a <;> cases b <;> simp only [dGt] at h <;> cases h
  · exact .inl ⟨_, _, rfl, rfl, rfl⟩
  · exact .inr ⟨_, _, rfl, rfl, rfl⟩
theorem or_ge : OpR X (compareOp .GtE) (rPv2 X.K dGe) := or_cmp2 op_ge op_ge_str fun a b d h => by
  cases a <;> cases b <;> simp only [dGe] at h <;> cases h
  · exact .inl ⟨_, _, rfl, rfl, rfl⟩
  · exact .inr ⟨_, _, rfl, rfl, rfl⟩
/-! ### whole views: what a value is in the heap as it stands -/
def tPw (K : PySem.W.Frag) (g : En → Option D) : TE := fun σ H Q => ∃ H0 ρ Hf d, StOk K H0 ρ σ Hf H ∧ g ρ = some d ∧ ∀ v Hf' H', Ext Hf H Hf' H' → Rp K H' v d → Q v H'
def vw : Rs → D
  | .val d => d
  | .view ds => .list ds
  | .new ds => .list ds
theorem rs_whole {K : PySem.W.Frag} {H0 Hf H : Hp} {v : V} {r : Rs} (h : RsOk K H0 Hf H v r) (s : Same Hf H) : Rp K H v (vw r) := by
  cases r with
  | val d => exact Rp.mono s h
  | view ds => obtain ⟨a, vs, rfl, h1, q⟩ := h; exact .lst (.of h1) (q.mono s)
  | new ds => obtain ⟨a, vs, rfl, _, h1, _, q⟩ := h; exact .lst (.of h1) (q.mono s)
def gw (g : En → Option Rs) : En → Option D := fun ρ => (g ρ).map vw
theorem pw_of {e : Expr} {g : En → Option Rs} (h : PE X e (tPu X.K g)) : PE X e (tPw X.K (gw g)) := PE.weaken h fun σ H Q ⟨H0, ρ, Hf, d, S, e, q⟩ => by
  unfold gw at e
  cases hg : g ρ with
  | none => rw [hg] at e; cases e
  | some r =>
    rw [hg] at e
    cases e
    exact ⟨H0, ρ, Hf, r, S, hg, fun v Hf' H' x ro => q v Hf' H' x (rs_whole ro x.sub)⟩
theorem pw_v {e : Expr} {g : En → Option D} (h : PE X e (tPv X.K g)) : PE X e (tPw X.K g) := PE.weaken h fun σ H Q ⟨H0, ρ, Hf, d, S, e, q⟩ => ⟨H0, ρ, Hf, d, S, e, fun v Hf' H' x ro => q v Hf' H' x (ro.mono x.sub)⟩
def wVar (i : Nat) : En → Option D := fun ρ => match ρ[i]? with
  | some (.val d) => some d
  | some (.own ds) => some (.list ds)
  | _ => none
theorem pw_var {i : Nat} (h : PE X e (tVar i)) : PE X e (tPw X.K (wVar i)) := PE.weaken (pw_of (pu_var h)) fun σ H Q ⟨H0, ρ, Hf, d, S, e, q⟩ => ⟨H0, ρ, Hf, d, S, by
  unfold wVar at e
  unfold gw rVar
  split at e <;> first | (cases e; done) | (cases e; rfl), q⟩
/-! == and != -/
mutual
theorem noDict_lay : ∀ (d : D), d.canLay0 = true → noDict d = true
  | .none, _ => rfl
  | .bool _, _ => rfl
  | .int _, _ => rfl
  | .str _, _ => rfl
  | .list ds, h => noDicts_lay ds (by simpa only [PyData.canLay0] using h)
  | .tuple ds, h => noDicts_lay ds (by simpa only [PyData.canLay0] using h)
  | .dict _, h => by simp [PyData.canLay0] at h
theorem noDicts_lay : ∀ (ds : List D), PyData.canLayAll0 ds = true → noDicts ds = true
  | [], _ => rfl
  | d :: ds, h => by
    simp only [PyData.canLayAll0, Bool.and_eq_true] at h
    simp only [noDicts, Bool.and_eq_true]
    exact ⟨noDict_lay d h.1, noDicts_lay ds h.2⟩
end
theorem dp_of {K : PySem.W.Frag} {H : Hp} {v : V} {d : D} (h : Rp K H v d) (s : SeqAt.shaped d = true) : Dp K H v d := h.dp (noDict_lay d (SeqAt.canLay_of_shaped s))
def dEq (a b : D) : Option D := if SeqAt.shaped a = true ∧ SeqAt.shaped b = true then some (.bool (PyData.eqv a b)) else none
def dNe (a b : D) : Option D := if SeqAt.shaped a = true ∧ SeqAt.shaped b = true then some (.bool (!PyData.eqv a b)) else none
theorem tEq_pv {K : PySem.W.Frag} {σ : L2.St} {H : Hp} {Q : VK} (h : tPv K (b2 dEq ga gb) σ H Q) : tOp (rEqD K) (tPw K ga) (tPw K gb) σ H Q := by
  obtain ⟨H0, ρ, Hf, d, S, e, q⟩ := h
  obtain ⟨da, db, ea, eb, ef⟩ := b2_some e
  unfold dEq at ef
  split at ef
  · rename_i hs
    cases ef
    exact ⟨H0, ρ, Hf, da, S, ea, fun x Hf1 H1 x1 r1 => ⟨H0, ρ, Hf1, db, S.ext x1, eb, fun y Hf2 H2 x2 r2 => ⟨da, db, dp_of (r1.mono x2.all) hs.1, dp_of r2 hs.2, hs.1, hs.2, q _ Hf2 H2 (x1.trans x2) (.bl _)⟩⟩⟩
  · cases ef
theorem tNe_pv {K : PySem.W.Frag} {σ : L2.St} {H : Hp} {Q : VK} (h : tPv K (b2 dNe ga gb) σ H Q) : tOp (rNeD K) (tPw K ga) (tPw K gb) σ H Q := by
  obtain ⟨H0, ρ, Hf, d, S, e, q⟩ := h
  obtain ⟨da, db, ea, eb, ef⟩ := b2_some e
  unfold dNe at ef
  split at ef
  · rename_i hs
    cases ef
    exact ⟨H0, ρ, Hf, da, S, ea, fun x Hf1 H1 x1 r1 => ⟨H0, ρ, Hf1, db, S.ext x1, eb, fun y Hf2 H2 x2 r2 => ⟨da, db, dp_of (r1.mono x2.all) hs.1, dp_of r2 hs.2, hs.1, hs.2, q _ Hf2 H2 (x1.trans x2) (.bl _)⟩⟩⟩
  · cases ef
theorem pv_eq (hu : X.A.units + 64 < cLine) (ha : PE X a (tPw X.K ga)) (hb : PE X b (tPw X.K gb)) : PE X (.Compare a [.Eq] [b] pos) (tPv X.K (b2 dEq ga gb)) :=
  PE.weaken (pe_cmpR (op_eqD hu) ha hb (nomark _)) fun _ _ _ h => tEq_pv h
theorem pv_ne (hu : X.A.units + 64 < cLine) (ha : PE X a (tPw X.K ga)) (hb : PE X b (tPw X.K gb)) : PE X (.Compare a [.NotEq] [b] pos) (tPv X.K (b2 dNe ga gb)) :=
  PE.weaken (pe_cmpR (op_neD hu) ha hb (nomark _)) fun _ _ _ h => tNe_pv h
/-! ### unary, booleans, conditions -/
def b1 (f : D → Option D) (ga : En → Option D) : En → Option D := fun ρ => (ga ρ).bind f
theorem b1_some {f : D → Option D} {ga : En → Option D} {ρ : En} {d : D} (h : b1 f ga ρ = some d) : ∃ a, ga ρ = some a ∧ f a = some d := Option.bind_eq_some_iff.mp h
def dNeg : D → Option D
  | .int a => some (.int (-a))
  | _ => none
theorem pv_neg (ha : PE X a (tPv X.K ga)) : PE X (.UnaryOp .USub a pos) (tPv X.K (b1 dNeg ga)) := PE.weaken (pe_un un_neg ha) fun σ H Q ⟨H0, ρ, Hf, d, S, e, q⟩ => by
  obtain ⟨da, ea, ef⟩ := b1_some e
  cases da <;> simp only [dNeg] at ef <;> cases ef
  exact ⟨H0, ρ, Hf, _, S, ea, fun x Hf1 H1 x1 r1 => ⟨_, r1.int_inv, q _ Hf1 H1 x1 (.int _)⟩⟩
def tPt (K : PySem.W.Frag) (g : En → Option Bool) : TT := fun σ H Q => ∃ H0 ρ Hf b, StOk K H0 ρ σ Hf H ∧ g ρ = some b ∧ ∀ Hf' H', Ext Hf H Hf' H' → Q b H'
def dTru : D → Option Bool
  | .none => some false
  | .bool b => some b
  | .int i => some (i != 0)
  | .str y => if y.length ≤ sizeLine then some ((y.length : Int) != 0) else none
  | .list ds => some (!ds.isEmpty)
  | .tuple ds => some (!ds.isEmpty)
  | .dict [(.list ds, .none)] => some (!ds.isEmpty)
  | .dict _ => none
theorem empty_iff {K : PySem.W.Frag} {H : Hp} {xs : List V} {ds : List D} (r : RpAll K H xs ds) : (!ds.isEmpty) = !xs.isEmpty := by cases r <;> rfl
theorem truV_of {K : PySem.W.Frag} {H : Hp} {v : V} {d : D} {k : Bool} (r : Rp K H v d) (e : dTru d = some k) : TruV K v H k := by
  cases r with
  | non => cases e; rfl
  | bl b => cases e; rfl
  | int i => cases e; rfl
  | str x =>
    simp only [dTru] at e
    split at e
    · cases e; exact ⟨by assumption, rfl⟩
    · cases e
  | lst h q => cases e; exact .inl ⟨_, .inl h, empty_iff q⟩
  | scr h q => cases e; exact .inl ⟨_, h, empty_iff q⟩
  | tup h q => cases e; exact .inr (.inl ⟨_, h, empty_iff q⟩)
  | dct h q => cases q with
    | nil => cases e
    | @cons k v vs d ds _ q => cases k <;> simp [dTru, keyD] at e
  | dctT h q => cases q with
    | nil => cases e
    | cons _ q => simp [dTru] at e
def gTru (g : En → Option D) : En → Option Bool := fun ρ => (g ρ).bind dTru
theorem pt_pw {g : En → Option D} (ha : PE X a (tPw X.K g)) (he : ∀ whole, isTrue a X.env whole = (do let v ← whole; standAt a.pos; holding [v] (truthy v)) := by intro _; rfl) : PT X a (tPt X.K (gTru g)) :=
  PT.weaken (pt_truth ha he) fun σ H Q ⟨H0, ρ, Hf, b, S, e, q⟩ => by
    obtain ⟨d, e1, e2⟩ := Option.bind_eq_some_iff.mp e
    exact ⟨H0, ρ, Hf, d, S, e1, fun v Hf' H' x r => ⟨b, truV_of r e2, q Hf' H' x⟩⟩
def gB : D → Option Bool
  | .bool b => some b
  | _ => none
/-- a comparison as a test: its value -/
def tB (g : En → Option D) : En → Option Bool := fun ρ => (g ρ).bind gB
theorem tPt_of {K : PySem.W.Frag} {g : En → Option D} {σ : L2.St} {H : Hp} {Q : Bool → Hp → Prop} (h : tPt K (tB g) σ H Q) : tPv K g σ H (fun x H' => ∃ k, x = .bl k ∧ Q k H') := by
  obtain ⟨H0, ρ, Hf, k, S, e, q⟩ := h
  obtain ⟨d, e1, e2⟩ := Option.bind_eq_some_iff.mp e
  cases d <;> cases e2
  exact ⟨H0, ρ, Hf, _, S, e1, fun v Hf' H' x r => ⟨_, r.bl_inv, q Hf' H' x⟩⟩
theorem pt_cmp2 {op : CmpOp} {f : D → D → Option D} (ho : OpR X (compareOp op) (rPv2 X.K f)) (ha : PE X a (tPv X.K ga)) (hb : PE X b (tPv X.K gb)) (hm : behindInMarks op b = false) : PT X (.Compare a [op] [b] pos) (tPt X.K (tB (b2 f ga gb))) :=
  PT.weaken (pt_cmpR ho ha hb hm) fun _ _ _ h => tOp_pv (tPt_of h)
theorem pt_eq (hu : X.A.units + 64 < cLine) (ha : PE X a (tPw X.K ga)) (hb : PE X b (tPw X.K gb)) : PT X (.Compare a [.Eq] [b] pos) (tPt X.K (tB (b2 dEq ga gb))) :=
  PT.weaken (pt_cmpR (op_eqD hu) ha hb (nomark _)) fun _ _ _ h => tEq_pv (tPt_of h)
theorem pt_ne (hu : X.A.units + 64 < cLine) (ha : PE X a (tPw X.K ga)) (hb : PE X b (tPw X.K gb)) : PT X (.Compare a [.NotEq] [b] pos) (tPt X.K (tB (b2 dNe ga gb))) :=
  PT.weaken (pt_cmpR (op_neD hu) ha hb (nomark _)) fun _ _ _ h => tNe_pv (tPt_of h)
/-- and, or, not -/
def gAnd (ga gb : En → Option D) : En → Option D := fun ρ => match ga ρ with
  | some (.bool true) => gb ρ
  | some (.bool false) => some (.bool false)
  | _ => none
def gOr (ga gb : En → Option D) : En → Option D := fun ρ => match ga ρ with
  | some (.bool true) => some (.bool true)
  | some (.bool false) => gb ρ
  | _ => none
def tAnd2 (ga gb : En → Option Bool) : En → Option Bool := fun ρ => (ga ρ).bind fun c => if c = true then gb ρ else some false
def tOr2 (ga gb : En → Option Bool) : En → Option Bool := fun ρ => (ga ρ).bind fun c => if c = true then some true else gb ρ
theorem pv_and {c : Expr} {rest : List Expr} (ha : PE X a (tPv X.K ga)) (hb : PE X (.BoolOp .And (c :: rest) pos) (tPv X.K gb)) : PE X (.BoolOp .And (a :: c :: rest) pos) (tPv X.K (gAnd ga gb)) :=
  PE.weaken (pe_and ha hb) fun σ H Q ⟨H0, ρ, Hf, d, S, e, q⟩ => by
    unfold gAnd at e
    split at e
    · rename_i h
      exact ⟨H0, ρ, Hf, _, S, h, fun v Hf1 H1 x1 r1 => ⟨true, r1.bl_inv, iteT ⟨H0, ρ, Hf1, d, S.ext x1, e, fun w Hf2 H2 x2 r2 => q w Hf2 H2 (x1.trans x2) r2⟩⟩⟩
    · rename_i h
      cases e
      exact ⟨H0, ρ, Hf, _, S, h, fun v Hf1 H1 x1 r1 => ⟨false, r1.bl_inv, iteF (q _ Hf1 H1 x1 (.bl _))⟩⟩
    · cases e
theorem pv_or {c : Expr} {rest : List Expr} (ha : PE X a (tPv X.K ga)) (hb : PE X (.BoolOp .Or (c :: rest) pos) (tPv X.K gb)) : PE X (.BoolOp .Or (a :: c :: rest) pos) (tPv X.K (gOr ga gb)) :=
  PE.weaken (pe_or ha hb) fun σ H Q ⟨H0, ρ, Hf, d, S, e, q⟩ => by
    unfold gOr at e
    split at e
    · rename_i h
      cases e
      exact ⟨H0, ρ, Hf, _, S, h, fun v Hf1 H1 x1 r1 => ⟨true, r1.bl_inv, iteT (q _ Hf1 H1 x1 (.bl _))⟩⟩
    · rename_i h
      exact ⟨H0, ρ, Hf, _, S, h, fun v Hf1 H1 x1 r1 => ⟨false, r1.bl_inv, iteF ⟨H0, ρ, Hf1, d, S.ext x1, e, fun w Hf2 H2 x2 r2 => q w Hf2 H2 (x1.trans x2) r2⟩⟩⟩
    · cases e
theorem pv_one {op : BoolOp} (h : PE X a (tPv X.K ga)) : PE X (.BoolOp op [a] pos) (tPv X.K ga) := pe_one h
def dNot : D → Option D
  | .bool b => some (.bool (!b))
  | _ => none
theorem pv_not (ha : PE X a (tPv X.K ga)) : PE X (.UnaryOp .Not a pos) (tPv X.K (b1 dNot ga)) := PE.weaken (pe_not ha) fun σ H Q ⟨H0, ρ, Hf, d, S, e, q⟩ => by
  obtain ⟨da, ea, ef⟩ := b1_some e
  cases da <;> simp only [dNot] at ef <;> cases ef
  exact ⟨H0, ρ, Hf, _, S, ea, fun x Hf1 H1 x1 r1 => ⟨_, r1.bl_inv, q _ Hf1 H1 x1 (.bl _)⟩⟩
section
variable {ta tb : En → Option Bool}
theorem qw_and1 (ha : PT X a (tPt X.K ta)) : PW X (.BoolOp .And [a] pos) (tPt X.K ta) := pw_and1 ha
theorem qw_or1 (ha : PT X a (tPt X.K ta)) : PW X (.BoolOp .Or [a] pos) (tPt X.K ta) := pw_or1 ha
theorem PW.weaken {e : Expr} {t t' : TT} (h : PW X e t) (w : ∀ σ H Q, t' σ H Q → t σ H Q) : PW X e t' := ⟨fun whole pins s σ H Q I q => h.run whole pins s σ H Q I (w σ H Q q)⟩
theorem qw_and {c : Expr} {rest : List Expr} (ha : PT X a (tPt X.K ta)) (hb : PW X (.BoolOp .And (c :: rest) pos) (tPt X.K tb)) : PW X (.BoolOp .And (a :: c :: rest) pos) (tPt X.K (tAnd2 ta tb)) :=
  PW.weaken (pw_and ha hb) fun σ H Q ⟨H0, ρ, Hf, d, S, e, q⟩ => by
    obtain ⟨c, e1, e2⟩ := Option.bind_eq_some_iff.mp e
    refine ⟨H0, ρ, Hf, c, S, e1, fun Hf1 H1 x1 => ?_⟩
    cases c with
    | true => rw [if_pos rfl] at e2 ⊢; exact ⟨H0, ρ, Hf1, d, S.ext x1, e2, fun Hf2 H2 x2 => q Hf2 H2 (x1.trans x2)⟩
    | false => rw [if_neg Bool.false_ne_true] at e2 ⊢; cases e2; exact q Hf1 H1 x1
theorem qw_or {c : Expr} {rest : List Expr} (ha : PT X a (tPt X.K ta)) (hb : PW X (.BoolOp .Or (c :: rest) pos) (tPt X.K tb)) : PW X (.BoolOp .Or (a :: c :: rest) pos) (tPt X.K (tOr2 ta tb)) :=
  PW.weaken (pw_or ha hb) fun σ H Q ⟨H0, ρ, Hf, d, S, e, q⟩ => by
    obtain ⟨c, e1, e2⟩ := Option.bind_eq_some_iff.mp e
    refine ⟨H0, ρ, Hf, c, S, e1, fun Hf1 H1 x1 => ?_⟩
    cases c with
    | true => rw [if_pos rfl] at e2 ⊢; cases e2; exact q Hf1 H1 x1
    | false => rw [if_neg Bool.false_ne_true] at e2 ⊢; exact ⟨H0, ρ, Hf1, d, S.ext x1, e2, fun Hf2 H2 x2 => q Hf2 H2 (x1.trans x2)⟩
def tNot2 (ta : En → Option Bool) : En → Option Bool := fun ρ => (ta ρ).map (!·)
theorem qt_not (ha : PT X a (tPt X.K ta)) : PT X (.UnaryOp .Not a pos) (tPt X.K (tNot2 ta)) := PT.weaken (pt_not ha) fun σ H Q ⟨H0, ρ, Hf, d, S, e, q⟩ => by
  unfold tNot2 at e
  obtain ⟨c, e1, e2⟩ := Option.map_eq_some_iff.mp e
  subst e2
  exact ⟨H0, ρ, Hf, c, S, e1, q⟩
def gIf (tc : En → Option Bool) (ga gb : En → Option D) : En → Option D := fun ρ => (tc ρ).bind fun c => if c = true then ga ρ else gb ρ
theorem pv_if {c : Expr} (hc : PT X c (tPt X.K ta)) (ha : PE X a (tPv X.K ga)) (hb : PE X b (tPv X.K gb)) : PE X (.IfExp c a b pos) (tPv X.K (gIf ta ga gb)) := PE.weaken (pe_ifExp hc ha hb) fun σ H Q ⟨H0, ρ, Hf, d, S, e, q⟩ => by
  obtain ⟨c, e1, e2⟩ := Option.bind_eq_some_iff.mp e
  refine ⟨H0, ρ, Hf, c, S, e1, fun Hf1 H1 x1 => ?_⟩
  cases c with
  | true => rw [if_pos rfl] at e2 ⊢; exact ⟨H0, ρ, Hf1, d, S.ext x1, e2, fun v Hf2 H2 x2 r => q v Hf2 H2 (x1.trans x2) r⟩
  | false => rw [if_neg Bool.false_ne_true] at e2 ⊢; exact ⟨H0, ρ, Hf1, d, S.ext x1, e2, fun v Hf2 H2 x2 r => q v Hf2 H2 (x1.trans x2) r⟩
end
/-! ### items -/
theorem Rp.scr_inv {K : PySem.W.Frag} {H : Hp} {v : V} {d : D} {ds : List D} (h : Rp K H v d) (e : d = scrD ds) : ∃ a xs, v = .ref a ∧ SqL K H a xs ∧ RpAll K H xs ds := by
  cases h with
  | scr h1 q =>
    injection e with e
    injection e with e _
    injection e with e _
    injection e with e
    subst e
    exact ⟨_, _, rfl, h1, q⟩
  | dct h1 q =>
    injection e with e
    cases q with
    | nil => cases e
    | @cons k v vs d ds _ q =>
      injection e with e _
      injection e with e _
      cases k <;> cases e
  | dctT h1 q =>
    injection e with e
    cases q with
    | nil => cases e
    | cons _ q =>
      injection e with e _
      injection e with e _
      cases e
  | _ => cases e
def lstOf : Rs → Option (List D)
  | .val (.list ds) => some ds
  | .val (.dict [(.list ds, .none)]) => some ds
  | .view ds => some ds
  | .new ds => some ds
  | _ => none
theorem lst_of {K : PySem.W.Frag} {H0 Hf H : Hp} {v : V} {r : Rs} {ds : List D} (h : RsOk K H0 Hf H v r) (s : Same Hf H) (e : lstOf r = some ds) : ∃ a xs, v = .ref a ∧ SqL K H a xs ∧ RpAll K Hf xs ds := by
  unfold lstOf at e
  split at e
  · cases e
    obtain ⟨a, xs, rfl, h1, q⟩ := Rp.lst_inv h
    exact ⟨a, xs, rfl, .inl (Same.rd s h1), q⟩
  · rename_i es
    cases e
    obtain ⟨a, xs, rfl, h1, q⟩ := Rp.scr_inv (show Rp K Hf v _ from h) rfl
    exact ⟨a, xs, rfl, s.seq h1, q⟩
  · cases e
    obtain ⟨a, vs, rfl, h1, q⟩ := h
    exact ⟨a, vs, rfl, .of h1, q⟩
  · cases e
    obtain ⟨a, vs, rfl, _, h1, _, q⟩ := h
    exact ⟨a, vs, rfl, .of h1, q⟩
  · cases e
def dIx (r : Rs) (i : D) : Option D := match i with
  | .int i => match lstOf r with
    | some ds => atI ds i
    | none => match r with
      | .val (.tuple ds) => atI ds i
      | .val (.str z) => if z.length ≤ sizeLine then (atI z.cps.toList i).map fun c => .str ⟨#[c]⟩ else none
      | _ => none
  | _ => none
theorem atI_rp {K : PySem.W.Frag} {H : Hp} {xs : List V} {ds : List D} {i : Int} {d : D} (r : RpAll K H xs ds) (e : atI ds i = some d) : ∃ v, atI xs i = some v ∧ Rp K H v d := by
  unfold atI at e ⊢
  rw [r.length]
  obtain ⟨j, h1, h2⟩ := Option.bind_eq_some_iff.mp e
  obtain ⟨v, h3, q⟩ := r.get h2
  exact ⟨v, by rw [h1]; exact h3, q⟩
def gIx (gr : En → Option Rs) (gi : En → Option D) : En → Option D := fun ρ => (gr ρ).bind fun r => (gi ρ).bind fun i => dIx r i
theorem pv_ix {gr : En → Option Rs} {gi : En → Option D} (ha : PE X a (tPu X.K gr)) (hb : PE X b (tPv X.K gi)) (hs : PlainIx b) : PE X (.Subscript a b pos) (tPv X.K (gIx gr gi)) :=
  PE.weaken (pe_ix ix_seq ha hb hs) fun σ H Q ⟨H0, ρ, Hf, d, S, e, q⟩ => by
    obtain ⟨r, e1, e⟩ := Option.bind_eq_some_iff.mp e
    obtain ⟨i, e2, e⟩ := Option.bind_eq_some_iff.mp e
    unfold dIx at e
    split at e
    · rename_i i
      refine ⟨H0, ρ, Hf, r, S, e1, fun v Hf1 H1 x1 r1 => ⟨H0, ρ, Hf1, _, S.ext x1, e2, fun w Hf2 H2 x2 r2 => ?_⟩⟩
      split at e
      · rename_i ds hl
        obtain ⟨l, xs, rfl, h1, ra⟩ := lst_of r1 x1.sub hl
        obtain ⟨u, h2, ru⟩ := atI_rp ra e
        exact .inl ⟨l, xs, i, u, rfl, r2.int_inv, x2.all.seq h1, h2, q u Hf2 H2 (x1.trans x2) (ru.mono x2.fro)⟩
      · split at e
        · obtain ⟨l, xs, rfl, h1, ra⟩ := Rp.tup_inv r1
          obtain ⟨u, h2, ru⟩ := atI_rp ra e
          exact .inr (.inl ⟨l, xs, i, u, rfl, r2.int_inv, Same.seqT x2.all (Same.seqT x1.sub h1), h2, q u Hf2 H2 (x1.trans x2) (ru.mono x2.fro)⟩)
        · split at e
          · obtain ⟨c, e3, e4⟩ := Option.map_eq_some_iff.mp e
            subst e4
            exact .inr (.inr ⟨_, i, c, Rp.str_inv r1, r2.int_inv, by assumption, e3, q _ Hf2 H2 (x1.trans x2) (.str _)⟩)
          · cases e
        · cases e
    · cases e
/-! ### arguments, displays, calls -/
def tPa (K : PySem.W.Frag) (g : En → Option (List D)) : TA := fun σ H Q => ∃ H0 ρ Hf ds, StOk K H0 ρ σ Hf H ∧ g ρ = some ds ∧ ∀ vs Hf' H', Ext Hf H Hf' H' → RpAll K Hf' vs ds → Q vs H'
def aNil : En → Option (List D) := fun _ => some []
def aCons (g : En → Option D) (gs : En → Option (List D)) : En → Option (List D) := fun ρ => (g ρ).bind fun d => (gs ρ).bind fun ds => some (d :: ds)
theorem qa_nil : PA X [] (tPa X.K aNil) := PA.weaken pa_nil fun σ H Q ⟨H0, ρ, Hf, ds, S, e, q⟩ => by cases e; exact q [] Hf H (.refl S.sub) .nil
theorem qa_cons {gs : En → Option (List D)} (ha : PE X e (tPv X.K ga)) (hr : PA X es (tPa X.K gs)) (hs : starEach (e :: es) X.env = (false, eval e X.env) :: starEach es X.env := by rfl) : PA X (e :: es) (tPa X.K (aCons ga gs)) :=
  PA.weaken (pa_cons ha hr hs) fun σ H Q ⟨H0, ρ, Hf, ds, S, e, q⟩ => by
    obtain ⟨d, e1, e⟩ := Option.bind_eq_some_iff.mp e
    obtain ⟨r, e2, e⟩ := Option.bind_eq_some_iff.mp e
    cases e
    exact ⟨H0, ρ, Hf, d, S, e1, fun v Hf1 H1 x1 r1 => ⟨H0, ρ, Hf1, r, S.ext x1, e2, fun vs Hf2 H2 x2 r2 => q (v :: vs) Hf2 H2 (x1.trans x2) (.cons (r1.mono x2.fro) r2)⟩⟩
def gTup2 (gs : En → Option (List D)) : En → Option D := fun ρ => (gs ρ).bind fun ds => if ds.length ≤ sizeLine then some (.tuple ds) else none
def gLst2 (gs : En → Option (List D)) : En → Option Rs := fun ρ => (gs ρ).bind fun ds => if ds.length ≤ sizeLine then some (.new ds) else none
theorem pv_tup {gs : En → Option (List D)} {x1} (h : PA X es (tPa X.K gs)) : PE X (.Tuple es x1 pos) (tPv X.K (gTup2 gs)) := PE.weaken (pe_tup h) fun σ H Q ⟨H0, ρ, Hf, d, S, e, q⟩ => by
  obtain ⟨ds, e1, e⟩ := Option.bind_eq_some_iff.mp e
  split at e
  · rename_i hl
    cases e
    exact ⟨H0, ρ, Hf, ds, S, e1, fun vs Hf1 H1 x1 r1 => ⟨by rw [r1.length]; exact hl, fun p hp => q _ _ _ (x1.trans (.fresh x1.sub hp)) (.tup (.of upd_same) (r1.mono (Same.new (x1.sub.free hp))))⟩⟩
  · cases e
theorem pu_lst {gs : En → Option (List D)} (h : PA X es (tPa X.K gs)) : PE X (.List es pos) (tPu X.K (gLst2 gs)) := PE.weaken (pe_lst h) fun σ H Q ⟨H0, ρ, Hf, d, S, e, q⟩ => by
  obtain ⟨ds, e1, e⟩ := Option.bind_eq_some_iff.mp e
  split at e
  · rename_i hl
    cases e
    exact ⟨H0, ρ, Hf, ds, S, e1, fun vs Hf1 H1 x1 r1 => ⟨by rw [r1.length]; exact hl, fun p hp => q _ _ _ (x1.trans (.loose x1.sub hp)) ⟨p, vs, rfl, x1.all.free hp, upd_same, x1.sub.free hp, r1⟩⟩⟩
  · cases e
/-- the promise of a pure def -/
def spPu (K : PySem.W.Frag) (n : Nat) (φ : List D → Option D) : Sp := fun vs H Q _ => ∃ Hf ds d, ds.length = n ∧ Same Hf H ∧ RpAll K Hf vs ds ∧ φ ds = some d ∧ ∀ v Hf' H', Ext Hf H Hf' H' → Rp K Hf' v d → Q v H'
theorem spPu_len {K : PySem.W.Frag} {n : Nat} {φ : List D → Option D} {vs : List V} {H : Hp} {Q : VK} {E : XK} (h : spPu K n φ vs H Q E) : vs.length = n := by
  obtain ⟨Hf, ds, d, rfl, _, r, _⟩ := h
  exact r.length
def gCall (n : Nat) (φ : List D → Option D) (gs : En → Option (List D)) : En → Option D := fun ρ => (gs ρ).bind fun ds => if ds.length = n then φ ds else none
theorem tCall_pv {K : PySem.W.Frag} {n : Nat} {φ : List D → Option D} {gs : En → Option (List D)} {E : XK} {σ : L2.St} {H : Hp} {Q : VK} (h : tPv K (gCall n φ gs) σ H Q) : tCall (spPu K n φ) [] E (tPa K gs) σ H Q := by
  obtain ⟨H0, ρ, Hf, d, S, e, q⟩ := h
  obtain ⟨ds, e1, e⟩ := Option.bind_eq_some_iff.mp e
  split at e
  · rename_i hl
    refine ⟨H0, ρ, Hf, ds, S, e1, fun vs Hf1 H1 x1 r1 => ?_⟩
    show spPu K n φ (vs ++ []) H1 Q E
    rw [List.append_nil]
    exact ⟨Hf1, ds, d, hl, x1.sub, r1, e, fun v Hf2 H2 x2 r2 => q v Hf2 H2 (x1.trans x2) r2⟩
  · cases e
theorem pv_call {CX : CXT} {E : XK} {k n : Nat} {f : Addr} {fd : FuncData} {ps : List Str} {x : Str} {p : Pos} {φ : List D → Option D} {gs : En → Option (List D)} (F : FnOk X.prog X.w X.K X.mg X.base CX k f fd ps (spPu X.K n φ)) (hr : Room k X.A) (hg : Gl X x) (hm : X.mg x = some (.ref f))
    (hk : PySem.W.keepIn X.K (.ref f) = true) (hb : Binds X.K fd ps []) (hx : Passes CX X E) (ha : PA X (e :: es) (tPa X.K gs)) (hdb : (x == ("__debug__" : Str)) = false := by decide) (he : starEach (e :: es) X.env = (false, eval e X.env) :: starEach es X.env := by rfl)
    (hpl : (backTo pos (starEach es X.env)).any (·.1) = false := by rfl) : PE X (.Call (.Name x p) (e :: es) [] pos) (tPv X.K (gCall n φ gs)) :=
  PE.weaken (pe_call F hr hg hm hk hb .nil hx ha hdb he hpl) fun _ _ _ h => tCall_pv h
/-- builtin functions by values -/
def rPc (K : PySem.W.Frag) (f : List D → Option D) : List V → Hp → VK → Prop := fun vs H Q => ∃ Hf ds d, Same Hf H ∧ RpAll K Hf vs ds ∧ f ds = some d ∧ ∀ v Hf' H', Ext Hf H Hf' H' → Rp K Hf' v d → Q v H'
theorem CallR.weaken {f : Value} {r r' : List V → Hp → VK → Prop} (h : CallR X f r) (w : ∀ xs H Q, r' xs H Q → r xs H Q) : CallR X f r' := fun pins s σ H xs us Q I rs q => h pins s σ H xs us Q I rs (w _ _ _ q)
def gFn (f : List D → Option D) (gs : En → Option (List D)) : En → Option D := fun ρ => (gs ρ).bind f
theorem tCB_pv {K : PySem.W.Frag} {f : List D → Option D} {gs : En → Option (List D)} {σ : L2.St} {H : Hp} {Q : VK} (h : tPv K (gFn f gs) σ H Q) : tCB (rPc K f) (tPa K gs) σ H Q := by
  obtain ⟨H0, ρ, Hf, d, S, e, q⟩ := h
  obtain ⟨ds, e1, e⟩ := Option.bind_eq_some_iff.mp e
  exact ⟨H0, ρ, Hf, ds, S, e1, fun vs Hf1 H1 x1 r1 => ⟨Hf1, ds, d, x1.sub, r1, e, fun v Hf2 H2 x2 r2 => q v Hf2 H2 (x1.trans x2) r2⟩⟩
theorem pv_callB {id : String} {f : List D → Option D} {x : Str} {p : Pos} {gs : En → Option (List D)} (hc : CallR X (.builtin id) (rPc X.K f)) (hg : Gl X x) (hm : X.mg x = none) (hv : bootBuiltins x = some (.builtin id)) (ha : PA X (e :: es) (tPa X.K gs)) (hn : x ≠ "__name__" := by decide)
    (hdb : (x == ("__debug__" : Str)) = false := by decide) (he : starEach (e :: es) X.env = (false, eval e X.env) :: starEach es X.env := by rfl) (hpl : (backTo pos (starEach es X.env)).any (·.1) = false := by rfl) : PE X (.Call (.Name x p) (e :: es) [] pos) (tPv X.K (gFn f gs)) :=
  PE.weaken (pe_callB hc hg hm hv ha hn hdb he hpl) fun _ _ _ h => tCB_pv h
theorem pv_callT {T : String} {f : List D → Option D} {x : Str} {p : Pos} {gs : En → Option (List D)} (hc : CallR X (.type T) (rPc X.K f)) (hg : Gl X x) (hm : X.mg x = none) (hv : bootBuiltins x = some (.type T)) (ha : PA X (e :: es) (tPa X.K gs)) (hn : x ≠ "__name__" := by decide)
    (hdb : (x == ("__debug__" : Str)) = false := by decide) (he : starEach (e :: es) X.env = (false, eval e X.env) :: starEach es X.env := by rfl) (hpl : (backTo pos (starEach es X.env)).any (·.1) = false := by rfl) : PE X (.Call (.Name x p) (e :: es) [] pos) (tPv X.K (gFn f gs)) :=
  PE.weaken (pe_callTy hc hg hm hv ha hn hdb he hpl) fun _ _ _ h => tCB_pv h
end
end Pu

namespace Pu
open PySem PySem.Spec PyProof.Rows L2
section
variable {X : Cx} {e a b : Expr} {es : List Expr} {pos : Pos} {ga gb : En → Option D}
/-! ### built-in functions of one argument -/
def rR1 (K : PySem.W.Frag) (f : Rs → Option Rs) : List V → Hp → VK → Prop := fun vs H Q => ∃ H0 Hf v r d, vs = [v] ∧ Same Hf H ∧ RsOk K H0 Hf H v r ∧ f r = some d ∧ ∀ w Hf' H', Ext Hf H Hf' H' → RsOk K H Hf' H' w d → Q w H'
def gR1 (f : Rs → Option Rs) (g : En → Option Rs) : En → Option Rs := fun ρ => (g ρ).bind f
theorem rs_older {K : PySem.W.Frag} {H1 H0 Hf H : Hp} {v : V} {r : Rs} (s : Same H1 H0) (h : RsOk K H0 Hf H v r) : RsOk K H1 Hf H v r := by
  cases r with
  | val d => exact h
  | view ds => exact h
  | new ds => obtain ⟨a, vs, e, h0, h1, h2, q⟩ := h; exact ⟨a, vs, e, s.free h0, h1, h2, q⟩
theorem tCB1_pu {K : PySem.W.Frag} {f : Rs → Option Rs} {g : En → Option Rs} {σ : L2.St} {H : Hp} {Q : VK} (h : tPu K (gR1 f g) σ H Q) : tCB (rR1 K f) (tCons (tPu K g) tNil) σ H Q := by
  obtain ⟨H0, ρ, Hf, d, S, e, q⟩ := h
  obtain ⟨r, e1, e⟩ := Option.bind_eq_some_iff.mp e
  exact ⟨H0, ρ, Hf, r, S, e1, fun v Hf1 H1 x1 r1 => ⟨H, Hf1, v, r, d, rfl, x1.sub, r1, e, fun w Hf2 H2 x2 r2 => q w Hf2 H2 (x1.trans x2) (rs_older x1.all r2)⟩⟩
theorem pu_call1 {id : String} {f : Rs → Option Rs} {x : Str} {p : Pos} {g : En → Option Rs} (hc : CallR X (.builtin id) (rR1 X.K f)) (hg : Gl X x) (hm : X.mg x = none) (hv : bootBuiltins x = some (.builtin id)) (ha : PE X e (tPu X.K g)) (hn : x ≠ "__name__" := by decide)
    (hdb : (x == ("__debug__" : Str)) = false := by decide) (he : starEach [e] X.env = (false, eval e X.env) :: starEach [] X.env := by rfl) (hpl : (backTo pos (starEach [] X.env)).any (·.1) = false := by rfl) : PE X (.Call (.Name x p) [e] [] pos) (tPu X.K (gR1 f g)) :=
  PE.weaken (pe_callB hc hg hm hv (pa_cons ha pa_nil he) hn hdb he hpl) fun _ _ _ h => tCB1_pu h
theorem pu_callT1 {T : String} {f : Rs → Option Rs} {x : Str} {p : Pos} {g : En → Option Rs} (hc : CallR X (.type T) (rR1 X.K f)) (hg : Gl X x) (hm : X.mg x = none) (hv : bootBuiltins x = some (.type T)) (ha : PE X e (tPu X.K g)) (hn : x ≠ "__name__" := by decide)
    (hdb : (x == ("__debug__" : Str)) = false := by decide) (he : starEach [e] X.env = (false, eval e X.env) :: starEach [] X.env := by rfl) (hpl : (backTo pos (starEach [] X.env)).any (·.1) = false := by rfl) : PE X (.Call (.Name x p) [e] [] pos) (tPu X.K (gR1 f g)) :=
  PE.weaken (pe_callTy hc hg hm hv (pa_cons ha pa_nil he) hn hdb he hpl) fun _ _ _ h => tCB1_pu h
/-- len -/
def dLen (r : Rs) : Option Rs := match lstOf r with
  | some ds => some (.val (.int ds.length))
  | none => match r with
    | .val (.tuple ds) => some (.val (.int ds.length))
    | .val (.str z) => if z.length ≤ sizeLine then some (.val (.int z.length)) else none
    | _ => none
theorem cl_len : CallR X (.builtin "len") (rR1 X.K dLen) := CallR.weaken (call_len_seq.or call_len_str) fun vs H Q ⟨H0, Hf, v, r, d, e, s, ro, ef, q⟩ => by
  subst e
  unfold dLen at ef
  split at ef
  · rename_i ds hl
    cases ef
    obtain ⟨a, xs, rfl, h1, ra⟩ := lst_of ro s hl
    refine .inl ⟨a, xs, rfl, .inl h1, ?_⟩
    rw [ra.length]
    exact q _ Hf H (.refl s) (.int _)
  · split at ef
    · cases ef
      obtain ⟨a, xs, rfl, h1, ra⟩ := Rp.tup_inv ro
      refine .inl ⟨a, xs, rfl, .inr (Same.seqT s h1), ?_⟩
      rw [ra.length]
      exact q _ Hf H (.refl s) (.int _)
    · split at ef
      · cases ef
        exact .inr ⟨_, by rw [Rp.str_inv ro], by assumption, q _ Hf H (.refl s) (.int _)⟩
      · cases ef
    · cases ef
/-! sorted, sum, any, all, max, min, list -/
def asInt : D → Option Int
  | .int i => some i
  | _ => none
def asPair : D → Option (Int × Int)
  | .tuple [.int i, .int j] => some (i, j)
  | _ => none
def asBool : D → Option Bool
  | .bool b => some b
  | _ => none
def allOf {α : Type} (f : D → Option α) : List D → Option (List α)
  | [] => some []
  | d :: ds => (f d).bind fun x => (allOf f ds).map (x :: ·)
def pairD (p : Int × Int) : D := .tuple [.int p.1, .int p.2]
theorem allOf_some {α : Type} {f : D → Option α} {g : α → D} (h : ∀ d x, f d = some x → d = g x) : ∀ {ds : List D} {xs : List α}, allOf f ds = some xs → ds = xs.map g
  | [], _, e => by cases e; rfl
  | d :: ds, _, e => by
    obtain ⟨x, e1, e⟩ := Option.bind_eq_some_iff.mp e
    obtain ⟨r, e2, e⟩ := Option.map_eq_some_iff.mp e
    subst e
    rw [h d x e1, allOf_some h e2]
    rfl
theorem allOf_map {α : Type} {f : D → Option α} {g : α → D} (h : ∀ x, f (g x) = some x) : ∀ (xs : List α), allOf f (xs.map g) = some xs
  | [] => rfl
  | x :: xs => by rw [List.map_cons, allOf, h, allOf_map h xs]; rfl
theorem asInt_inv (d : D) (x : Int) (h : asInt d = some x) : d = .int x := by cases d <;> simp [asInt] at h; rw [h]
theorem asBool_inv (d : D) (x : Bool) (h : asBool d = some x) : d = .bool x := by cases d <;> simp [asBool] at h; rw [h]
theorem asPair_inv (d : D) (x : Int × Int) (h : asPair d = some x) : d = pairD x := by
  unfold asPair at h
  split at h
  · cases h; rfl
  · cases h
def leP (p q : Int × Int) : Bool := decide (p.1 < q.1) || (decide (p.1 = q.1) && decide (p.2 ≤ q.2))
theorem leP_iff {p q : Int × Int} : leP p q = true ↔ p.1 < q.1 ∨ (p.1 = q.1 ∧ p.2 ≤ q.2) := by simp [leP]
def sortI (ns : List Int) : List Int := ns.mergeSort fun a b => decide (a ≤ b)
def sortP (ps : List (Int × Int)) : List (Int × Int) := ps.mergeSort leP
theorem sortI_perm (ns : List Int) : (sortI ns).Perm ns := List.mergeSort_perm _ _
theorem sortP_perm (ns : List (Int × Int)) : (sortP ns).Perm ns := List.mergeSort_perm _ _
theorem sortI_sorted (ns : List Int) : (sortI ns).Pairwise (· ≤ ·) := by
  have h := List.pairwise_mergeSort (le := fun a b : Int => decide (a ≤ b)) (fun a b c h1 h2 => by simp only [decide_eq_true_eq] at *; omega) (fun a b => by simp only [Bool.or_eq_true, decide_eq_true_eq]; omega) ns
  exact h.imp fun h => of_decide_eq_true h
theorem sortP_sorted (ns : List (Int × Int)) : (sortP ns).Pairwise (fun p q => leP p q = true) :=
  List.pairwise_mergeSort (fun a b c h1 h2 => by rw [leP_iff] at *; omega) (fun a b => by rw [Bool.or_eq_true, leP_iff, leP_iff]; omega) ns
theorem sortI_uniq {ns ns' : List Int} (p : ns'.Perm ns) (h : ns'.Pairwise (· ≤ ·)) : ns' = sortI ns :=
  List.Perm.eq_of_pairwise (le := (· ≤ ·)) (fun a b _ _ h1 h2 => Int.le_antisymm h1 h2) h (sortI_sorted ns) (p.trans (sortI_perm ns).symm)
theorem sortP_uniq {ns ns' : List (Int × Int)} (p : ns'.Perm ns) (h : ns'.Pairwise (fun p q => leP p q = true)) : ns' = sortP ns :=
  List.Perm.eq_of_pairwise (le := fun p q => leP p q = true) (fun a b _ _ h1 h2 => by
    rw [leP_iff] at h1 h2
    exact Prod.ext (by omega) (by omega)) h (sortP_sorted ns) (p.trans (sortP_perm ns).symm)
def dSorted (r : Rs) : Option Rs := (lstOf r).bind fun ds => match allOf asInt ds with
  | some ns => some (.new ((sortI ns).map .int))
  | none => (allOf asPair ds).map fun ps => .new ((sortP ps).map pairD)
/-- the pair that a value stands for -/
noncomputable def pairOf (K : PySem.W.Frag) (H : Hp) (v : V) : Int × Int := by
  classical
  exact if h : ∃ p : Int × Int, ∃ t, v = .ref t ∧ SqT K H t [.int p.1, .int p.2] then h.choose else (0, 0)
theorem pairD_inv {K : PySem.W.Frag} {H : Hp} {v : V} {p : Int × Int} (h : Rp K H v (pairD p)) : ∃ t, v = .ref t ∧ SqT K H t [.int p.1, .int p.2] := by
  obtain ⟨t, xs, rfl, h1, ra⟩ := Rp.tup_inv h
  cases ra with
  | cons a b =>
    cases b with
    | cons b c =>
      cases c
      rw [a.int_inv, b.int_inv] at h1
      exact ⟨t, rfl, h1⟩
theorem pairOf_eq {pins : List (Addr × Obj)} {σ : L2.St} {H : Hp} {s : Shared} {v : V} {p : Int × Int} (I : Inv X pins σ H s) (h : ∃ t, v = .ref t ∧ SqT X.K H t [.int p.1, .int p.2]) : pairOf X.K H v = p := by
  have h' : ∃ p : Int × Int, ∃ t, v = .ref t ∧ SqT X.K H t [.int p.1, .int p.2] := ⟨p, h⟩
  unfold pairOf
  rw [dif_pos h']
  obtain ⟨t, e, q⟩ := h
  obtain ⟨t', e', q'⟩ := h'.choose_spec
  rw [e] at e'
  cases e'
  have z := I.tuple_inj q' q
  injection z with z1 z
  injection z with z2 _
  injection z1 with z1
  injection z2 with z2
  exact Prod.ext z1 z2
theorem pairs_rp {K : PySem.W.Frag} {H : Hp} : ∀ {vs : List V} {ps : List (Int × Int)}, RpAll K H vs (ps.map pairD) → ∀ x ∈ vs, ∃ p, Rp K H x (pairD p)
  | _, [], h => by cases h; simp
  | _, p :: ps, h => by
    cases h with
    | cons a b =>
      intro x hx
      rcases List.mem_cons.mp hx with rfl | hx
      · exact ⟨p, a⟩
      · exact pairs_rp b x hx
theorem pairs_keys {pins : List (Addr × Obj)} {σ : L2.St} {H Hf : Hp} {s : Shared} (I : Inv X pins σ H s) (sub : Same Hf H) : ∀ {vs : List V} {ps : List (Int × Int)}, RpAll X.K Hf vs (ps.map pairD) → vs.map (pairOf X.K H) = ps
  | _, [], h => by cases h; rfl
  | _, p :: ps, h => by
    cases h with
    | cons a b =>
      obtain ⟨t, e, q⟩ := pairD_inv a
      rw [List.map_cons, pairs_keys I sub b, pairOf_eq I ⟨t, e, Same.seqT sub q⟩]
theorem rp_of_mem {K : PySem.W.Frag} {Hf : Hp} {f : V → D} : ∀ {ys : List V}, (∀ y ∈ ys, Rp K Hf y (f y)) → RpAll K Hf ys (ys.map f)
  | [], _ => .nil
  | y :: ys, h => .cons (h y List.mem_cons_self) (rp_of_mem fun z hz => h z (List.mem_cons_of_mem _ hz))
theorem cl_sorted : CallR X (.builtin "sorted") (rR1 X.K dSorted) := by
  intro pins s σ H vs us Q I rr h
  obtain ⟨H0, Hf, v, r, d, e, sub, ro, ef, q⟩ := h
  subst e
  unfold dSorted at ef
  obtain ⟨ds, hl, ef⟩ := Option.bind_eq_some_iff.mp ef
  obtain ⟨a, xs, rfl, h1, ra⟩ := lst_of ro sub hl
  split at ef
  · rename_i ns hn
    cases ef
    have e1 := allOf_some (g := PyData.int) asInt_inv hn
    rw [e1] at ra
    rw [ra.ints_inv] at h1
    refine cr_sortedI pins s σ H _ us Q I rr ⟨a, ns, rfl, h1, fun ns' p hp hs hnp => ?_⟩
    rw [sortI_uniq hp hs]
    exact q _ Hf _ (.loose sub hnp) ⟨p, _, rfl, hnp, upd_same, sub.free hnp, .ints _⟩
  · obtain ⟨ps, hp, ef⟩ := Option.map_eq_some_iff.mp ef
    subst ef
    have e1 := allOf_some (g := pairD) asPair_inv hp
    rw [e1] at ra
    have hk := pairs_keys I sub ra
    have hm := pairs_rp ra
    obtain ⟨its, rv, pl, hz⟩ := I.list h1
    obtain ⟨u, rfl, ru⟩ := vals1 rr
    cases ru
    obtain ⟨b1, b2⟩ := refs_back rv fun x hx => by
      obtain ⟨p, hp⟩ := hm x hx
      obtain ⟨t, e, _⟩ := pairD_inv hp
      exact ⟨t, e⟩
    refine SrtO.sorted_pairsO (k := fun w => pairOf X.K H (backV w)) pl.isList
      (by rw [← rv.length]; exact hz) (fun w hw => ?_) fun hp2 dd out s1 s2 kp hd hn => ?_
    · obtain ⟨t, rfl⟩ := b2 w hw
      have hx : V.ref t ∈ xs := by
        rw [b1]
        exact List.mem_map.mpr ⟨_, hw, rfl⟩
      obtain ⟨p, hp⟩ := hm _ hx
      obtain ⟨t', e, hq⟩ := pairD_inv hp
      cases e
      rw [show pairOf X.K H (backV (Value.ref t)) = p from pairOf_eq I ⟨t, rfl, Same.seqT sub hq⟩]
      obtain ⟨its2, r2, ⟨o, ho, hc, n, hd⟩, _⟩ := I.tuple (Same.seqT sub hq)
      obtain ⟨w1, w2, rfl, ⟨t1, rfl⟩, ⟨t2, rfl⟩⟩ := vals2 r2
      exact ⟨t, o, t1, t2, n, rfl, ho, hc, hd⟩
    · have b3 : ∀ u ∈ out, ∃ a, u = Value.ref a := fun u hu => b2 u (s2.perm.mem_iff.mp hu)
      obtain ⟨n, hn⟩ := hn
      have pm : (out.map backV).Perm xs := by
        rw [b1]
        exact s2.perm.map backV
      have e2 : (out.map backV).map (pairOf X.K H) = sortP ps := by
        refine sortP_uniq ?_ ?_
        · rw [← hk]
          exact pm.map _
        · rw [List.map_map, List.pairwise_map]
          refine s1.imp fun {x y} hxy => ?_
          have := SrtO.lexB_no.mp hxy
          rw [leP_iff]
          show (pairOf X.K H (backV x)).1 < (pairOf X.K H (backV y)).1 ∨ _
          simp only [Function.comp] at this ⊢
          omega
      have rr2 : RpAll X.K Hf (out.map backV) ((sortP ps).map pairD) := by
        rw [← e2, List.map_map]
        refine rp_of_mem fun y hy => ?_
        obtain ⟨p, hp⟩ := hm y (pm.mem_iff.mp hy)
        obtain ⟨t, e, hq⟩ := pairD_inv hp
        show Rp X.K Hf y (pairD (pairOf X.K H y))
        rw [pairOf_eq I ⟨t, e, Same.seqT sub hq⟩]
        exact hp
      have fr : H dd = none := I.hok.fresh hd
      refine ⟨.ref dd, L2.upd H dd (.lst (out.map backV)), I.laid (t' := s.toks) kp hd ⟨?_, out, n, vals_back b3, hn⟩, rfl, q _ Hf _ (.loose sub fr) ⟨dd, _, rfl, fr, upd_same, sub.free fr, rr2⟩⟩
      rw [pm.length_eq]
      exact hz
def dSum (r : Rs) : Option Rs := (lstOf r).bind fun ds => (allOf asInt ds).map fun ns => .val (.int ns.sum)
def dAny (r : Rs) : Option Rs := (lstOf r).bind fun ds => (allOf asBool ds).map fun ns => .val (.bool (ns.any id))
def dAll (r : Rs) : Option Rs := (lstOf r).bind fun ds => (allOf asBool ds).map fun ns => .val (.bool (ns.all id))
theorem cl_sum (hc : X.calm = true) : CallR X (.builtin "sum") (rR1 X.K dSum) := CallR.weaken (cr_sum hc) fun vs H Q ⟨H0, Hf, v, r, d, e, s, ro, ef, q⟩ => by
  subst e
  obtain ⟨ds, hl, ef⟩ := Option.bind_eq_some_iff.mp ef
  obtain ⟨ns, hn, ef⟩ := Option.map_eq_some_iff.mp ef
  subst ef
  obtain ⟨a, xs, rfl, h1, ra⟩ := lst_of ro s hl
  rw [allOf_some (g := PyData.int) asInt_inv hn] at ra
  rw [ra.ints_inv] at h1
  exact ⟨a, ns, rfl, h1, q _ Hf H (.refl s) (.int _)⟩
theorem cl_any (hc : X.calm = true) : CallR X (.builtin "any") (rR1 X.K dAny) := CallR.weaken (cr_any hc) fun vs H Q ⟨H0, Hf, v, r, d, e, s, ro, ef, q⟩ => by
  subst e
  obtain ⟨ds, hl, ef⟩ := Option.bind_eq_some_iff.mp ef
  obtain ⟨ns, hn, ef⟩ := Option.map_eq_some_iff.mp ef
  subst ef
  obtain ⟨a, xs, rfl, h1, ra⟩ := lst_of ro s hl
  rw [allOf_some (g := PyData.bool) asBool_inv hn] at ra
  rw [ra.bools_inv] at h1
  exact ⟨a, ns, rfl, h1, q _ Hf H (.refl s) (.bl _)⟩
theorem cl_all (hc : X.calm = true) : CallR X (.builtin "all") (rR1 X.K dAll) := CallR.weaken (cr_all hc) fun vs H Q ⟨H0, Hf, v, r, d, e, s, ro, ef, q⟩ => by
  subst e
  obtain ⟨ds, hl, ef⟩ := Option.bind_eq_some_iff.mp ef
  obtain ⟨ns, hn, ef⟩ := Option.map_eq_some_iff.mp ef
  subst ef
  obtain ⟨a, xs, rfl, h1, ra⟩ := lst_of ro s hl
  rw [allOf_some (g := PyData.bool) asBool_inv hn] at ra
  rw [ra.bools_inv] at h1
  exact ⟨a, ns, rfl, h1, q _ Hf H (.refl s) (.bl _)⟩
/-- list(x) of a list or tuple -/
def dList (r : Rs) : Option Rs := match lstOf r with
  | some ds => some (.new ds)
  | none => match r with
    | .val (.tuple ds) => some (.new ds)
    | _ => none
theorem cl_list : CallR X (.type "list") (rR1 X.K dList) := CallR.weaken call_list_of fun vs H Q ⟨H0, Hf, v, r, d, e, s, ro, ef, q⟩ => by
  subst e
  unfold dList at ef
  split at ef
  · rename_i ds hl
    cases ef
    obtain ⟨a, xs, rfl, h1, ra⟩ := lst_of ro s hl
    exact ⟨a, xs, rfl, .inl h1, fun p hp => q _ Hf _ (.loose s hp) ⟨p, _, rfl, hp, upd_same, s.free hp, ra⟩⟩
  · split at ef
    · cases ef
      obtain ⟨a, xs, rfl, h1, ra⟩ := Rp.tup_inv ro
      exact ⟨a, xs, rfl, .inr (Same.seqT s h1), fun p hp => q _ Hf _ (.loose s hp) ⟨p, _, rfl, hp, upd_same, s.free hp, ra⟩⟩
    · cases ef
def dInt (r : Rs) : Option Rs := match r with
  | .val (.int i) => some (.val (.int i))
  | .val (.bool b) => some (.val (.int (if b then 1 else 0)))
  | _ => none
theorem cl_int : CallR X (.type "int") (rR1 X.K dInt) := CallR.weaken call_int1 fun vs H Q ⟨H0, Hf, v, r, d, e, s, ro, ef, q⟩ => by
  subst e
  unfold dInt at ef
  split at ef
  · cases ef
    exact .inl ⟨_, by rw [Rp.int_inv ro], q _ Hf H (.refl s) (.int _)⟩
  · cases ef
    exact .inr ⟨_, by rw [Rp.bl_inv ro], q _ Hf H (.refl s) (.int _)⟩
  · cases ef
def dAbs (r : Rs) : Option Rs := match r with
  | .val (.int i) => some (.val (.int (if i < 0 then -i else i)))
  | _ => none
theorem cl_abs : CallR X (.builtin "abs") (rR1 X.K dAbs) := CallR.weaken call_abs fun vs H Q ⟨H0, Hf, v, r, d, e, s, ro, ef, q⟩ => by
  subst e
  unfold dAbs at ef
  split at ef
  · cases ef
    exact ⟨_, by rw [Rp.int_inv ro], q _ Hf H (.refl s) (.int _)⟩
  · cases ef
/-- max and min of two ints -/
def dMax2 : List D → Option D
  | [.int i, .int j] => some (.int (if j > i then j else i))
  | _ => none
def dMin2 : List D → Option D
  | [.int i, .int j] => some (.int (if j < i then j else i))
  | _ => none
theorem two_ints {K : PySem.W.Frag} {H : Hp} {vs : List V} {i j : Int} (r : RpAll K H vs [.int i, .int j]) : vs = [.int i, .int j] := RpAll.ints_inv (ns := [i, j]) r
theorem cl_max2 (hc : X.calm = true) : CallR X (.builtin "max") (rPc X.K dMax2) := CallR.weaken (call_max2 hc) fun vs H Q ⟨Hf, ds, d, s, ra, ef, q⟩ => by
  unfold dMax2 at ef
  split at ef
  · cases ef
    exact ⟨_, _, two_ints ra, q _ Hf H (.refl s) (.int _)⟩
  · cases ef
theorem cl_min2 (hc : X.calm = true) : CallR X (.builtin "min") (rPc X.K dMin2) := CallR.weaken (call_min2 hc) fun vs H Q ⟨Hf, ds, d, s, ra, ef, q⟩ => by
  unfold dMin2 at ef
  split at ef
  · cases ef
    exact ⟨_, _, two_ints ra, q _ Hf H (.refl s) (.int _)⟩
  · cases ef
/-- isinstance of a built-in class -/
def tyN : D → String
  | .none => "NoneType"
  | .bool _ => "bool"
  | .int _ => "int"
  | .str _ => "str"
  | .list _ => "list"
  | .tuple _ => "tuple"
  | .dict [(.list _, .none)] => ""
  | .dict _ => "dict"
def dIsi (T : String) (d : D) : Option D := if tyN d = "" then none else (kitB (tyN d) T).map .bool
theorem tyx_of {K : PySem.W.Frag} {H : Hp} {v : V} {d : D} (h : Rp K H v d) (n : tyN d ≠ "") : TyX K H v (.type (tyN d)) := by
  cases h with
  | non => exact .base .non
  | bl b => exact .base (.bl b)
  | int i => exact .base (.int i)
  | str x => exact .base (.str x)
  | lst h q =>
    rcases h with h | ⟨o, h⟩
    · exact .base (.lst h)
    · exact .base (.frz h)
  | scr h q => exact absurd rfl n
  | tup h q =>
    rcases h with (h | ⟨o, h⟩) | ⟨o, its, m, h, hc, _⟩
    · exact .base (.tup h)
    · exact .fTuple h
    · exact .kTuple h hc
  | @dct a kvs es h q =>
    have e : tyN (.dict es) = "dict" := by
      unfold tyN at n ⊢
      split at n <;> first | rfl | exact absurd rfl n | skip
      all_goals first | rfl | (rename_i hh; cases hh) | skip
      all_goals (split <;> first | rfl | skip)
      all_goals (rename_i hh _ _ _; first | (exact absurd rfl n) | skip)
    rw [e]
    exact .base (.dK h)
  | @dctT a kvs es h q =>
    have e : tyN (.dict es) = "dict" := by
      unfold tyN at n ⊢
      split <;> first | rfl | skip
      all_goals (rename_i hh; simp_all)
    rw [e]
    exact .base (.dT h)
def gIsi (T : String) (g : En → Option Rs) : En → Option D := fun ρ => (g ρ).bind fun r => dIsi T (vw r)
theorem pv_isi {T : String} {x : Str} {p : Pos} {g : En → Option Rs} (hg : Gl X x) (hm : X.mg x = none) (hv : bootBuiltins x = some (.builtin "isinstance")) (ha : PE X e (tPu X.K g)) (hy : PE X b (tC (.ty T))) (hn : x ≠ "__name__" := by decide)
    (hdb : (x == ("__debug__" : Str)) = false := by decide) (he : starEach [e, b] X.env = (false, eval e X.env) :: starEach [b] X.env := by rfl) (he2 : starEach [b] X.env = (false, eval b X.env) :: starEach [] X.env := by rfl) (hpl : (backTo pos (starEach [b] X.env)).any (·.1) = false := by rfl) : PE X (.Call (.Name x p) [e, b] [] pos) (tPv X.K (gIsi T g)) :=
  PE.weaken (pe_callB call_isi hg hm hv (pa_cons ha (pa_cons hy pa_nil he2) he) hn hdb he hpl) fun σ H Q ⟨H0, ρ, Hf, d, S, ef, q⟩ => by
    obtain ⟨r, e1, ef⟩ := Option.bind_eq_some_iff.mp ef
    unfold dIsi at ef
    split at ef
    · cases ef
    · rename_i hne
      obtain ⟨k, hk, ef⟩ := Option.map_eq_some_iff.mp ef
      subst ef
      exact ⟨H0, ρ, Hf, r, S, e1, fun v Hf1 H1 x1 r1 => ⟨v, .ty T, _, _, k, rfl, .ty T, tyx_of (rs_whole r1 x1.sub) hne, kit_ty hk, q _ Hf1 H1 x1 (.bl _)⟩⟩
end
end Pu

namespace Pu
open PySem PySem.Spec PyProof.Rows L2
section
variable {X : Cx} {e a b : Expr} {es : List Expr} {pos : Pos} {ga gb : En → Option D}
/-! ### slices -/
def tPo (K : PySem.W.Frag) (g : En → Option (Option Int)) : TO := fun σ H Q => ∃ H0 ρ Hf o, StOk K H0 ρ σ Hf H ∧ g ρ = some o ∧ ∀ Hf' H', Ext Hf H Hf' H' → Q o H'
theorem PO.weaken {e : Option Expr} {t t' : TO} (h : PO X e t) (w : ∀ σ H Q, t' σ H Q → t σ H Q) : PO X e t' := ⟨fun pins s σ H Q I q => h.run pins s σ H Q I (w σ H Q q)⟩
def oNone : En → Option (Option Int) := fun _ => some none
def oSome (g : En → Option D) : En → Option (Option Int) := fun ρ => (g ρ).bind fun d => (asInt d).map some
theorem qo_none : PO X none (tPo X.K oNone) := PO.weaken po_none fun σ H Q ⟨H0, ρ, Hf, o, S, e, q⟩ => by cases e; exact q Hf H (.refl S.sub)
theorem qo_some (h : PE X e (tPv X.K ga)) : PO X (some e) (tPo X.K (oSome ga)) := PO.weaken (po_some h) fun σ H Q ⟨H0, ρ, Hf, o, S, e, q⟩ => by
  obtain ⟨d, e1, e⟩ := Option.bind_eq_some_iff.mp e
  obtain ⟨i, e2, e⟩ := Option.map_eq_some_iff.mp e
  subst e
  rw [asInt_inv d i e2] at e1
  exact ⟨H0, ρ, Hf, _, S, e1, fun v Hf1 H1 x1 r1 => ⟨i, r1.int_inv, q Hf1 H1 x1⟩⟩
def cutL {α : Type} (xs : List α) (lo hi : Option Int) : List α := (xs.drop (HT.sIx xs.length 0 lo)).take (HT.sIx xs.length xs.length hi - HT.sIx xs.length 0 lo)
theorem cut_rp {K : PySem.W.Frag} {H : Hp} {xs : List V} {ds : List D} (r : RpAll K H xs ds) (lo hi : Option Int) : RpAll K H (cutV xs lo hi) (cutL ds lo hi) := by
  unfold cutV cutL
  rw [r.length]
  exact (r.drop _).take _
def dSl (r : Rs) (lo hi : Option Int) : Option Rs := match lstOf r with
  | some ds => some (.new (cutL ds lo hi))
  | none => match r with
    | .val (.tuple ds) => some (.val (.tuple (cutL ds lo hi)))
    | .val (.str z) => if z.length ≤ sizeLine then some (.val (.str (cutS z lo hi))) else none
    | _ => none
def gSl (g : En → Option Rs) (l h : En → Option (Option Int)) : En → Option Rs := fun ρ => (g ρ).bind fun r => (l ρ).bind fun lo => (h ρ).bind fun hi => dSl r lo hi
theorem pu_slice {g : En → Option Rs} {l h : En → Option (Option Int)} {lo hi : Option Expr} {p2 : Pos} (he : PE X e (tPu X.K g)) (hl : PO X lo (tPo X.K l)) (hh : PO X hi (tPo X.K h)) : PE X (.Subscript e (.Slice lo hi none p2) pos) (tPu X.K (gSl g l h)) :=
  PE.weaken (pe_slice ((sl_list.or sl_tupA).or sl_str) he hl hh) fun σ H Q ⟨H0, ρ, Hf, d, S, e, q⟩ => by
    obtain ⟨r, e1, e⟩ := Option.bind_eq_some_iff.mp e
    obtain ⟨i, e2, e⟩ := Option.bind_eq_some_iff.mp e
    obtain ⟨j, e3, e⟩ := Option.bind_eq_some_iff.mp e
    refine ⟨H0, ρ, Hf, r, S, e1, fun v Hf1 H1 x1 r1 => ⟨H0, ρ, Hf1, i, S.ext x1, e2, fun Hf2 H2 x2 => ⟨H0, ρ, Hf2, j, (S.ext x1).ext x2, e3, fun Hf3 H3 x3 => ?_⟩⟩⟩
    have x13 := x1.trans (x2.trans x3)
    have x23 := x2.trans x3
    unfold dSl at e
    split at e
    · rename_i ds hl
      cases e
      obtain ⟨a, xs, rfl, h1, ra⟩ := lst_of r1 x1.sub hl
      refine .inl (.inl ⟨a, xs, rfl, x23.all.seq h1, fun p hp => q _ Hf3 _ (x13.trans (.loose x3.sub hp)) ⟨p, _, rfl, x13.all.free hp, upd_same, x3.sub.free hp, cut_rp (ra.mono x23.fro) i j⟩⟩)
    · split at e
      · cases e
        obtain ⟨a, xs, rfl, h1, ra⟩ := Rp.tup_inv r1
        have rc := cut_rp (ra.mono x23.fro) i j
        refine .inl (.inr ⟨a, xs, rfl, Same.seqT x23.all (Same.seqT x1.sub h1), fun hw => ?_, fun _ p hp => q _ _ _ (x13.trans (.fresh x3.sub hp)) (.tup (.of upd_same) (rc.mono (Same.new (x3.sub.free hp))))⟩)
        have ec : cutV xs i j = xs := by
          unfold cutV
          rw [hw.1, hw.2, List.drop_zero, Nat.sub_zero, List.take_length]
        rw [ec] at rc
        exact q _ Hf3 H3 x13 (.tup (Same.seqT x23.fro h1) rc)
      · split at e
        · cases e
          exact .inr ⟨_, Rp.str_inv r1, by assumption, q _ Hf3 H3 x13 (.str _)⟩
        · cases e
      · cases e
/-! ### the state of a body -/
structure Fr (K : PySem.W.Frag) (Hf0 H0 : Hp) (ρ : En) (σ : L2.St) (Hf H : Hp) : Prop where
  ext : Ext Hf0 H0 Hf H
  st : StOk K H0 ρ σ Hf H
inductive Out where
  | nx (ρ : En)
  | rt (d : D)
  | bk (ρ : En)
  | ct (ρ : En)
def Post (K : PySem.W.Frag) (Hf0 H0 Hb : Hp) (D : Ends) : Out → Prop
  | .nx ρ => ∀ σ Hf H, Fr K Hf0 H0 ρ σ Hf H → Same Hb Hf → D.nx σ H
  | .rt d => ∀ v Hf H, Ext Hf0 H0 Hf H → Rp K Hf v d → D.rt v H
  | .bk ρ => ∀ σ Hf H, Fr K Hf0 H0 ρ σ Hf H → Same Hb Hf → D.bk σ H
  | .ct ρ => ∀ σ Hf H, Fr K Hf0 H0 ρ σ Hf H → Same Hb Hf → D.ct σ H
theorem Post.mono {K : PySem.W.Frag} {Hf0 H0 Hb Hb' : Hp} {D : Ends} {o : Out} (h : Post K Hf0 H0 Hb D o) (s : Same Hb Hb') : Post K Hf0 H0 Hb' D o := by
  cases o with
  | nx ρ => exact fun σ Hf H F q => h σ Hf H F (s.trans q)
  | rt d => exact h
  | bk ρ => exact fun σ Hf H F q => h σ Hf H F (s.trans q)
  | ct ρ => exact fun σ Hf H F q => h σ Hf H F (s.trans q)
def tPs (K : PySem.W.Frag) (R : En → Option Out) : TS := fun D σ H => ∃ Hf0 H0 ρ Hf o, Fr K Hf0 H0 ρ σ Hf H ∧ R ρ = some o ∧ Post K Hf0 H0 Hf D o
theorem Fr.step {K : PySem.W.Frag} {Hf0 H0 Hf H Hf' H' : Hp} {ρ : En} {σ : L2.St} (F : Fr K Hf0 H0 ρ σ Hf H) (x : Ext Hf H Hf' H') : Fr K Hf0 H0 ρ σ Hf' H' := ⟨F.ext.trans x, F.st.ext x⟩
theorem StOk.some_at {K : PySem.W.Frag} {H0 Hf H : Hp} {ρ : En} {σ : L2.St} (S : StOk K H0 ρ σ Hf H) {i : Nat} (h : i < ρ.length) : i < σ.length := by
  obtain ⟨o, e, _⟩ := S.at_ i _ (List.getElem?_eq_getElem h)
  exact (List.getElem?_eq_some_iff.mp e).1
theorem set_get {α : Type} {l : List α} {i j : Nat} {x y : α} (h : (l.set i x)[j]? = some y) : (j = i ∧ i < l.length ∧ y = x) ∨ (j ≠ i ∧ l[j]? = some y) := by
  by_cases e : j = i
  · subst e
    have hl : j < (l.set j x).length := (List.getElem?_eq_some_iff.mp h).1
    rw [List.length_set] at hl
    rw [List.getElem?_set_self hl] at h
    cases h
    exact .inl ⟨rfl, hl, rfl⟩
  · rw [List.getElem?_set_ne (Ne.symm e)] at h
    exact .inr ⟨e, h⟩
/-- slot i takes a frozen value -/
theorem StOk.setV {K : PySem.W.Frag} {H0 Hf H : Hp} {ρ : En} {σ : L2.St} {v : V} {d : D} (S : StOk K H0 ρ σ Hf H) (i : Nat) (r : Rp K Hf v d) : StOk K H0 (ρ.set i (.val d)) (σ.set i (some v)) Hf H := by
  refine ⟨S.sub, fun j s e => ?_, fun j k ds es a ne e1 e2 f => ?_⟩
  · rcases set_get e with ⟨rfl, hl, rfl⟩ | ⟨ne, e⟩
    · exact ⟨some v, List.getElem?_set_self (S.some_at hl), v, rfl, r⟩
    · obtain ⟨o, e1, h⟩ := S.at_ j s e
      exact ⟨o, by rw [List.getElem?_set_ne (Ne.symm ne)]; exact e1, h⟩
  · rcases set_get e1 with ⟨_, _, z⟩ | ⟨n1, e1⟩
    · cases z
    · rcases set_get e2 with ⟨_, _, z⟩ | ⟨n2, e2⟩
      · cases z
      · rw [List.getElem?_set_ne (Ne.symm n1)] at f
        rw [List.getElem?_set_ne (Ne.symm n2)]
        exact S.sep j k ds es a ne e1 e2 f
/-- slot i takes a new list -/
theorem StOk.setO {K : PySem.W.Frag} {H0 Hf H : Hp} {ρ : En} {σ : L2.St} {a : Addr} {vs : List V} {ds : List D} (S : StOk K H0 ρ σ Hf H) (i : Nat) (h0 : H0 a = none) (h1 : H a = some (.lst vs)) (h2 : Hf a = none) (r : RpAll K Hf vs ds)
    (fr : ∀ j es, ρ[j]? = some (.own es) → j ≠ i → σ[j]? ≠ some (some (.ref a))) : StOk K H0 (ρ.set i (.own ds)) (σ.set i (some (.ref a))) Hf H := by
  refine ⟨S.sub, fun j s e => ?_, fun j k ds es b ne e1 e2 f => ?_⟩
  · rcases set_get e with ⟨rfl, hl, rfl⟩ | ⟨ne, e⟩
    · exact ⟨some (.ref a), List.getElem?_set_self (S.some_at hl), a, vs, rfl, h0, h1, h2, r⟩
    · obtain ⟨o, e1, h⟩ := S.at_ j s e
      exact ⟨o, by rw [List.getElem?_set_ne (Ne.symm ne)]; exact e1, h⟩
  · rcases set_get e1 with ⟨rfl, l1, z⟩ | ⟨n1, g1⟩
    · rw [List.getElem?_set_self (S.some_at l1)] at f
      cases f
      rcases set_get e2 with ⟨w, _, _⟩ | ⟨n2, g2⟩
      · exact absurd w.symm ne
      · rw [List.getElem?_set_ne (Ne.symm n2)]
        exact fr k es g2 n2
    · rw [List.getElem?_set_ne (Ne.symm n1)] at f
      rcases set_get e2 with ⟨rfl, l2, _⟩ | ⟨n2, g2⟩
      · rw [List.getElem?_set_self (S.some_at l2)]
        intro w
        cases w
        exact fr j ds g1 n1 f
      · rw [List.getElem?_set_ne (Ne.symm n2)]
        exact S.sep j k ds es b ne g1 g2 f
theorem Fr.setV {K : PySem.W.Frag} {Hf0 H0 Hf H : Hp} {ρ : En} {σ : L2.St} {v : V} {d : D} (F : Fr K Hf0 H0 ρ σ Hf H) (i : Nat) (r : Rp K Hf v d) : Fr K Hf0 H0 (ρ.set i (.val d)) (σ.set i (some v)) Hf H := ⟨F.ext, F.st.setV i r⟩
/-- the list of slot i is changed -/
theorem Fr.mut {K : PySem.W.Frag} {Hf0 H0 Hf H : Hp} {ρ : En} {σ : L2.St} {i : Nat} {a : Addr} {ds es : List D} {vs : List V} (F : Fr K Hf0 H0 ρ σ Hf H) (e : ρ[i]? = some (.own ds)) (f : σ[i]? = some (some (.ref a))) (h0 : H0 a = none) (h2 : Hf a = none) (r : RpAll K Hf vs es) :
    Fr K Hf0 H0 (ρ.set i (.own es)) σ Hf (L2.upd H a (.lst vs)) := by
  have ne0 : ∀ b o, H0 b = some o → b ≠ a := fun b o q z => by rw [z, h0] at q; cases q
  have nef : ∀ b o, Hf b = some o → b ≠ a := fun b o q z => by rw [z, h2] at q; cases q
  refine ⟨⟨fun b o q => ?_, F.ext.fro, fun b o q => ?_, F.ext.keep⟩, fun b o q => ?_, fun j s q => ?_, fun j k ds' es' b ne e1 e2 f1 => ?_⟩
  · rw [upd_ne (ne0 b o q)]; exact F.ext.all b o q
  · rw [upd_ne (nef b o q)]; exact F.ext.sub b o q
  · rw [upd_ne (nef b o q)]; exact F.st.sub b o q
  · rcases set_get q with ⟨rfl, hl, rfl⟩ | ⟨ne, q⟩
    · exact ⟨_, f, a, vs, rfl, h0, upd_same, h2, r⟩
    · obtain ⟨o, e1, h⟩ := F.st.at_ j s q
      refine ⟨o, e1, ?_⟩
      cases s with
      | un => trivial
      | val d => exact h
      | own ds' =>
        obtain ⟨b, ws, rfl, g0, g1, g2, g3⟩ := h
        have hb : b ≠ a := fun z => by
          subst z
          exact F.st.sep j i ds' ds b ne q e e1 f
        exact ⟨b, ws, rfl, g0, by rw [upd_ne hb]; exact g1, g2, g3⟩
  · have own_at : ∀ (m : Nat) (us : List D), (ρ.set i (Sl.own es))[m]? = some (Sl.own us) → ∃ us' : List D, ρ[m]? = some (Sl.own us') := fun m us q => by
      rcases set_get q with ⟨rfl, _, _⟩ | ⟨_, q⟩
      · exact ⟨ds, e⟩
      · exact ⟨us, q⟩
    obtain ⟨u1, q1⟩ := own_at j ds' e1
    obtain ⟨u2, q2⟩ := own_at k es' e2
    exact F.st.sep j k u1 u2 b ne q1 q2 f1
/-- the list of slot i is frozen -/
def frz (i : Nat) (ρ : En) : En := match ρ[i]? with
  | some (.own ds) => ρ.set i (.val (.list ds))
  | _ => ρ
theorem Fr.freeze {K : PySem.W.Frag} {Hf0 H0 Hf H : Hp} {ρ : En} {σ : L2.St} (i : Nat) (F : Fr K Hf0 H0 ρ σ Hf H) : ∃ Hf', Same Hf Hf' ∧ Fr K Hf0 H0 (frz i ρ) σ Hf' H := by
  unfold frz
  split
  · rename_i ds e
    obtain ⟨o, f, a, vs, rfl, h0, h1, h2, r⟩ := F.st.at_ i _ e
    have s2 : Same Hf (L2.upd Hf a (.lst vs)) := Same.new h2
    refine ⟨L2.upd Hf a (.lst vs), s2, F.ext.freeze h0 h1 h2, ?_, fun j s q => ?_, fun j k ds' es' b ne e1 e2 f1 => ?_⟩
    · exact (F.ext.freeze h0 h1 h2).sub
    · rcases set_get q with ⟨rfl, hl, rfl⟩ | ⟨ne, q⟩
      · exact ⟨_, f, _, rfl, .lst (.of upd_same) (r.mono s2)⟩
      · obtain ⟨o, e1, h⟩ := F.st.at_ j s q
        refine ⟨o, e1, ?_⟩
        cases s with
        | un => trivial
        | val d => obtain ⟨v, rfl, g⟩ := h; exact ⟨v, rfl, g.mono s2⟩
        | own ds' =>
          obtain ⟨b, ws, rfl, g0, g1, g2, g3⟩ := h
          have hb : b ≠ a := fun z => by
            subst z
            exact F.st.sep j i ds' ds b ne q e e1 f
          exact ⟨b, ws, rfl, g0, g1, by rw [upd_ne hb]; exact g2, g3.mono s2⟩
    · rcases set_get e1 with ⟨_, _, z⟩ | ⟨_, e1⟩
      · cases z
      · rcases set_get e2 with ⟨_, _, z⟩ | ⟨_, e2⟩
        · cases z
        · exact F.st.sep j k ds' es' b ne e1 e2 f1
  · exact ⟨Hf, Same.refl _, F⟩
/-! ### statements -/
variable {st : Stmt} {sts rest : List Stmt} {R R1 R2 : En → Option Out}
def rNext : En → Option Out := fun ρ => some (.nx ρ)
def rSeq (R1 R2 : En → Option Out) : En → Option Out := fun ρ => (R1 ρ).bind fun o => match o with
  | .nx ρ' => R2 ρ'
  | o => some o
theorem qss_nil : PSs X [] (tPs X.K rNext) := PSs.weaken pss_nil fun D σ H ⟨Hf0, H0, ρ, Hf, o, F, e, p⟩ => by cases e; exact p σ Hf H F (Same.refl _)
theorem qs_pass : PS X (.Pass pos) (tPs X.K rNext) := PS.weaken ps_pass fun D σ H ⟨Hf0, H0, ρ, Hf, o, F, e, p⟩ => by cases e; exact p σ Hf H F (Same.refl _)
theorem qs_break : PS X (.Break pos) (tPs X.K fun ρ => some (.bk ρ)) := PS.weaken ps_break fun D σ H ⟨Hf0, H0, ρ, Hf, o, F, e, p⟩ => by cases e; exact p σ Hf H F (Same.refl _)
theorem qs_continue : PS X (.Continue pos) (tPs X.K fun ρ => some (.ct ρ)) := PS.weaken ps_continue fun D σ H ⟨Hf0, H0, ρ, Hf, o, F, e, p⟩ => by cases e; exact p σ Hf H F (Same.refl _)
theorem tSeq_ps {K : PySem.W.Frag} {D : Ends} {σ : L2.St} {H : Hp} (h : tPs K (rSeq R1 R2) D σ H) : tSeq (tPs K R1) (tPs K R2) D σ H := by
  obtain ⟨Hf0, H0, ρ, Hf, o, F, e, p⟩ := h
  obtain ⟨o1, e1, e⟩ := Option.bind_eq_some_iff.mp e
  refine ⟨Hf0, H0, ρ, Hf, o1, F, e1, ?_⟩
  cases o1 with
  | nx ρ' => exact fun σ' Hf' H' F' sm => ⟨Hf0, H0, ρ', Hf', o, F', e, p.mono sm⟩
  | rt d => cases e; exact p
  | bk ρ' => cases e; exact p
  | ct ρ' => cases e; exact p
theorem qss_cons (h1 : PS X st (tPs X.K R1)) (h2 : PSs X rest (tPs X.K R2)) : PSs X (st :: rest) (tPs X.K (rSeq R1 R2)) := PSs.weaken (pss_cons h1 h2) fun _ _ _ h => tSeq_ps h
theorem qss_one (h1 : PS X st (tPs X.K R)) : PSs X [st] (tPs X.K R) := pss_one h1
theorem qss_freeze (i : Nat) (h : PSs X sts (tPs X.K R)) : PSs X sts (tPs X.K fun ρ => R (frz i ρ)) := PSs.weaken h fun D σ H ⟨Hf0, H0, ρ, Hf, o, F, e, p⟩ => by
  obtain ⟨Hf', sm, F'⟩ := F.freeze i
  exact ⟨Hf0, H0, _, Hf', o, F', e, p.mono sm⟩
theorem qs_freeze (i : Nat) (h : PS X st (tPs X.K R)) : PS X st (tPs X.K fun ρ => R (frz i ρ)) := PS.weaken h fun D σ H ⟨Hf0, H0, ρ, Hf, o, F, e, p⟩ => by
  obtain ⟨Hf', sm, F'⟩ := F.freeze i
  exact ⟨Hf0, H0, _, Hf', o, F', e, p.mono sm⟩
def rRet (g : En → Option D) : En → Option Out := fun ρ => (g ρ).map .rt
theorem qs_ret (h : PE X e (tPv X.K ga)) : PS X (.Return (some e) pos) (tPs X.K (rRet ga)) := PS.weaken (ps_ret h) fun D σ H ⟨Hf0, H0, ρ, Hf, o, F, e, p⟩ => by
  obtain ⟨d, e1, e⟩ := Option.map_eq_some_iff.mp e
  subst e
  exact ⟨H0, ρ, Hf, d, F.st, e1, fun v Hf' H' x r => p v Hf' H' (F.ext.trans x) r⟩
theorem qs_retN : PS X (.Return none pos) (tPs X.K fun _ => some (.rt .none)) := PS.weaken ps_retN fun D σ H ⟨Hf0, H0, ρ, Hf, o, F, e, p⟩ => by
  cases e
  exact p _ Hf H F.ext .non
def rIf (c : En → Option Bool) (R1 R2 : En → Option Out) : En → Option Out := fun ρ => (c ρ).bind fun b => if b = true then R1 ρ else R2 ρ
theorem qs_if {c : Expr} {sa sb : List Stmt} {tc : En → Option Bool} (hc : PT X c (tPt X.K tc)) (ha : PSs X sa (tPs X.K R1)) (hb : PSs X sb (tPs X.K R2)) : PS X (.If c sa sb pos) (tPs X.K (rIf tc R1 R2)) :=
  PS.weaken (ps_if hc ha hb) fun D σ H ⟨Hf0, H0, ρ, Hf, o, F, e, p⟩ => by
    obtain ⟨k, e1, e⟩ := Option.bind_eq_some_iff.mp e
    refine ⟨H0, ρ, Hf, k, F.st, e1, fun Hf' H' x => ?_⟩
    cases k with
    | true => rw [if_pos rfl] at e ⊢; exact ⟨Hf0, H0, ρ, Hf', o, F.step x, e, p.mono x.fro⟩
    | false => rw [if_neg Bool.false_ne_true] at e ⊢; exact ⟨Hf0, H0, ρ, Hf', o, F.step x, e, p.mono x.fro⟩
def rDrop (g : En → Option D) : En → Option Out := fun ρ => (g ρ).map fun _ => .nx ρ
theorem qs_expr (h : PE X e (tPv X.K ga)) (hs : swapsWith e none pos.line X.env = pure false := by rfl) : PS X (.Expr e pos) (tPs X.K (rDrop ga)) := PS.weaken (ps_expr h hs) fun D σ H ⟨Hf0, H0, ρ, Hf, o, F, e, p⟩ => by
  obtain ⟨d, e1, e⟩ := Option.map_eq_some_iff.mp e
  subst e
  exact ⟨H0, ρ, Hf, d, F.st, e1, fun v Hf' H' x r => p σ Hf' H' (F.step x) x.fro⟩
/-- x = e, frozen -/
def rSet (i : Nat) (g : En → Option D) : En → Option Out := fun ρ => (g ρ).map fun d => .nx (ρ.set i (.val d))
theorem tSet_ps {K : PySem.W.Frag} {i : Nat} {D : Ends} {σ : L2.St} {H : Hp} (h : tPs K (rSet i ga) D σ H) : tAsg (tPv K ga) (gName i) D σ H := by
  obtain ⟨Hf0, H0, ρ, Hf, o, F, e, p⟩ := h
  obtain ⟨d, e1, e⟩ := Option.map_eq_some_iff.mp e
  subst e
  exact ⟨H0, ρ, Hf, d, F.st, e1, fun v Hf' H' x r => p _ Hf' H' ((F.step x).setV i r) x.fro⟩
/-- x = e, a new list is x's own -/
def rOwn (i : Nat) (g : En → Option Rs) : En → Option Out := fun ρ => (g ρ).bind fun r => match r with
  | .new ds => some (.nx (ρ.set i (.own ds)))
  | .val d => some (.nx (ρ.set i (.val d)))
  | .view _ => none
theorem tOwn_ps {K : PySem.W.Frag} {i : Nat} {g : En → Option Rs} {D : Ends} {σ : L2.St} {H : Hp} (h : tPs K (rOwn i g) D σ H) : tAsg (tPu K g) (gName i) D σ H := by
  obtain ⟨Hf0, H0, ρ, Hf, o, F, e, p⟩ := h
  obtain ⟨r, e1, e⟩ := Option.bind_eq_some_iff.mp e
  refine ⟨H0, ρ, Hf, r, F.st, e1, fun v Hf' H' x ro => ?_⟩
  cases r with
  | val d => cases e; exact p _ Hf' H' ((F.step x).setV i ro) x.fro
  | view ds => cases e
  | new ds =>
    cases e
    obtain ⟨a, vs, rfl, h0, h1, h2, q⟩ := ro
    refine p _ Hf' H' ⟨F.ext.trans x, (F.st.ext x).setO i (F.ext.all.free h0) h1 h2 q fun j es ej _ z => ?_⟩ x.fro
    obtain ⟨o, f, b, ws, rfl, g0, g1, _⟩ := F.st.at_ j _ ej
    rw [f] at z
    cases z
    rw [h0] at g1
    cases g1
theorem qs_set {i : Nat} {x : Str} {pos' : Pos} (hN : X.N.Nodup) (hi : X.N[i]? = some x) (hx : Loc X.env.scope x) (he : PE X e (tPv X.K ga)) (hs : swapsWith e (some (.Name x pos')) pos.line X.env = pure false := by rfl)
    (hf : X.fn x = true ∨ X.env.scope.names.lookup x = some .local := by first | exact .inl rfl | exact .inr rfl | assumption) : PS X (.Assign [.Name x pos'] e pos) (tPs X.K (rSet i ga)) := PS.weaken (ps_set hN hi hx he hs hf) fun _ _ _ h => tSet_ps h
theorem qs_own {i : Nat} {x : Str} {pos' : Pos} {g : En → Option Rs} (hN : X.N.Nodup) (hi : X.N[i]? = some x) (hx : Loc X.env.scope x) (he : PE X e (tPu X.K g)) (hs : swapsWith e (some (.Name x pos')) pos.line X.env = pure false := by rfl)
    (hf : X.fn x = true ∨ X.env.scope.names.lookup x = some .local := by first | exact .inl rfl | exact .inr rfl | assumption) : PS X (.Assign [.Name x pos'] e pos) (tPs X.K (rOwn i g)) := PS.weaken (ps_set hN hi hx he hs hf) fun _ _ _ h => tOwn_ps h
/-- x += e -/
def dIAdd : D → D → Option D
  | .int a, .int b => some (.int (a + b))
  | _, _ => none
def dISub : D → D → Option D
  | .int a, .int b => some (.int (a - b))
  | _, _ => none
def rAug (i : Nat) (f : D → D → Option D) (g : En → Option D) : En → Option Out := fun ρ => (vVar i ρ).bind fun a => (g ρ).bind fun b => (f a b).map fun d => .nx (ρ.set i (.val d))
theorem tAug_ps {K : PySem.W.Frag} {i : Nat} {f : D → D → Option D} {h : Int → Int → Int} (w : ∀ a b d, f a b = some d → ∃ i j, a = .int i ∧ b = .int j ∧ d = .int (h i j)) {D : Ends} {σ : L2.St} {H : Hp} (hh : tPs K (rAug i f ga) D σ H) : tAug i (tPv K ga) (ipI h) D σ H := by
  obtain ⟨Hf0, H0, ρ, Hf, o, F, e, p⟩ := hh
  obtain ⟨a, e1, e⟩ := Option.bind_eq_some_iff.mp e
  obtain ⟨b, e2, e⟩ := Option.bind_eq_some_iff.mp e
  obtain ⟨d, e3, e⟩ := Option.map_eq_some_iff.mp e
  subst e
  obtain ⟨m, n, rfl, rfl, rfl⟩ := w a b d e3
  unfold vVar at e1
  split at e1
  · rename_i d' hd
    cases e1
    obtain ⟨o, ho, v, rfl, r⟩ := F.st.at_ i _ hd
    exact ⟨v, ho, H0, ρ, Hf, _, F.st, e2, fun y Hf' H' x r' => ⟨m, n, r.int_inv, r'.int_inv, p _ Hf' H' ((F.step x).setV i (.int _)) x.fro⟩⟩
  · cases e1
theorem qs_iadd {i : Nat} {x : Str} {pos' : Pos} (hN : X.N.Nodup) (hi : X.N[i]? = some x) (hx : Loc X.env.scope x) (he : PE X e (tPv X.K ga))
    (hf : X.fn x = true ∨ X.env.scope.names.lookup x = some .local := by first | exact .inl rfl | exact .inr rfl | assumption) : PS X (.AugAssign (.Name x pos') .Add e pos) (tPs X.K (rAug i dIAdd ga)) :=
  PS.weaken (ps_aug hN hi hx he ip_add hf) fun _ _ _ h => tAug_ps (fun a b d h => by
    cases a <;> cases b <;> simp only [dIAdd] at h <;> cases h
    exact ⟨_, _, rfl, rfl, rfl⟩) h
theorem qs_isub {i : Nat} {x : Str} {pos' : Pos} (hN : X.N.Nodup) (hi : X.N[i]? = some x) (hx : Loc X.env.scope x) (he : PE X e (tPv X.K ga))
    (hf : X.fn x = true ∨ X.env.scope.names.lookup x = some .local := by first | exact .inl rfl | exact .inr rfl | assumption) : PS X (.AugAssign (.Name x pos') .Sub e pos) (tPs X.K (rAug i dISub ga)) :=
  PS.weaken (ps_aug hN hi hx he ip_sub hf) fun _ _ _ h => tAug_ps (fun a b d h => by
    cases a <;> cases b <;> simp only [dISub] at h <;> cases h
    exact ⟨_, _, rfl, rfl, rfl⟩) h
/-- x.append(e), x.pop(), x[k] = e of an own list -/
def ownAt (i : Nat) (ρ : En) : Option (List D) := match ρ[i]? with
  | some (.own ds) => some ds
  | _ => none
theorem ownAt_some {i : Nat} {ρ : En} {ds : List D} (h : ownAt i ρ = some ds) : ρ[i]? = some (.own ds) := by
  unfold ownAt at h
  split at h
  · cases h; assumption
  · cases h
def rApp (i : Nat) (g : En → Option D) : En → Option Out := fun ρ => (ownAt i ρ).bind fun ds => (g ρ).bind fun d => if ds.length < sizeLine then some (.nx (ρ.set i (.own (ds ++ [d])))) else none
theorem qs_append {i : Nat} {x : Expr} {apos cpos : Pos} (hx : PE X x (tVar i)) (he : PE X e (tPv X.K ga)) (h : ∀ {tx te : TE}, PE X x tx → PE X e te → PE X (.Call (.Attribute x "append" apos) [e] [] cpos) (tBM X.K "list" rAppend tx (tCons te tNil)))
    (hs : swapsWith (.Call (.Attribute x "append" apos) [e] [] cpos) none pos.line X.env = pure false := by rfl) : PS X (.Expr (.Call (.Attribute x "append" apos) [e] [] cpos) pos) (tPs X.K (rApp i ga)) :=
  PS.weaken (ps_expr (h hx he) hs) fun D σ H ⟨Hf0, H0, ρ, Hf, o, F, e, p⟩ => by
    obtain ⟨ds, e1, e⟩ := Option.bind_eq_some_iff.mp e
    obtain ⟨d, e2, e⟩ := Option.bind_eq_some_iff.mp e
    have e1 := ownAt_some e1
    split at e
    · rename_i hl
      cases e
      obtain ⟨o, f, a, vs, rfl, h0, h1, h2, r⟩ := F.st.at_ i _ e1
      refine ⟨.ref a, f, .inl ⟨rfl, _, .of h1⟩, H0, ρ, Hf, d, F.st, e2, fun v Hf' H' x q => ⟨a, vs, v, rfl, rfl, x.all _ _ h1, by rw [r.length]; exact hl, ?_⟩⟩
      exact p σ Hf' _ ((F.step x).mut e1 f h0 (x.keep _ _ h1 h2) ((r.mono x.fro).append (.cons q .nil))) x.fro
    · cases e
def rPopL (i : Nat) : En → Option Out := fun ρ => (ownAt i ρ).bind fun ds => if ds = [] then none else some (.nx (ρ.set i (.own ds.dropLast)))
theorem qs_pop {i : Nat} {x : Expr} {apos cpos : Pos} (hx : PE X x (tVar i)) (h : ∀ {tx : TE}, PE X x tx → PE X (.Call (.Attribute x "pop" apos) [] [] cpos) (tBM0 X.K "list" rPop tx))
    (hs : swapsWith (.Call (.Attribute x "pop" apos) [] [] cpos) none pos.line X.env = pure false := by rfl) : PS X (.Expr (.Call (.Attribute x "pop" apos) [] [] cpos) pos) (tPs X.K (rPopL i)) :=
  PS.weaken (ps_expr (h hx) hs) fun D σ H ⟨Hf0, H0, ρ, Hf, o, F, e, p⟩ => by
    obtain ⟨ds, e1, e⟩ := Option.bind_eq_some_iff.mp e
    have e1 := ownAt_some e1
    split at e
    · cases e
    · rename_i hl
      cases e
      obtain ⟨o, f, a, vs, rfl, h0, h1, h2, r⟩ := F.st.at_ i _ e1
      have hv : vs.length - 1 < vs.length := by
        rw [r.length]
        have : ds.length ≠ 0 := fun z => hl (List.length_eq_zero_iff.mp z)
        omega
      exact ⟨.ref a, f, .inl ⟨rfl, _, .of h1⟩, a, vs, vs[vs.length - 1], rfl, rfl, h1, List.getElem?_eq_getElem hv, p σ Hf _ (F.mut e1 f h0 h2 r.dropLast) (Same.refl _)⟩
def rPut (i : Nat) (gk g : En → Option D) : En → Option Out := fun ρ => (ownAt i ρ).bind fun ds => (g ρ).bind fun d => (gk ρ).bind fun k => (asInt k).bind fun k => (ixN ds.length k).map fun j => .nx (ρ.set i (.own (ds.set j d)))
theorem qs_put {i : Nat} {x k : Expr} {p1 : Pos} {gk : En → Option D} (hx : PE X x (tVar i)) (hk : PE X k (tPv X.K gk)) (he : PE X e (tPv X.K ga)) (hs : swapsWithSole [.Subscript x k p1] e pos.line X.env = pure false := by rfl) (hw : swappedStores [.Subscript x k p1] e X.env = pure none := by rfl)
    (h : ∀ {tx tk : TE}, PE X x tx → PE X k tk → PG X (.Subscript x k p1) (gSub tx tk rSetL)) : PS X (.Assign [.Subscript x k p1] e pos) (tPs X.K (rPut i gk ga)) :=
  PS.weaken (ps_asg he (h hx hk) hs hw) fun D σ H ⟨Hf0, H0, ρ, Hf, o, F, e, p⟩ => by
    obtain ⟨ds, e1, e⟩ := Option.bind_eq_some_iff.mp e
    obtain ⟨d, e2, e⟩ := Option.bind_eq_some_iff.mp e
    obtain ⟨kd, e3, e⟩ := Option.bind_eq_some_iff.mp e
    obtain ⟨n, e4, e⟩ := Option.bind_eq_some_iff.mp e
    obtain ⟨j, e5, e⟩ := Option.map_eq_some_iff.mp e
    subst e
    have e1 := ownAt_some e1
    rw [asInt_inv kd n e4] at e3
    obtain ⟨o, f, a, vs, rfl, h0, h1, h2, r⟩ := F.st.at_ i _ e1
    refine ⟨H0, ρ, Hf, d, F.st, e2, fun v Hf1 H1 x1 q => ⟨.ref a, f, H0, ρ, Hf1, _, F.st.ext x1, e3, fun w Hf2 H2 x2 q2 => ?_⟩⟩
    have x12 := x1.trans x2
    exact ⟨a, vs, n, j, rfl, q2.int_inv, x12.all _ _ h1, by rw [r.length]; exact e5, p σ Hf2 _ ((F.step x12).mut e1 f h0 (x12.keep _ _ h1 h2) ((r.mono x12.fro).set j (q.mono x2.fro))) x12.fro⟩
end
end Pu

namespace Pu
open PySem PySem.Spec PyProof.Rows L2
section
variable {X : Cx} {e a b : Expr} {es : List Expr} {pos : Pos} {ga gb : En → Option D}
/-! ### targets -/
def tPg (K : PySem.W.Frag) (b : D → En → Option En) (L : List Nat) : TG := fun v σ H Q => ∃ H0 ρ ρ' Hf d, StOk K H0 ρ σ Hf H ∧ Rp K Hf v d ∧ b d ρ = some ρ' ∧ ∀ σ', StOk K H0 ρ' σ' Hf H → (∀ j : Nat, j ∉ L → σ'[j]? = σ[j]?) → σ'.length = σ.length → Q σ' H
def tPgs (K : PySem.W.Frag) (b : List D → En → Option En) (L : List Nat) : TGs := fun vs σ H Q => ∃ H0 ρ ρ' Hf ds, StOk K H0 ρ σ Hf H ∧ RpAll K Hf vs ds ∧ b ds ρ = some ρ' ∧ ∀ σ', StOk K H0 ρ' σ' Hf H → (∀ j : Nat, j ∉ L → σ'[j]? = σ[j]?) → σ'.length = σ.length → Q σ' H
theorem PG.weaken {e : Expr} {t t' : TG} (h : PG X e t) (w : ∀ v σ H Q, t' v σ H Q → t v σ H Q) : PG X e t' := ⟨fun pins s σ H v u Q I r q => h.run pins s σ H v u Q I r (w v σ H Q q)⟩
theorem PGs.weaken {e : List Expr} {t t' : TGs} (h : PGs X e t) (w : ∀ v σ H Q, t' v σ H Q → t v σ H Q) : PGs X e t' := ⟨fun pins s σ H v u Q I r q => h.run pins s σ H v u Q I r (w v σ H Q q)⟩
def bName (i : Nat) : D → En → Option En := fun d ρ => some (ρ.set i (.val d))
theorem qg_name {i : Nat} {x : Str} (hN : X.N.Nodup) (hi : X.N[i]? = some x) (hx : Loc X.env.scope x) (hf : X.fn x = true ∨ X.env.scope.names.lookup x = some .local := by first | exact .inl rfl | exact .inr rfl | assumption) : PG X (.Name x pos) (tPg X.K (bName i) [i]) :=
  PG.weaken (pg_name hN hi hx hf) fun v σ H Q ⟨H0, ρ, ρ', Hf, d, S, r, e, q⟩ => by
    cases e
    exact q _ (S.setV i r) (fun j hj => List.getElem?_set_ne (fun z => hj (by simp [z]))) (by simp)
def bNil : List D → En → Option En
  | [], ρ => some ρ
  | _ :: _, _ => none
def bCons (b : D → En → Option En) (bs : List D → En → Option En) : List D → En → Option En
  | d :: ds, ρ => (b d ρ).bind (bs ds)
  | [], _ => none
theorem qgs_nil : PGs X [] (tPgs X.K bNil []) := PGs.weaken pgs_nil fun v σ H Q ⟨H0, ρ, ρ', Hf, ds, S, r, e, q⟩ => by
  cases ds with
  | nil => cases r; cases e; exact ⟨rfl, q σ S (fun _ _ => rfl) rfl⟩
  | cons d ds => cases e
theorem qgs_cons {b : D → En → Option En} {bs : List D → En → Option En} {L1 L2 : List Nat} (h1 : PG X e (tPg X.K b L1)) (h2 : PGs X es (tPgs X.K bs L2)) (hs : (assignEach (e :: es) X.env).map (·.2) = assign e X.env :: (assignEach es X.env).map (·.2) := by rfl) : PGs X (e :: es) (tPgs X.K (bCons b bs) (L1 ++ L2)) :=
  PGs.weaken (pgs_cons h1 h2 hs) fun v σ H Q ⟨H0, ρ, ρ', Hf, ds, S, r, e, q⟩ => by
    cases ds with
    | nil => cases e
    | cons d ds =>
      cases r with
      | cons ra rb =>
        obtain ⟨ρ1, e1, e2⟩ := Option.bind_eq_some_iff.mp e
        exact ⟨_, _, rfl, H0, ρ, ρ1, Hf, d, S, ra, e1, fun σ1 S1 k1 l1 => ⟨H0, ρ1, ρ', Hf, ds, S1, rb, e2, fun σ2 S2 k2 l2 => q σ2 S2 (fun j hj => (k2 j fun z => hj (List.mem_append_right _ z)).trans (k1 j fun z => hj (List.mem_append_left _ z))) (l2.trans l1)⟩⟩
def bTup (n : Nat) (bs : List D → En → Option En) : D → En → Option En
  | .tuple ds, ρ => if ds.length = n then bs ds ρ else none
  | _, _ => none
theorem qg_tup {n k : Nat} {bs : List D → En → Option En} {L : List Nat} (h : ∀ {t : TGs}, PGs X es t → PG X (.Tuple es k pos) (gTup X.K n t)) (hs : PGs X es (tPgs X.K bs L)) : PG X (.Tuple es k pos) (tPg X.K (bTup n bs) L) :=
  PG.weaken (h hs) fun v σ H Q ⟨H0, ρ, ρ', Hf, d, S, r, e, q⟩ => by
    cases d with
    | tuple ds =>
      have e : (if ds.length = n then bs ds ρ else none) = some ρ' := e
      split at e
      · rename_i hl
        obtain ⟨a, xs, rfl, h1, ra⟩ := r.tup_inv
        exact ⟨a, xs, rfl, Same.seqT S.sub h1, by rw [ra.length]; exact hl, H0, ρ, ρ', Hf, ds, S, ra, e, q⟩
      · cases e
    | _ => cases e
/-- targets = e -/
def rAsg (b : D → En → Option En) (g : En → Option D) : En → Option Out := fun ρ => (g ρ).bind fun d => (b d ρ).map .nx
theorem qs_asg {tg : Expr} {b : D → En → Option En} {L : List Nat} (he : PE X e (tPv X.K ga)) (hg : PG X tg (tPg X.K b L)) (hs : swapsWithSole [tg] e pos.line X.env = pure false := by rfl) (hw : swappedStores [tg] e X.env = pure none := by rfl) (h1 : (assignEach [tg] X.env).map (·.2) = [assign tg X.env] := by rfl) : PS X (.Assign [tg] e pos) (tPs X.K (rAsg b ga)) :=
  PS.weaken (ps_asg he hg hs hw h1) fun D σ H ⟨Hf0, H0, ρ, Hf, o, F, e, p⟩ => by
    obtain ⟨d, e1, e⟩ := Option.bind_eq_some_iff.mp e
    obtain ⟨ρ', e2, e⟩ := Option.map_eq_some_iff.mp e
    subst e
    exact ⟨H0, ρ, Hf, d, F.st, e1, fun v Hf' H' x r => ⟨H0, ρ, ρ', Hf', d, F.st.ext x, r, e2, fun σ' S' _ _ => p σ' Hf' H' ⟨F.ext.trans x, S'⟩ x.fro⟩⟩
/-! ### what is walked -/
structure Wk (K : PySem.W.Frag) (Hf : Hp) (J : It) (ds : List D) : Prop where
  go : ∀ i H, Same Hf H → i < ds.length → J.go i H
  stop : ∀ i H, Same Hf H → ds.length ≤ i → J.stop i H
  yld : ∀ i H v H' Hf1 d, Same Hf Hf1 → Same Hf1 H → J.yld i H v H' → ds[i]? = some d → ∃ Hf2, Ext Hf1 H Hf2 H' ∧ Rp K Hf2 v d
def tPi (K : PySem.W.Frag) (g : En → Option (List D)) : TI := fun σ H R => ∃ H0 ρ Hf ds, StOk K H0 ρ σ Hf H ∧ g ρ = some ds ∧ ∀ J Hf' H', Ext Hf H Hf' H' → Wk K Hf' J ds → R J H'
theorem PI.weaken {tg l : Expr} {t t' : TI} (h : PI X tg l t) (w : ∀ σ H Q, t' σ H Q → t σ H Q) : PI X tg l t' := ⟨fun pins s σ H R I q => h.run pins s σ H R I (w σ H R q)⟩
theorem PI.or {tg l : Expr} {t t' : TI} (h : PI X tg l t) (h' : PI X tg l t') : PI X tg l (fun σ H R => t σ H R ∨ t' σ H R) := ⟨fun pins s σ H R I q => by
  rcases q with q | q
  · exact h.run pins s σ H R I q
  · exact h'.run pins s σ H R I q⟩
theorem wk_list {K : PySem.W.Frag} {Hf : Hp} {a : Addr} {xs : List V} {ds : List D} (h : SqL K Hf a xs) (r : RpAll K Hf xs ds) (inj : ∀ H ys, Same Hf H → SqL K H a ys → ys = xs) : Wk K Hf (Itl K a) ds where
  go := fun i H s hi => ⟨xs, xs[i]'(by rw [r.length]; exact hi), s.seq h, List.getElem?_eq_getElem _⟩
  stop := fun i H s hi => ⟨xs, s.seq h, by rw [r.length]; exact hi⟩
  yld := fun i H v H' Hf1 d s1 s2 y e => by
    obtain ⟨rfl, y⟩ := y
    have hv := y xs ((s1.trans s2).seq h)
    obtain ⟨v', hv', q⟩ := r.get e
    rw [hv] at hv'
    cases hv'
    exact ⟨Hf1, .refl s2, q.mono s1⟩
theorem wk_list' {K : PySem.W.Frag} {Hf : Hp} {a : Addr} {xs : List V} {ds : List D} (h : SqL K Hf a xs) (r : RpAll K Hf xs ds) : Wk K Hf (Itl K a) ds where
  go := fun i H s hi => ⟨xs, xs[i]'(by rw [r.length]; exact hi), s.seq h, List.getElem?_eq_getElem _⟩
  stop := fun i H s hi => ⟨xs, s.seq h, by rw [r.length]; exact hi⟩
  yld := fun i H v H' Hf1 d s1 s2 y e => by
    obtain ⟨rfl, y⟩ := y
    have hv := y xs ((s1.trans s2).seq h)
    obtain ⟨v', hv', q⟩ := r.get e
    rw [hv] at hv'
    cases hv'
    exact ⟨Hf1, .refl s2, q.mono s1⟩
theorem wk_tup {K : PySem.W.Frag} {Hf : Hp} {a : Addr} {xs : List V} {ds : List D} (h : SqT K Hf a xs) (r : RpAll K Hf xs ds) : Wk K Hf (Itt K a) ds where
  go := fun i H s hi => ⟨xs, xs[i]'(by rw [r.length]; exact hi), Same.seqT s h, List.getElem?_eq_getElem _⟩
  stop := fun i H s hi => ⟨xs, Same.seqT s h, by rw [r.length]; exact hi⟩
  yld := fun i H v H' Hf1 d s1 s2 y e => by
    obtain ⟨rfl, y⟩ := y
    have hv := y xs (Same.seqT (s1.trans s2) h)
    obtain ⟨v', hv', q⟩ := r.get e
    rw [hv] at hv'
    cases hv'
    exact ⟨Hf1, .refl s2, q.mono s1⟩
def strD (z : Str) : List D := z.cps.toList.map fun c => .str ⟨#[c]⟩
theorem wk_str {K : PySem.W.Frag} {Hf : Hp} {z : Str} : Wk K Hf (Its z) (strD z) where
  go := fun i H s hi => by
    unfold strD at hi
    rw [List.length_map, Array.length_toList] at hi
    exact hi
  stop := fun i H s hi => by
    unfold strD at hi
    rw [List.length_map, Array.length_toList] at hi
    exact hi
  yld := fun i H v H' Hf1 d s1 s2 y e => by
    obtain ⟨rfl, c, hc, rfl⟩ := y
    unfold strD at e
    rw [List.getElem?_map, Array.getElem?_toList, hc] at e
    cases e
    exact ⟨Hf1, .refl s2, .str _⟩
def itemsOf : D → Option (List D)
  | .list ds => some ds
  | .tuple ds => some ds
  | .str z => some (strD z)
  | .dict [(.list ds, .none)] => some ds
  | _ => none
def gItems (g : En → Option D) : En → Option (List D) := fun ρ => (g ρ).bind itemsOf
/-- a list, a tuple or a text -/
theorem qi_seq {tg l : Expr} (h : PE X l (tPv X.K ga)) (hl : ∀ {t : TE}, PE X l t → PI X tg l (iStr t)) : PI X tg l (tPi X.K (gItems ga)) :=
  PI.weaken (PI.or (PI.or (pi_list h) (pi_tup h)) (hl h)) fun σ H R ⟨H0, ρ, Hf, ds, S, e, q⟩ => by
    obtain ⟨d, e1, e⟩ := Option.bind_eq_some_iff.mp e
    unfold itemsOf at e
    split at e
    · cases e
      refine .inl (.inl ⟨H0, ρ, Hf, _, S, e1, fun v Hf1 H1 x1 r1 => ?_⟩)
      obtain ⟨a, xs, rfl, h1, ra⟩ := r1.lst_inv
      exact ⟨a, rfl, ⟨xs, x1.sub.seq (.inl h1)⟩, q _ Hf1 H1 x1 (wk_list' (.inl h1) ra)⟩
    · cases e
      refine .inl (.inr ⟨H0, ρ, Hf, _, S, e1, fun v Hf1 H1 x1 r1 => ?_⟩)
      obtain ⟨a, xs, rfl, h1, ra⟩ := r1.tup_inv
      exact ⟨a, rfl, ⟨xs, Same.seqT x1.sub h1⟩, q _ Hf1 H1 x1 (wk_tup h1 ra)⟩
    · cases e
      exact .inr ⟨H0, ρ, Hf, _, S, e1, fun v Hf1 H1 x1 r1 => ⟨_, r1.str_inv, q _ Hf1 H1 x1 wk_str⟩⟩
    · cases e
      refine .inl (.inl ⟨H0, ρ, Hf, _, S, e1, fun v Hf1 H1 x1 r1 => ?_⟩)
      obtain ⟨a, xs, rfl, h1, ra⟩ := Rp.scr_inv r1 rfl
      exact ⟨a, rfl, ⟨xs, x1.sub.seq h1⟩, q _ Hf1 H1 x1 (wk_list' h1 ra)⟩
    · cases e
/-- a list or a tuple -/
def gItems2 (g : En → Option D) : En → Option (List D) := fun ρ => (g ρ).bind fun d => match d with
  | .list ds => some ds
  | .tuple ds => some ds
  | .dict [(.list ds, .none)] => some ds
  | _ => none
theorem qi_lt {tg l : Expr} (h : PE X l (tPv X.K ga)) : PI X tg l (tPi X.K (gItems2 ga)) :=
  PI.weaken (PI.or (pi_list h) (pi_tup h)) fun σ H R ⟨H0, ρ, Hf, ds, S, e, q⟩ => by
    obtain ⟨d, e1, e⟩ := Option.bind_eq_some_iff.mp e
    split at e
    · cases e
      refine .inl ⟨H0, ρ, Hf, _, S, e1, fun v Hf1 H1 x1 r1 => ?_⟩
      obtain ⟨a, xs, rfl, h1, ra⟩ := r1.lst_inv
      exact ⟨a, rfl, ⟨xs, x1.sub.seq (.inl h1)⟩, q _ Hf1 H1 x1 (wk_list' (.inl h1) ra)⟩
    · cases e
      refine .inr ⟨H0, ρ, Hf, _, S, e1, fun v Hf1 H1 x1 r1 => ?_⟩
      obtain ⟨a, xs, rfl, h1, ra⟩ := r1.tup_inv
      exact ⟨a, rfl, ⟨xs, Same.seqT x1.sub h1⟩, q _ Hf1 H1 x1 (wk_tup h1 ra)⟩
    · cases e
      refine .inl ⟨H0, ρ, Hf, _, S, e1, fun v Hf1 H1 x1 r1 => ?_⟩
      obtain ⟨a, xs, rfl, h1, ra⟩ := Rp.scr_inv r1 rfl
      exact ⟨a, rfl, ⟨xs, x1.sub.seq h1⟩, q _ Hf1 H1 x1 (wk_list' h1 ra)⟩
    · cases e
def rangeD (lo : Int) (n : Nat) (c : Int) : List D := (List.range n).map fun i : Nat => .int (lo + (i : Int) * c)
theorem wk_range {K : PySem.W.Frag} {Hf : Hp} {lo : Int} {n : Nat} : Wk K Hf (Itr lo n) (rangeD lo n 1) where
  go := fun i H s hi => by
    have : i < n := by simpa [rangeD] using hi
    exact this
  stop := fun i H s hi => by
    have : n ≤ i := by simpa [rangeD] using hi
    exact this
  yld := fun i H v H' Hf1 d s1 s2 y e => by
    obtain ⟨rfl, rfl⟩ := y
    unfold rangeD at e
    rw [List.getElem?_map] at e
    obtain ⟨j, hj, rfl⟩ := Option.map_eq_some_iff.mp e
    have : j = i := by
      rw [List.getElem?_range (by
        have := (List.getElem?_eq_some_iff.mp hj).1
        simpa using this)] at hj
      exact (Option.some.inj hj).symm
    subst this
    rw [Int.mul_one]
    exact ⟨Hf1, .refl s2, .int _⟩
def gRange1 (gs : En → Option (List D)) : En → Option (List D) := fun ρ => (gs ρ).bind fun ds => match ds with
  | [.int n] => if -(2 ^ 62) ≤ n ∧ n < 2 ^ 62 then some (rangeD 0 n.toNat 1) else none
  | _ => none
def gRange2 (gs : En → Option (List D)) : En → Option (List D) := fun ρ => (gs ρ).bind fun ds => match ds with
  | [.int m, .int n] => if -(2 ^ 62) ≤ m ∧ m < 2 ^ 62 ∧ -(2 ^ 62) ≤ n ∧ n < 2 ^ 62 then some (rangeD m (n - m).toNat 1) else none
  | _ => none
theorem qi_range1 {tg a : Expr} {p : Pos} {gs : En → Option (List D)} (hg : Gl X "range") (hm : X.mg "range" = none) (ha : PA X [a] (tPa X.K gs)) (hs : starEach [a] X.env = [(false, eval a X.env)] := by rfl) : PI X tg (.Call (.Name "range" p) [a] [] pos) (tPi X.K (gRange1 gs)) :=
  PI.weaken (pi_range1 hg hm ha hs) fun σ H R ⟨H0, ρ, Hf, ds, S, e, q⟩ => by
    obtain ⟨as, e1, e⟩ := Option.bind_eq_some_iff.mp e
    split at e
    · split at e
      · rename_i n hn
        cases e
        exact ⟨H0, ρ, Hf, _, S, e1, fun vs Hf1 H1 x1 r1 => ⟨n, RpAll.ints_inv (ns := [n]) r1, hn.1, hn.2, q _ Hf1 H1 x1 wk_range⟩⟩
      · cases e
    · cases e
theorem qi_range2 {tg a b : Expr} {p : Pos} {gs : En → Option (List D)} (hg : Gl X "range") (hm : X.mg "range" = none) (ha : PA X [a, b] (tPa X.K gs)) (hs : starEach [a, b] X.env = [(false, eval a X.env), (false, eval b X.env)] := by rfl) (hs2 : starEach [b] X.env = [(false, eval b X.env)] := by rfl) :
    PI X tg (.Call (.Name "range" p) [a, b] [] pos) (tPi X.K (gRange2 gs)) :=
  PI.weaken (pi_range2 hg hm ha hs hs2) fun σ H R ⟨H0, ρ, Hf, ds, S, e, q⟩ => by
    obtain ⟨as, e1, e⟩ := Option.bind_eq_some_iff.mp e
    split at e
    · split at e
      · rename_i m n hn
        cases e
        exact ⟨H0, ρ, Hf, _, S, e1, fun vs Hf1 H1 x1 r1 => ⟨m, n, RpAll.ints_inv (ns := [m, n]) r1, hn, q _ Hf1 H1 x1 wk_range⟩⟩
      · cases e
    · cases e
/-! ### loops -/
variable {st : Stmt} {sts rest : List Stmt} {R R1 R2 : En → Option Out}
def forL (b : D → En → Option En) (R : En → Option Out) : List D → En → Option Out
  | [], ρ => some (.nx ρ)
  | d :: ds, ρ => (b d ρ).bind fun ρ1 => (R ρ1).bind fun o => match o with
    | .nx ρ2 => forL b R ds ρ2
    | .ct ρ2 => forL b R ds ρ2
    | .bk ρ2 => some (.nx ρ2)
    | .rt d => some (.rt d)
def rFor (gi : En → Option (List D)) (b : D → En → Option En) (R : En → Option Out) : En → Option Out := fun ρ => (gi ρ).bind fun ds => forL b R ds ρ
theorem qs_for {tg iter : Expr} {body : List Stmt} {gi : En → Option (List D)} {b : D → En → Option En} {L : List Nat} (hp : PassesOwn (model X.prog X.w) X.A X.env X.xe) (hc : X.calm = true) (hi : PI X tg iter (tPi X.K gi)) (hg : PG X tg (tPg X.K b L)) (hb : PSs X body (tPs X.K R))
    (hs : ∀ x, foldedSetIterable iter X.env x = pure x := by intro _; rfl) : PS X (.For tg iter body [] pos) (tPs X.K (rFor gi b R)) :=
  PS.weaken (ps_for hp hc hi hg hb hs) fun D σ H ⟨Hf0, H0, ρ, Hf, o, F, e, p⟩ => by
    obtain ⟨ds, e1, e⟩ := Option.bind_eq_some_iff.mp e
    refine ⟨H0, ρ, Hf, ds, F.st, e1, fun J Hf1 H1 x1 w => ?_⟩
    refine ⟨fun i m σ H => m = ds.length - i ∧ i ≤ ds.length ∧ ∃ ρ Hf, Fr X.K Hf0 H0 ρ σ Hf H ∧ Same Hf1 Hf ∧ forL b R (ds.drop i) ρ = some o, ⟨_, rfl, Nat.zero_le _, ρ, Hf1, F.step x1, Same.refl _, e⟩, ?_⟩
    rintro i m σ2 H2 ⟨rfl, hi, ρ2, Hf2, F2, s2, e2⟩
    by_cases hlt : i < ds.length
    · rw [List.drop_eq_getElem_cons hlt] at e2
      obtain ⟨ρ3, e3, e2⟩ := Option.bind_eq_some_iff.mp e2
      obtain ⟨o3, e4, e2⟩ := Option.bind_eq_some_iff.mp e2
      refine .inr ⟨w.go i H2 (s2.trans F2.st.sub) hlt, fun σ H => i + 1 ≤ ds.length ∧ ∃ ρ Hf, Fr X.K Hf0 H0 ρ σ Hf H ∧ Same Hf1 Hf ∧ forL b R (ds.drop (i + 1)) ρ = some o, fun σ' H' n => ⟨ds.length - (i + 1), by omega, rfl, n.1, n.2⟩, fun x H' y => ?_⟩
      obtain ⟨Hf3, x3, r3⟩ := w.yld i H2 x H' Hf2 _ s2 F2.st.sub y (List.getElem?_eq_getElem hlt)
      refine ⟨H0, ρ2, ρ3, Hf3, _, F2.st.ext x3, r3, e3, fun σ4 S4 _ _ => ⟨Hf0, H0, ρ3, Hf3, o3, ⟨F2.ext.trans x3, S4⟩, e4, ?_⟩⟩
      cases o3 with
      | nx ρ5 => exact fun σ5 Hf5 H5 F5 s5 => ⟨hlt, ρ5, Hf5, F5, s2.trans (x3.fro.trans s5), e2⟩
      | ct ρ5 => exact fun σ5 Hf5 H5 F5 s5 => ⟨hlt, ρ5, Hf5, F5, s2.trans (x3.fro.trans s5), e2⟩
      | bk ρ5 => cases e2; exact fun σ5 Hf5 H5 F5 s5 => p σ5 Hf5 H5 F5 (x1.fro.trans (s2.trans (x3.fro.trans s5)))
      | rt d => cases e2; exact p
    · rw [List.drop_eq_nil_of_le (by omega)] at e2
      cases e2
      exact .inl ⟨w.stop i H2 (s2.trans F2.st.sub) (by omega), p σ2 Hf2 H2 F2 (x1.fro.trans s2)⟩
def whileL (c : En → Option Bool) (R : En → Option Out) : Nat → En → Option Out
  | 0, _ => none
  | n + 1, ρ => (c ρ).bind fun b => if b = true then (R ρ).bind fun o => match o with
    | .nx ρ2 => whileL c R n ρ2
    | .ct ρ2 => whileL c R n ρ2
    | .bk ρ2 => some (.nx ρ2)
    | .rt d => some (.rt d)
    else some (.nx ρ)
def rWhile (fuel : En → Nat) (c : En → Option Bool) (R : En → Option Out) : En → Option Out := fun ρ => whileL c R (fuel ρ) ρ
theorem qs_while {c : Expr} {body : List Stmt} {tc : En → Option Bool} (fuel : En → Nat) (hp : PassesOwn (model X.prog X.w) X.A X.env X.xe) (hc : PT X c (tPt X.K tc)) (hb : PSs X body (tPs X.K R)) : PS X (.While c body [] pos) (tPs X.K (rWhile fuel tc R)) :=
  PS.weaken (ps_while hp hc hb) fun D σ H ⟨Hf0, H0, ρ, Hf, o, F, e, p⟩ => by
    refine ⟨fun m σ H => ∃ ρ Hf1, Fr X.K Hf0 H0 ρ σ Hf1 H ∧ Same Hf Hf1 ∧ whileL tc R m ρ = some o, ⟨_, ρ, Hf, F, Same.refl _, e⟩, ?_⟩
    rintro m σ1 H1 ⟨ρ1, Hf1, F1, s1, e1⟩
    cases m with
    | zero => cases e1
    | succ m =>
      obtain ⟨k, e2, e1⟩ := Option.bind_eq_some_iff.mp e1
      refine ⟨H0, ρ1, Hf1, k, F1.st, e2, fun Hf2 H2 x2 => ?_⟩
      cases k with
      | true =>
        rw [if_pos rfl] at e1 ⊢
        obtain ⟨o3, e3, e1⟩ := Option.bind_eq_some_iff.mp e1
        refine ⟨fun σ H => ∃ ρ Hf1, Fr X.K Hf0 H0 ρ σ Hf1 H ∧ Same Hf Hf1 ∧ whileL tc R m ρ = some o, fun σ' H' n => ⟨m, Nat.lt_succ_self _, n⟩, Hf0, H0, ρ1, Hf2, o3, F1.step x2, e3, ?_⟩
        cases o3 with
        | nx ρ5 => exact fun σ5 Hf5 H5 F5 s5 => ⟨ρ5, Hf5, F5, s1.trans (x2.fro.trans s5), e1⟩
        | ct ρ5 => exact fun σ5 Hf5 H5 F5 s5 => ⟨ρ5, Hf5, F5, s1.trans (x2.fro.trans s5), e1⟩
        | bk ρ5 => cases e1; exact fun σ5 Hf5 H5 F5 s5 => p σ5 Hf5 H5 F5 (s1.trans (x2.fro.trans s5))
        | rt d => cases e1; exact p
      | false =>
        rw [if_neg Bool.false_ne_true] at e1 ⊢
        cases e1
        exact p σ1 Hf2 H2 (F1.step x2) (s1.trans x2.fro)
end
end Pu

namespace Pu
open PySem PySem.Spec PyProof.Rows L2
section
variable {X : Cx} {e a b : Expr} {es : List Expr} {pos : Pos} {ga gb : En → Option D}
/-! ### zip, enumerate -/
def zipD : List D → List D → List D
  | x :: xs, y :: ys => .tuple [x, y] :: zipD xs ys
  | _, _ => []
theorem zipD_len : ∀ (xs ys : List D), (zipD xs ys).length = min xs.length ys.length
  | [], _ => by simp [zipD]
  | _ :: _, [] => by simp [zipD]
  | x :: xs, y :: ys => by simp only [zipD, List.length_cons, zipD_len xs ys]; omega
theorem zipD_get : ∀ (xs ys : List D) (i : Nat) (d : D), (zipD xs ys)[i]? = some d → ∃ x y, xs[i]? = some x ∧ ys[i]? = some y ∧ d = .tuple [x, y]
  | [], _, _, _, h => by simp [zipD] at h
  | _ :: _, [], _, _, h => by simp [zipD] at h
  | x :: xs, y :: ys, 0, d, h => by
    simp only [zipD, List.getElem?_cons_zero, Option.some.injEq] at h
    exact ⟨x, y, rfl, rfl, h.symm⟩
  | x :: xs, y :: ys, i + 1, d, h => by
    simp only [zipD, List.getElem?_cons_succ] at h
    obtain ⟨u, w, h1, h2, h3⟩ := zipD_get xs ys i d h
    exact ⟨u, w, by simpa using h1, by simpa using h2, h3⟩
theorem wk_zip {K : PySem.W.Frag} {Hf : Hp} {a b : Addr} {xs ys : List V} {ds es : List D} (h : SqL K Hf a xs) (r : RpAll K Hf xs ds) (h' : SqL K Hf b ys) (r' : RpAll K Hf ys es) : Wk K Hf (Itz K a b) (zipD ds es) where
  go := fun i H s hi => by
    rw [zipD_len] at hi
    have h1 : i < xs.length := by rw [r.length]; omega
    have h2 : i < ys.length := by rw [r'.length]; omega
    exact ⟨xs, ys, xs[i], ys[i], s.seq h, s.seq h', List.getElem?_eq_getElem h1, List.getElem?_eq_getElem h2⟩
  stop := fun i H s hi => by
    rw [zipD_len] at hi
    exact ⟨xs, ys, s.seq h, s.seq h', by rw [r.length, r'.length]; omega⟩
  yld := fun i H v H' Hf1 d s1 s2 y e => by
    obtain ⟨T, x, y, rfl, hT, rfl, f1, f2⟩ := y
    obtain ⟨dx, dy, e1, e2, rfl⟩ := zipD_get _ _ _ _ e
    obtain ⟨x', hx, qx⟩ := r.get e1
    obtain ⟨y', hy, qy⟩ := r'.get e2
    have gx := f1 xs ((s1.trans s2).seq h)
    have gy := f2 ys ((s1.trans s2).seq h')
    rw [gx] at hx
    rw [gy] at hy
    cases hx
    cases hy
    have nf := s2.free hT
    exact ⟨_, .fresh s2 hT, .tup (.of upd_same) (.cons (qx.mono (s1.trans (Same.new nf))) (.cons (qy.mono (s1.trans (Same.new nf))) .nil))⟩
def gZip (gs : En → Option (List D)) : En → Option (List D) := fun ρ => (gs ρ).bind fun ds => match ds with
  | [.list xs, .list ys] => some (zipD xs ys)
  | _ => none
theorem qi_zip {elts : List Expr} {kk : Nat} {tpos : Pos} {gs : En → Option (List D)} {l : Expr} (hpi : ∀ {t : TA}, PA X [a, b] t → PI X (.Tuple elts kk tpos) l (iZip X.K t)) (ha : PA X [a, b] (tPa X.K gs)) : PI X (.Tuple elts kk tpos) l (tPi X.K (gZip gs)) :=
  PI.weaken (hpi ha) fun σ H R ⟨H0, ρ, Hf, ds, S, e, q⟩ => by
    obtain ⟨as, e1, e⟩ := Option.bind_eq_some_iff.mp e
    split at e
    · cases e
      refine ⟨H0, ρ, Hf, _, S, e1, fun vs Hf1 H1 x1 r1 => ?_⟩
      cases r1 with
      | cons r1 r2 =>
        cases r2 with
        | cons r2 r3 =>
          cases r3
          obtain ⟨a1, xs, rfl, h1, ra⟩ := r1.lst_inv
          obtain ⟨a2, ys, rfl, h2, rb⟩ := r2.lst_inv
          exact ⟨a1, a2, xs, ys, rfl, x1.sub.seq (.inl h1), x1.sub.seq (.inl h2), q _ Hf1 H1 x1 (wk_zip (.inl h1) ra (.inl h2) rb)⟩
    · cases e
def enumD : Nat → List D → List D
  | _, [] => []
  | n, x :: xs => .tuple [.int n, x] :: enumD (n + 1) xs
theorem enumD_len : ∀ (n : Nat) (xs : List D), (enumD n xs).length = xs.length
  | _, [] => rfl
  | n, x :: xs => by simp only [enumD, List.length_cons, enumD_len (n + 1) xs]
theorem enumD_get : ∀ (n : Nat) (xs : List D) (i : Nat) (d : D), (enumD n xs)[i]? = some d → ∃ x, xs[i]? = some x ∧ d = .tuple [.int ((n + i : Nat) : Int), x]
  | _, [], _, _, h => by simp [enumD] at h
  | n, x :: xs, 0, d, h => by
    simp only [enumD, List.getElem?_cons_zero, Option.some.injEq] at h
    exact ⟨x, rfl, h.symm⟩
  | n, x :: xs, i + 1, d, h => by
    simp only [enumD, List.getElem?_cons_succ] at h
    obtain ⟨u, h1, h2⟩ := enumD_get (n + 1) xs i d h
    exact ⟨u, by simpa using h1, by rw [h2, show n + 1 + i = n + (i + 1) by omega]⟩
theorem wk_enum {K : PySem.W.Frag} {Hf : Hp} {a : Addr} {xs : List V} {ds : List D} (h : SqL K Hf a xs) (r : RpAll K Hf xs ds) : Wk K Hf (Ite K a) (enumD 0 ds) where
  go := fun i H s hi => by
    rw [enumD_len] at hi
    have h1 : i < xs.length := by rw [r.length]; omega
    exact ⟨xs, xs[i], s.seq h, List.getElem?_eq_getElem h1⟩
  stop := fun i H s hi => by
    rw [enumD_len] at hi
    exact ⟨xs, s.seq h, by rw [r.length]; omega⟩
  yld := fun i H v H' Hf1 d s1 s2 y e => by
    obtain ⟨T, x, rfl, hT, rfl, f1⟩ := y
    obtain ⟨dx, e1, rfl⟩ := enumD_get _ _ _ _ e
    obtain ⟨x', hx, qx⟩ := r.get e1
    have gx := f1 xs ((s1.trans s2).seq h)
    rw [gx] at hx
    cases hx
    have nf := s2.free hT
    refine ⟨_, .fresh s2 hT, .tup (.of upd_same) (.cons ?_ (.cons (qx.mono (s1.trans (Same.new nf))) .nil))⟩
    rw [Nat.zero_add]
    exact .int _
def gEnum (gs : En → Option (List D)) : En → Option (List D) := fun ρ => (gs ρ).bind fun ds => match ds with
  | [.list xs] => some (enumD 0 xs)
  | _ => none
theorem qi_enum {elts : List Expr} {kk : Nat} {tpos : Pos} {gs : En → Option (List D)} {l : Expr} (hpi : ∀ {t : TA}, PA X [a] t → PI X (.Tuple elts kk tpos) l (iEnum X.K t)) (ha : PA X [a] (tPa X.K gs)) : PI X (.Tuple elts kk tpos) l (tPi X.K (gEnum gs)) :=
  PI.weaken (hpi ha) fun σ H R ⟨H0, ρ, Hf, ds, S, e, q⟩ => by
    obtain ⟨as, e1, e⟩ := Option.bind_eq_some_iff.mp e
    split at e
    · cases e
      refine ⟨H0, ρ, Hf, _, S, e1, fun vs Hf1 H1 x1 r1 => ?_⟩
      cases r1 with
      | cons r1 r2 =>
        cases r2
        obtain ⟨a1, xs, rfl, h1, ra⟩ := r1.lst_inv
        exact ⟨a1, xs, rfl, x1.sub.seq (.inl h1), q _ Hf1 H1 x1 (wk_enum (.inl h1) ra)⟩
    · cases e
/-! ### comprehensions -/
def wipeE (ρ : En) : List Nat → En
  | [] => ρ
  | v :: vs => (wipeE ρ vs).set v .un
theorem wipe_get : ∀ (vs : List Nat) (σ : L2.St) (i : Nat), i ∉ vs → (wipe σ vs)[i]? = σ[i]?
  | [], _, _, _ => rfl
  | v :: vs, σ, i, h => by
    show ((wipe σ vs).set v none)[i]? = _
    rw [List.getElem?_set_ne (fun z => h (by simp [z])), wipe_get vs σ i fun z => h (List.mem_cons_of_mem _ z)]
theorem wipe_in : ∀ (vs : List Nat) (σ : L2.St) (i : Nat), i ∈ vs → i < σ.length → (wipe σ vs)[i]? = some none
  | [], _, _, h, _ => by cases h
  | v :: vs, σ, i, h, hl => by
    show ((wipe σ vs).set v none)[i]? = _
    by_cases e : i = v
    · subst e
      rw [List.getElem?_set_self (by rw [wipe_length]; exact hl)]
    · rw [List.getElem?_set_ne (Ne.symm e)]
      exact wipe_in vs σ i (by simpa [e] using h) hl
theorem wipe_eq {vs : List Nat} {σ σ' : L2.St} (hl : σ'.length = σ.length) (h : ∀ j : Nat, j ∉ vs → σ'[j]? = σ[j]?) : wipe σ' vs = wipe σ vs := by
  refine List.ext_getElem? fun i => ?_
  by_cases hi : i ∈ vs
  · by_cases hlt : i < σ.length
    · rw [wipe_in vs σ' i hi (by omega), wipe_in vs σ i hi hlt]
    · rw [List.getElem?_eq_none (by rw [wipe_length]; omega), List.getElem?_eq_none (by rw [wipe_length]; omega)]
  · rw [wipe_get vs σ' i hi, wipe_get vs σ i hi, h i hi]
theorem wipe_wipe (vs : List Nat) (σ : L2.St) : wipe (wipe σ vs) vs = wipe σ vs := wipe_eq (wipe_length _ _) fun j hj => wipe_get vs σ j hj
theorem StOk.un {K : PySem.W.Frag} {H0 Hf H : Hp} {ρ : En} {σ : L2.St} (S : StOk K H0 ρ σ Hf H) (i : Nat) (o : Option V) : StOk K H0 (ρ.set i .un) (σ.set i o) Hf H := by
  refine ⟨S.sub, fun j s e => ?_, fun j k ds es a ne e1 e2 f => ?_⟩
  · rcases set_get e with ⟨rfl, hl, rfl⟩ | ⟨ne, e⟩
    · exact ⟨o, List.getElem?_set_self (S.some_at hl), trivial⟩
    · obtain ⟨o, e1, h⟩ := S.at_ j s e
      exact ⟨o, by rw [List.getElem?_set_ne (Ne.symm ne)]; exact e1, h⟩
  · rcases set_get e1 with ⟨_, _, z⟩ | ⟨n1, e1⟩
    · cases z
    · rcases set_get e2 with ⟨_, _, z⟩ | ⟨n2, e2⟩
      · cases z
      · rw [List.getElem?_set_ne (Ne.symm n1)] at f
        rw [List.getElem?_set_ne (Ne.symm n2)]
        exact S.sep j k ds es a ne e1 e2 f
theorem StOk.wipe {K : PySem.W.Frag} {H0 Hf H : Hp} {ρ : En} {σ : L2.St} (S : StOk K H0 ρ σ Hf H) : ∀ (vs : List Nat), StOk K H0 (wipeE ρ vs) (L2.wipe σ vs) Hf H
  | [] => S
  | v :: vs => (StOk.wipe S vs).un v none
/-- an object that no slot owns is written -/
theorem StOk.other {K : PySem.W.Frag} {H0 Hf H : Hp} {ρ : En} {σ : L2.St} {p : Addr} {o : HO} (S : StOk K H0 ρ σ Hf H) (hf : Hf p = none) (ho : ∀ (i : Nat) (ds : List D), ρ[i]? = some (.own ds) → σ[i]? ≠ some (some (.ref p))) : StOk K H0 ρ σ Hf (L2.upd H p o) := by
  refine ⟨fun b u q => ?_, fun i s e => ?_, S.sep⟩
  · rw [upd_ne (ne_of_none q hf)]; exact S.sub b u q
  · obtain ⟨w, e1, h⟩ := S.at_ i s e
    refine ⟨w, e1, ?_⟩
    cases s with
    | un => trivial
    | val d => exact h
    | own ds =>
      obtain ⟨a, vs, rfl, g0, g1, g2, g3⟩ := h
      have ne : a ≠ p := fun z => ho i ds e (by rw [e1, z])
      exact ⟨a, vs, rfl, g0, by rw [upd_ne ne]; exact g1, g2, g3⟩
/-- tests of a comprehension -/
def gYes : En → Option Bool := fun _ => some true
theorem qt_yes : PTs X [] (tPt X.K gYes) := ⟨fun pins s σ H Q I h => (pts_nil (X := X)).run pins s σ H Q I (by
  obtain ⟨H0, ρ, Hf, b, S, e, q⟩ := h
  cases e
  exact q Hf H (.refl S.sub))⟩
/-- one comprehension turn after the other -/
def lcL (f : D → Option (List D)) : List D → Option (List D)
  | [] => some []
  | d :: ds => (f d).bind fun xs => (lcL f ds).map (xs ++ ·)
def lcF (b : D → En → Option En) (t : En → Option Bool) (g : En → Option D) (ρ : En) : D → Option (List D) := fun d => (b d ρ).bind fun ρ1 => (t ρ1).bind fun c => if c = true then (g ρ1).map fun y => [y] else some []
def gLc (gi : En → Option (List D)) (b : D → En → Option En) (t : En → Option Bool) (g : En → Option D) (L : List Nat) : En → Option Rs := fun ρ => (gi ρ).bind fun ds => (lcL (lcF b t g (wipeE ρ L)) ds).bind fun out => if out.length ≤ sizeLine then some (.new out) else none
structure LcS (K : PySem.W.Frag) (Hs Hfs : Hp) (H0 : Hp) (ρ : En) (σ : L2.St) (p : Addr) (acc : List D) (Hf H : Hp) : Prop where
  ext : Ext Hfs Hs Hf H
  st : StOk K H0 ρ σ Hf H
  own : ∃ vs, H p = some (.lst vs) ∧ RpAll K Hf vs acc
  fp : Hf p = none
theorem LcS.step {K : PySem.W.Frag} {Hs Hfs H0 Hf H Hf' H' : Hp} {ρ : En} {σ : L2.St} {p : Addr} {acc : List D} (F : LcS K Hs Hfs H0 ρ σ p acc Hf H) (x : Ext Hf H Hf' H') : LcS K Hs Hfs H0 ρ σ p acc Hf' H' :=
  ⟨F.ext.trans x, F.st.ext x, let ⟨vs, h, r⟩ := F.own; ⟨vs, x.all _ _ h, r.mono x.fro⟩, let ⟨vs, h, r⟩ := F.own; x.keep _ _ h F.fp⟩
theorem LcS.push {K : PySem.W.Frag} {Hs Hfs H0 Hf H : Hp} {ρ : En} {σ : L2.St} {p : Addr} {acc : List D} {y : V} {d : D} {vs : List V} (F : LcS K Hs Hfs H0 ρ σ p acc Hf H) (hs : Hs p = none) (ho : ∀ (i : Nat) (ds : List D), ρ[i]? = some (.own ds) → σ[i]? ≠ some (some (.ref p)))
    (h : H p = some (.lst vs)) (r : RpAll K Hf vs acc) (q : Rp K Hf y d) : LcS K Hs Hfs H0 ρ σ p (acc ++ [d]) Hf (L2.upd H p (.lst (vs ++ [y]))) := by
  have S := F.st.other (o := .lst (vs ++ [y])) F.fp ho
  refine ⟨⟨fun b u e => ?_, F.ext.fro, S.sub, F.ext.keep⟩, S, ⟨_, upd_same, r.append (.cons q .nil)⟩, F.fp⟩
  rw [upd_ne (ne_of_none e hs)]
  exact F.ext.all b u e
theorem tLc_pu {K : PySem.W.Frag} {gi : En → Option (List D)} {b : D → En → Option En} {t : En → Option Bool} {g : En → Option D} {L L1 : List Nat} (hL : ∀ j ∈ L1, j ∈ L) {σ : L2.St} {H : Hp} {Q : VK} (h : tPu K (gLc gi b t g L) σ H Q) :
    tLc (tPi K gi) (tPg K b L1) (tPt K t) (tPv K g) L σ H Q := by
  obtain ⟨H0, ρ, Hf, r, S, e, q⟩ := h
  obtain ⟨ds, e1, e⟩ := Option.bind_eq_some_iff.mp e
  obtain ⟨out, e2, e⟩ := Option.bind_eq_some_iff.mp e
  split at e
  · rename_i hsz
    cases e
    refine ⟨H0, ρ, Hf, ds, S, e1, fun J Hf1 H1 x1 w p hp => ?_⟩
    have S1 := (S.ext x1).wipe L
    have fp1 : Hf1 p = none := x1.sub.free hp
    have hsp : H p = none := x1.all.free hp
    have ho : ∀ (i : Nat) (ds : List D), (wipeE ρ L)[i]? = some (.own ds) → (L2.wipe σ L)[i]? ≠ some (some (.ref p)) := fun i ds ei z => by
      obtain ⟨o, f, a, vs, rfl, _, g1, _⟩ := S1.at_ i _ ei
      rw [f] at z
      cases z
      rw [hp] at g1
      cases g1
    have x2 : Ext Hf H Hf1 (L2.upd H1 p (.lst [])) := x1.trans (.loose x1.sub hp)
    refine ⟨fun i m H' => m = ds.length - i ∧ i ≤ ds.length ∧ ∃ Hf' acc rest, Same Hf1 Hf' ∧ LcS K H Hf H0 (wipeE ρ L) (L2.wipe σ L) p acc Hf' H' ∧ lcL (lcF b t g (wipeE ρ L)) (ds.drop i) = some rest ∧ acc ++ rest = out,
      ⟨_, rfl, Nat.zero_le _, Hf1, [], out, Same.refl _, ⟨x2, S1.other fp1 ho, ⟨[], upd_same, .nil⟩, fp1⟩, e2, rfl⟩, ?_⟩
    rintro i m H2 ⟨rfl, hi, Hf2, acc, rest, s2, F2, e3, e4⟩
    by_cases hlt : i < ds.length
    · rw [List.drop_eq_getElem_cons hlt] at e3
      obtain ⟨xs, e5, e3⟩ := Option.bind_eq_some_iff.mp e3
      obtain ⟨rest2, e6, e3⟩ := Option.map_eq_some_iff.mp e3
      obtain ⟨ρ1, e7, e5⟩ := Option.bind_eq_some_iff.mp e5
      obtain ⟨c, e8, e5⟩ := Option.bind_eq_some_iff.mp e5
      refine .inr ⟨w.go i H2 (s2.trans F2.st.sub) hlt, fun H' => i + 1 ≤ ds.length ∧ ∃ Hf' acc rest, Same Hf1 Hf' ∧ LcS K H Hf H0 (wipeE ρ L) (L2.wipe σ L) p acc Hf' H' ∧ lcL (lcF b t g (wipeE ρ L)) (ds.drop (i + 1)) = some rest ∧ acc ++ rest = out,
        fun H' n => ⟨ds.length - (i + 1), by omega, rfl, n.1, n.2⟩, fun x H3 y => ?_⟩
      obtain ⟨Hf3, x3, r3⟩ := w.yld i H2 x H3 Hf2 _ s2 F2.st.sub y (List.getElem?_eq_getElem hlt)
      have F3 := F2.step x3
      refine ⟨H0, wipeE ρ L, ρ1, Hf3, _, F3.st, r3, e7, fun σ4 S4 k4 l4 => ⟨?_, H0, ρ1, Hf3, c, S4, e8, fun Hf5 H5 x5 => ?_⟩⟩
      · rw [wipe_eq l4 fun j hj => k4 j fun z => hj (hL j z), wipe_wipe]
      · have F5 := F3.step x5
        cases c with
        | true =>
          rw [if_pos rfl] at e5
          obtain ⟨dy, e9, e5⟩ := Option.map_eq_some_iff.mp e5
          subst e5
          refine iteT ?_
          refine ⟨H0, ρ1, Hf5, dy, S4.ext x5, e9, fun yv Hf6 H6 x6 r6 => ?_⟩
          have F6 := F5.step x6
          obtain ⟨vs, hv, rv⟩ := F6.own
          refine ⟨vs, hv, ?_, hlt, Hf6, acc ++ [dy], rest2, s2.trans (x3.fro.trans (x5.fro.trans x6.fro)), F6.push hsp ho hv rv r6, e6, ?_⟩
          · have hz : (acc ++ rest).length ≤ sizeLine := by rw [e4]; exact hsz
            rw [← e3, List.length_append, List.length_append, List.length_singleton] at hz
            rw [rv.length]
            omega
          · rw [← e4, ← e3]
            simp
        | false =>
          rw [if_neg Bool.false_ne_true] at e5
          cases e5
          refine iteF ?_
          refine ⟨hlt, Hf5, acc, rest2, s2.trans (x3.fro.trans x5.fro), F5, e6, ?_⟩
          rw [← e4, ← e3]
          rfl
    · rw [List.drop_eq_nil_of_le (by omega)] at e3
      cases e3
      obtain ⟨vs, hv, rv⟩ := F2.own
      refine .inl ⟨w.stop i H2 (s2.trans F2.st.sub) (by omega), q _ Hf2 H2 F2.ext ⟨p, vs, rfl, hsp, hv, F2.fp, ?_⟩⟩
      rw [List.append_nil] at e4
      rw [← e4]
      exact rv
  · cases e
theorem pu_lc {elt tg iter : Expr} {ifs : List Expr} {scope : Scope} {own : List (Str × Nat)} {gi : En → Option (List D)} {b : D → En → Option En} {t : En → Option Bool} {g : En → Option D} {L1 : List Nat} (hc : X.calm = true) (hN : X.N.Nodup) (hi : PI X tg iter (tPi X.K gi)) (ok : BlkOk X.N X.env.scope scope own)
    (hg : ∀ (s : Shared) (H : Hp) (C : Addr) (cl : List (Str × Addr)) (fp : List Addr), PG (X.blk s H scope (compEnvC scope cl C X.env) fp) tg (tPg X.K b L1)) (ht : ∀ (s : Shared) (H : Hp) (C : Addr) (cl : List (Str × Addr)) (fp : List Addr), PTs (X.blk s H scope (compEnvC scope cl C X.env) fp) ifs (tPt X.K t))
    (he : ∀ (s : Shared) (H : Hp) (C : Addr) (cl : List (Str × Addr)) (fp : List Addr), PE (X.blk s H scope (compEnvC scope cl C X.env) fp) elt (tPv X.K g)) (hL : ∀ j ∈ L1, j ∈ own.map (·.2) := by decide) (hs : ∀ x, foldedSetIterable iter X.env x = pure x := by intro _; rfl) :
    PE X (.ListComp elt [⟨tg, iter, ifs, 0⟩] scope pos) (tPu X.K (gLc gi b t g (own.map (·.2)))) := PE.weaken (pe_lc hc hN hi ok hg ht he hs) fun _ _ _ h => tLc_pu hL h
theorem qt_one {X : Cx} {c : Expr} {t : En → Option Bool} (h : PT X c (tPt X.K t)) : PTs X [c] (tPt X.K t) := pts_one h
/-- y = [..] on one line -/
theorem qs_lcSet {i : Nat} {y : Str} {py spos : Pos} {elt tg iter : Expr} {ifs : List Expr} {scope : Scope} {own : List (Str × Nat)} {gi : En → Option (List D)} {b : D → En → Option En} {t : En → Option Bool} {g : En → Option D} {L1 : List Nat} (hc : X.calm = true) (hN : X.N.Nodup) (hy : X.N[i]? = some y) (hyl : X.env.scope.names.lookup y = some .local)
    (hsw : swapsWith (.ListComp elt [⟨tg, iter, ifs, 0⟩] scope pos) (some (.Name y py)) spos.line X.env = pure true) (hi : PI X tg iter (tPi X.K gi)) (ok : BlkOk X.N X.env.scope scope own)
    (hg : ∀ (s : Shared) (H : Hp) (C : Addr) (cl : List (Str × Addr)) (fp : List Addr), PG (X.blk s H scope (compEnvC scope cl C X.env) fp) tg (tPg X.K b L1)) (ht : ∀ (s : Shared) (H : Hp) (C : Addr) (cl : List (Str × Addr)) (fp : List Addr), PTs (X.blk s H scope (compEnvC scope cl C X.env) fp) ifs (tPt X.K t))
    (he : ∀ (s : Shared) (H : Hp) (C : Addr) (cl : List (Str × Addr)) (fp : List Addr), PE (X.blk s H scope (compEnvC scope cl C X.env) fp) elt (tPv X.K g)) (hL : ∀ j ∈ L1, j ∈ own.map (·.2) := by decide) (hs : ∀ x, foldedSetIterable iter X.env x = pure x := by intro _; rfl) :
    PS X (.Assign [.Name y py] (.ListComp elt [⟨tg, iter, ifs, 0⟩] scope pos) spos) (tPs X.K (rOwn i (gLc gi b t g (own.map (·.2))))) := PS.weaken (ps_setLc hc hN hy hyl hsw hi ok hg ht he hs) fun D σ H h => by
  obtain ⟨Hf0, H0, ρ, Hf, o, F, e, p⟩ := h
  exact tLc_pu hL (tOwn_ps ⟨Hf0, H0, ρ, Hf, o, F, e, p⟩)
end
/-! ### defs -/
section
variable {P : Program} {w : World} {K : PySem.W.Frag} {mg : Str → Option Value} {base : Heap}
def start0 (n : Nat) (ds : List D) : En := ds.map .val ++ List.replicate (n - ds.length) .un
def runDef (n : Nat) (R : En → Option Out) (ds : List D) : Option D := (R (start0 n ds)).bind fun o => match o with
  | .rt d => some d
  | .nx _ => some .none
  | _ => none
theorem start_ok {H0 Hf H : Hp} {N : List Str} {vs : List V} {ds : List D} (s : Same Hf H) (r : RpAll K Hf vs ds) : StOk K H0 (start0 N.length ds) (start N vs) Hf H := by
  have hl := r.length
  refine ⟨s, fun i sl e => ?_, fun i j es es' a ne e1 e2 f => ?_⟩
  · unfold start0 at e
    unfold L2.start
    by_cases hi : i < ds.length
    · rw [List.getElem?_append_left (by simpa using hi)] at e
      rw [List.getElem?_append_left (by simpa [hl] using hi)]
      rw [List.getElem?_map] at e ⊢
      obtain ⟨d, hd, rfl⟩ := Option.map_eq_some_iff.mp e
      obtain ⟨v, hv, q⟩ := r.get hd
      exact ⟨some v, by rw [hv]; rfl, v, rfl, q⟩
    · rw [List.getElem?_append_right (by simpa using hi)] at e
      rw [List.getElem?_append_right (by simpa [hl] using hi)]
      rw [List.getElem?_replicate] at e ⊢
      simp only [List.length_map] at e ⊢
      split at e
      · cases e
        rename_i h
        exact ⟨none, by rw [if_pos (by rw [hl]; omega)], trivial⟩
      · cases e
  · unfold start0 at e1
    by_cases hi : i < ds.length
    · rw [List.getElem?_append_left (by simpa using hi), List.getElem?_map] at e1
      obtain ⟨d, _, z⟩ := Option.map_eq_some_iff.mp e1
      cases z
    · rw [List.getElem?_append_right (by simpa using hi), List.getElem?_replicate] at e1
      split at e1 <;> cases e1
/-- THE RULE for a def: its body's reading, run at the parameters -/
theorem fn_pu {x qual : Str} {st : Stmt} {f : Addr} {fd : FuncData} {N ps : List Str} {k : Nat} {R : En → Option Out} (F : Fun K x qual st f fd) (S : FnScope N ps (defScope st))
    (hb : ∀ (cdv : Value) (A : Around) (outer : List Env) (s : Shared) (H : Hp) (E : XK), Room k (A.deeper (envOfC qual (defScope st) s.heap.objs.size f cdv)) → PSs (cxOf CX0 P w K mg base N qual (defScope st) f cdv A outer s H E).nox (defBody st) (tPs K R)) :
    FnOk P w K mg base CX0 (k + 1) f fd ps (spPu K ps.length (runDef N.length R)) := by
  refine F.ok S (fun vs H Q E h => spPu_len h) (fun cdv A outer s H vs Q E hr h => ⟨_, hb cdv A outer s H E hr, ?_⟩)
  obtain ⟨Hf, ds, d, hl, sub, r, e, q⟩ := h
  obtain ⟨o, e1, e2⟩ := Option.bind_eq_some_iff.mp e
  refine ⟨Hf, H, _, Hf, o, ⟨.refl sub, start_ok sub r⟩, e1, ?_⟩
  cases o with
  | rt d' => cases e2; exact fun v Hf' H' x r' => q v Hf' H' x r'
  | nx ρ' => cases e2; exact fun σ' Hf' H' F' _ => q _ Hf' H' F'.ext .non
  | bk ρ' => cases e2
  | ct ρ' => cases e2
theorem spPu_imp {n : Nat} {φ φ' : List D → Option D} (h : ∀ ds d, φ' ds = some d → φ ds = some d) {vs : List V} {H : Hp} {Q : VK} {E : XK} (s : spPu K n φ' vs H Q E) : spPu K n φ vs H Q E := by
  obtain ⟨Hf, ds, d, hl, sub, r, e, q⟩ := s
  exact ⟨Hf, ds, d, hl, sub, r, h ds d e, q⟩
end
end Pu

namespace Pu
open PySem PySem.Spec PyProof.Rows L2
/-- a def that stands at the name x and keeps φ -/
structure Fk (P : Program) (w : World) (K : PySem.W.Frag) (mg : Str → Option Value) (base : Heap) (k : Nat) (x : Str) (n : Nat) (φ : List D → Option D) : Prop where
  ex : ∃ f fd ps, FnOk P w K mg base CX0 k f fd ps (spPu K n φ) ∧ mg x = some (.ref f) ∧ PySem.W.keepIn K (.ref f) = true ∧ Binds K fd ps []
theorem Fk.imp {P : Program} {w : World} {K : PySem.W.Frag} {mg : Str → Option Value} {base : Heap} {k n : Nat} {x : Str} {φ φ' : List D → Option D} (F : Fk P w K mg base k x n φ) (h : ∀ ds d, φ' ds = some d → φ ds = some d) : Fk P w K mg base k x n φ' := by
  obtain ⟨f, fd, ps, F1, F2, F3, F4⟩ := F.ex
  exact ⟨f, fd, ps, F1.imp fun vs H Q E s => spPu_imp h s, F2, F3, F4⟩
section
variable {X : Cx} {e : Expr} {es : List Expr} {pos : Pos}
theorem pv_callF {k j n : Nat} {x : Str} {p : Pos} {φ : List D → Option D} {gs : En → Option (List D)} (F : Fk X.prog X.w X.K X.mg X.base k x n φ) (hr : Room j X.A) (hk : k ≤ j) (hg : Gl X x) (ha : PA X (e :: es) (tPa X.K gs)) (hdb : (x == ("__debug__" : Str)) = false := by decide)
    (he : starEach (e :: es) X.env = (false, eval e X.env) :: starEach es X.env := by rfl) (hpl : (backTo pos (starEach es X.env)).any (·.1) = false := by rfl) : PE X (.Call (.Name x p) (e :: es) [] pos) (tPv X.K (gCall n φ gs)) := by
  obtain ⟨f, fd, ps, F1, F2, F3, F4⟩ := F.ex
  exact pv_call F1 (hr.mono hk) hg F2 F3 F4 pass0 ha hdb he hpl
/-- a module's constant -/
def Ck (K : PySem.W.Frag) (mg : Str → Option Value) (x : Str) (d : D) : Prop := ∃ (v : V) (u : Value), mg x = some u ∧ RelV v u ∧ ∀ H, Rp K H v d
theorem pv_glob {x : Str} {d : D} (c : Ck X.K X.mg x d) (hg : Gl X x) (hd : (x == ("__debug__" : Str)) = false := by decide) : PE X (.Name x pos) (tPv X.K (vC d)) := by
  obtain ⟨v, u, h1, h2, h3⟩ := c
  exact pv_c (pe_glob hg h1 h2 hd) h3
theorem Ck.int {K : PySem.W.Frag} {mg : Str → Option Value} {x : Str} {i : Int} (h : ∃ t, mg x = some (.int i t)) : Ck K mg x (.int i) := by
  obtain ⟨t, h⟩ := h
  exact ⟨.int i, _, h, ⟨t, rfl⟩, fun _ => .int i⟩
theorem Ck.str {K : PySem.W.Frag} {mg : Str → Option Value} {x : Str} {z : Str} (h : ∃ t, mg x = some (.str z t)) : Ck K mg x (.str z) := by
  obtain ⟨t, h⟩ := h
  exact ⟨.str z, _, h, ⟨t, rfl⟩, fun _ => .str z⟩
end
end Pu
namespace Pu
open PySem
theorem bt_len : bootBuiltins "len" = some (.builtin "len") := by decide +kernel
theorem bt_sorted : bootBuiltins "sorted" = some (.builtin "sorted") := by decide +kernel
theorem bt_sum : bootBuiltins "sum" = some (.builtin "sum") := by decide +kernel
theorem bt_any : bootBuiltins "any" = some (.builtin "any") := by decide +kernel
theorem bt_all : bootBuiltins "all" = some (.builtin "all") := by decide +kernel
theorem bt_abs : bootBuiltins "abs" = some (.builtin "abs") := by decide +kernel
theorem bt_max : bootBuiltins "max" = some (.builtin "max") := by decide +kernel
theorem bt_min : bootBuiltins "min" = some (.builtin "min") := by decide +kernel
theorem bt_isinstance : bootBuiltins "isinstance" = some (.builtin "isinstance") := by decide +kernel
theorem bt_list : bootBuiltins "list" = some (.type "list") := by decide +kernel
theorem bt_int : bootBuiltins "int" = some (.type "int") := by decide +kernel
theorem bt_bool : bootBuiltins "bool" = some (.type "bool") := by decide +kernel
theorem bt_str : bootBuiltins "str" = some (.type "str") := by decide +kernel
theorem bt_tuple : bootBuiltins "tuple" = some (.type "tuple") := by decide +kernel
theorem bt_set : bootBuiltins "set" = some (.type "set") := by decide +kernel
end Pu

namespace Pu
open PySem PySem.Spec PyProof.Rows L2
/-! ### reckoning: the readings' own equations -/
theorem bind_s {α β : Type} (a : α) (f : α → Option β) : (some a).bind f = f a := rfl
theorem bind_n {α β : Type} (f : α → Option β) : (none : Option α).bind f = none := rfl
theorem map_s {α β : Type} (a : α) (f : α → β) : (some a).map f = some (f a) := rfl
theorem ite_b {α : Type} (c : Prop) [Decidable c] (a b : α) : (if decide c = true then a else b) = if c then a else b := by
  by_cases h : c <;> simp [h]
theorem fmod_pos (a : Int) {b : Int} (h : 0 < b) : a.fmod b = a % b := Int.fmod_eq_emod_of_nonneg a (by omega)
theorem fdiv_pos (a : Int) {b : Int} (h : 0 < b) : a.fdiv b = a / b := Int.fdiv_eq_ediv_of_nonneg a (by omega)
theorem seq_nx {R1 R2 : En → Option Out} {ρ ρ' : En} (h : R1 ρ = some (.nx ρ')) : rSeq R1 R2 ρ = R2 ρ' := by unfold rSeq; rw [h]; rfl
theorem seq_rt {R1 R2 : En → Option Out} {ρ : En} {d : D} (h : R1 ρ = some (.rt d)) : rSeq R1 R2 ρ = some (.rt d) := by unfold rSeq; rw [h]; rfl
theorem lg_lt {n k : Nat} (h : n < 2 ^ k) (hk : 0 < k) : n.log2 < k := by
  by_cases h0 : n = 0
  · subst h0; simpa using hk
  · exact (Nat.log2_lt h0).mpr h
theorem mul_small_l {i j : Int} (h : i.natAbs < 2 ^ 64) : mulOk i j = true := by unfold mulOk; simp [h]
theorem mul_small_r {i j : Int} (h : j.natAbs < 2 ^ 64) : mulOk i j = true := by unfold mulOk; simp [h]
theorem div_ok {j : Int} (h0 : j ≠ 0) (h : j.natAbs < 2 ^ 8000) : divOk j = true := by
  unfold divOk
  have := lg_lt h (by decide)
  simp only [ne_eq, h0, not_false_eq_true, decide_true, Bool.true_and, decide_eq_true_eq]
  omega
theorem bits_log {z : Int} (h : Builtin.Int.intBits z ≤ 1048576) : z.natAbs.log2 ≤ 1048576 := by
  unfold Builtin.Int.intBits at h
  split at h
  · rename_i hz
    have : z = 0 := by simpa using hz
    subst this
    decide
  · omega
end Pu
namespace Pu
open PySem PySem.Spec PyProof.Rows L2
theorem isi_int_int (n : Int) : dIsi "int" (.int n) = some (.bool true) := by
  have h : kitB "int" "int" = some true := by decide +kernel
  show (if ("int" : String) = "" then none else (kitB "int" "int").map PyData.bool) = _
  rw [if_neg (by decide), h]; rfl
theorem isi_bool_int (n : Int) : dIsi "bool" (.int n) = some (.bool false) := by
  have h : kitB "int" "bool" = some false := by decide +kernel
  show (if ("int" : String) = "" then none else (kitB "int" "bool").map PyData.bool) = _
  rw [if_neg (by decide), h]; rfl
theorem isi_list_list (n : List D) : dIsi "list" (.list n) = some (.bool true) := by
  have h : kitB "list" "list" = some true := by decide +kernel
  show (if ("list" : String) = "" then none else (kitB "list" "list").map PyData.bool) = _
  rw [if_neg (by decide), h]; rfl
theorem isi_tuple_tuple (n : List D) : dIsi "tuple" (.tuple n) = some (.bool true) := by
  have h : kitB "tuple" "tuple" = some true := by decide +kernel
  show (if ("tuple" : String) = "" then none else (kitB "tuple" "tuple").map PyData.bool) = _
  rw [if_neg (by decide), h]; rfl
theorem isi_bool_bool (n : Bool) : dIsi "bool" (.bool n) = some (.bool true) := by
  have h : kitB "bool" "bool" = some true := by decide +kernel
  show (if ("bool" : String) = "" then none else (kitB "bool" "bool").map PyData.bool) = _
  rw [if_neg (by decide), h]; rfl
theorem isi_str_str (n : Str) : dIsi "str" (.str n) = some (.bool true) := by
  have h : kitB "str" "str" = some true := by decide +kernel
  show (if ("str" : String) = "" then none else (kitB "str" "str").map PyData.bool) = _
  rw [if_neg (by decide), h]; rfl
theorem isi_str_int (n : Int) : dIsi "str" (.int n) = some (.bool false) := by
  have h : kitB "int" "str" = some false := by decide +kernel
  show (if ("int" : String) = "" then none else (kitB "int" "str").map PyData.bool) = _
  rw [if_neg (by decide), h]; rfl
/-! == of scalars -/
theorem dEq_int (a b : Int) : dEq (.int a) (.int b) = some (.bool (decide (a = b))) := by
  unfold dEq
  rw [if_pos ⟨rfl, rfl⟩]; rfl
theorem dNe_int (a b : Int) : dNe (.int a) (.int b) = some (.bool (!decide (a = b))) := by
  unfold dNe
  rw [if_pos ⟨rfl, rfl⟩]; rfl
theorem dEq_bool (a b : Bool) : dEq (.bool a) (.bool b) = some (.bool (a == b)) := by
  unfold dEq
  rw [if_pos ⟨rfl, rfl⟩]; rfl
theorem dNe_bool (a b : Bool) : dNe (.bool a) (.bool b) = some (.bool (!(a == b))) := by
  unfold dNe
  rw [if_pos ⟨rfl, rfl⟩]; rfl
end Pu
namespace Pu
open PySem PySem.Spec PyProof.Rows L2
/-! ### the equations by which a reading is reckoned; what waits for a value is kept closed -/
section
variable {R R1 R2 : En → Option Out} {ρ ρ' : En} {d : D} {b : D → En → Option En} {ds : List D} {g ga gb gk : En → Option D} {gu : En → Option Rs} {gs : En → Option (List D)} {c ca cb : En → Option Bool}
def sq (R : En → Option Out) : Out → Option Out := fun o => match o with
  | .nx ρ' => R ρ'
  | o => some o
theorem e_seq : rSeq R1 R2 ρ = (R1 ρ).bind (sq R2) := rfl
theorem e_sq_nx : sq R (.nx ρ) = R ρ := rfl
theorem e_sq_rt : sq R (.rt d) = some (.rt d) := rfl
theorem e_sq_bk : sq R (.bk ρ) = some (.bk ρ) := rfl
theorem e_sq_ct : sq R (.ct ρ) = some (.ct ρ) := rfl
def iff (R1 R2 : En → Option Out) (ρ : En) : Bool → Option Out := fun b => if b = true then R1 ρ else R2 ρ
theorem e_if : rIf c R1 R2 ρ = (c ρ).bind (iff R1 R2 ρ) := rfl
theorem e_iff_t : iff R1 R2 ρ true = R1 ρ := rfl
theorem e_iff_f : iff R1 R2 ρ false = R2 ρ := rfl
theorem e_iff_d (p : Prop) [Decidable p] : iff R1 R2 ρ (decide p) = if p then R1 ρ else R2 ρ := by unfold iff; simp
theorem e_iff_nd (p : Prop) [Decidable p] : iff R1 R2 ρ (!decide p) = if p then R2 ρ else R1 ρ := by unfold iff; by_cases h : p <;> simp [h]
theorem e_next : rNext ρ = some (.nx ρ) := rfl
def en1 (i : Nat) (ρ : En) : D → Out := fun d => .nx (ρ.set i (.val d))
theorem e_set {i : Nat} : rSet i g ρ = (g ρ).map (en1 i ρ) := rfl
theorem e_en1 {i : Nat} : en1 i ρ d = .nx (ρ.set i (.val d)) := rfl
def on1 (i : Nat) (ρ : En) : Rs → Option Out := fun r => match r with
  | .new ds => some (.nx (ρ.set i (.own ds)))
  | .val d => some (.nx (ρ.set i (.val d)))
  | .view _ => none
theorem e_own {i : Nat} : rOwn i gu ρ = (gu ρ).bind (on1 i ρ) := rfl
theorem e_on_new {i : Nat} : on1 i ρ (.new ds) = some (.nx (ρ.set i (.own ds))) := rfl
theorem e_on_val {i : Nat} : on1 i ρ (.val d) = some (.nx (ρ.set i (.val d))) := rfl
theorem e_ret : rRet g ρ = (g ρ).map .rt := rfl
def run1 : Out → Option D := fun o => match o with
  | .rt d => some d
  | .nx _ => some .none
  | _ => none
theorem e_run {n : Nat} : runDef n R ds = (R (start0 n ds)).bind run1 := rfl
theorem e_run_rt : run1 (.rt d) = some d := rfl
theorem e_run_nx : run1 (.nx ρ) = some .none := rfl
def b2b (f : D → D → Option D) (x : Option D) : D → Option D := fun a => x.bind (f a)
theorem e_b2 {f : D → D → Option D} : b2 f ga gb ρ = (ga ρ).bind (b2b f (gb ρ)) := rfl
theorem e_b2b {f : D → D → Option D} {a y : D} : b2b f (some y) a = f a y := rfl
theorem e_b1 {f : D → Option D} : b1 f ga ρ = (ga ρ).bind f := rfl
theorem e_gv : gv gu ρ = (gu ρ).bind fz := rfl
theorem e_fz_val : fz (.val d) = some d := rfl
theorem e_fz_new : fz (.new ds) = some (.list ds) := rfl
theorem e_gr : gr g ρ = (g ρ).map .val := rfl
theorem e_gw : gw gu ρ = (gu ρ).map vw := rfl
theorem e_vw_val : vw (.val d) = d := rfl
theorem e_vw_new : vw (.new ds) = .list ds := rfl
theorem e_vw_view : vw (.view ds) = .list ds := rfl
theorem e_gR1 {f : Rs → Option Rs} : gR1 f gu ρ = (gu ρ).bind f := rfl
def and1 (x : Option D) : D → Option D := fun d => match d with
  | .bool true => x
  | .bool false => some (.bool false)
  | _ => none
theorem e_and : gAnd ga gb ρ = (ga ρ).bind (and1 (gb ρ)) := by
  unfold gAnd
  cases ga ρ with
  | none => rfl
  | some d => cases d <;> first | rfl | (rename_i k; cases k <;> rfl)
theorem e_and_t {x : Option D} : and1 x (.bool true) = x := rfl
theorem e_and_f {x : Option D} : and1 x (.bool false) = some (.bool false) := rfl
theorem e_and_d {p : Prop} [Decidable p] {x : Option D} : and1 x (.bool (decide p)) = if p then x else some (.bool false) := by by_cases h : p <;> simp [h, and1]
def or1 (x : Option D) : D → Option D := fun d => match d with
  | .bool true => some (.bool true)
  | .bool false => x
  | _ => none
theorem e_or : gOr ga gb ρ = (ga ρ).bind (or1 (gb ρ)) := by
  unfold gOr
  cases ga ρ with
  | none => rfl
  | some d => cases d <;> first | rfl | (rename_i k; cases k <;> rfl)
theorem e_or_t {x : Option D} : or1 x (.bool true) = some (.bool true) := rfl
theorem e_or_f {x : Option D} : or1 x (.bool false) = x := rfl
theorem e_or_d {p : Prop} [Decidable p] {x : Option D} : or1 x (.bool (decide p)) = if p then some (.bool true) else x := by by_cases h : p <;> simp [h, or1]
def if1 (x y : Option D) : Bool → Option D := fun c => if c = true then x else y
theorem e_gIf : gIf c ga gb ρ = (c ρ).bind (if1 (ga ρ) (gb ρ)) := rfl
theorem e_if1_t {x y : Option D} : if1 x y true = x := rfl
theorem e_if1_f {x y : Option D} : if1 x y false = y := rfl
theorem e_if1_d {p : Prop} [Decidable p] {x y : Option D} : if1 x y (decide p) = if p then x else y := by unfold if1; simp
theorem e_gTru : gTru g ρ = (g ρ).bind dTru := rfl
theorem e_tB : Pu.tB g ρ = (g ρ).bind gB := rfl
theorem e_gB {k : Bool} : gB (.bool k) = some k := rfl
def ta1 (x : Option Bool) : Bool → Option Bool := fun c => if c = true then x else some false
def to1 (x : Option Bool) : Bool → Option Bool := fun c => if c = true then some true else x
theorem e_tAnd : tAnd2 ca cb ρ = (ca ρ).bind (ta1 (cb ρ)) := rfl
theorem e_tOr : tOr2 ca cb ρ = (ca ρ).bind (to1 (cb ρ)) := rfl
theorem e_ta_t {x : Option Bool} : ta1 x true = x := rfl
theorem e_ta_f {x : Option Bool} : ta1 x false = some false := rfl
theorem e_to_t {x : Option Bool} : to1 x true = some true := rfl
theorem e_to_f {x : Option Bool} : to1 x false = x := rfl
theorem e_ta {x k : Bool} : ta1 (some x) k = some (k && x) := by cases k <;> rfl
theorem e_to {x k : Bool} : to1 (some x) k = some (k || x) := by cases k <;> rfl
theorem e_tNot : tNot2 c ρ = (c ρ).map (!·) := rfl
def ix1 (x : Option D) : Rs → Option D := fun r => x.bind (dIx r)
theorem e_ix : gIx gu g ρ = (gu ρ).bind (ix1 (g ρ)) := rfl
theorem e_ix1 {y : D} {r : Rs} : ix1 (some y) r = dIx r y := rfl
theorem e_aNil : aNil ρ = some [] := rfl
def ac1 (x : Option (List D)) : D → Option (List D) := fun d => x.bind fun ds => some (d :: ds)
theorem e_aCons : aCons g gs ρ = (g ρ).bind (ac1 (gs ρ)) := rfl
theorem e_ac1 : ac1 (some ds) d = some (d :: ds) := rfl
theorem e_tup : gTup2 gs ρ = (gs ρ).bind fun ds => if ds.length ≤ sizeLine then some (.tuple ds) else none := rfl
def tu1 : List D → Option D := fun ds => if ds.length ≤ sizeLine then some (.tuple ds) else none
def ls1 : List D → Option Rs := fun ds => if ds.length ≤ sizeLine then some (.new ds) else none
theorem e_gTup : gTup2 gs ρ = (gs ρ).bind tu1 := rfl
theorem e_gLst : gLst2 gs ρ = (gs ρ).bind ls1 := rfl
theorem small_line {n : Nat} (h : n ≤ 1000) : n ≤ sizeLine := Nat.le_trans h (by decide)
theorem e_tu2 {x y : D} : tu1 [x, y] = some (.tuple [x, y]) := if_pos (small_line (by decide : 2 ≤ 1000))
theorem e_tu1 {x : D} : tu1 [x] = some (.tuple [x]) := if_pos (small_line (by decide : 1 ≤ 1000))
theorem e_tu3 {x y z : D} : tu1 [x, y, z] = some (.tuple [x, y, z]) := if_pos (small_line (by decide : 3 ≤ 1000))
theorem e_tu4 {x y z u : D} : tu1 [x, y, z, u] = some (.tuple [x, y, z, u]) := if_pos (small_line (by decide : 4 ≤ 1000))
theorem e_ls0 : ls1 [] = some (.new []) := if_pos (small_line (by decide : 0 ≤ 1000))
theorem e_ls (h : ds.length ≤ 1000) : ls1 ds = some (.new ds) := if_pos (small_line h)
def cl1 (n : Nat) (φ : List D → Option D) : List D → Option D := fun ds => if ds.length = n then φ ds else none
theorem e_call {n : Nat} {φ : List D → Option D} : gCall n φ gs ρ = (gs ρ).bind (cl1 n φ) := rfl
theorem e_cl1 {φ : List D → Option D} {x : D} : cl1 1 φ [x] = φ [x] := rfl
theorem e_cl2 {φ : List D → Option D} {x y : D} : cl1 2 φ [x, y] = φ [x, y] := rfl
theorem e_cl3 {φ : List D → Option D} {x y z : D} : cl1 3 φ [x, y, z] = φ [x, y, z] := rfl
theorem e_cl4 {φ : List D → Option D} {x y z u : D} : cl1 4 φ [x, y, z, u] = φ [x, y, z, u] := rfl
theorem e_gFn {f : List D → Option D} : gFn f gs ρ = (gs ρ).bind f := rfl
def is1 (T : String) : Rs → Option D := fun r => dIsi T (vw r)
theorem e_isi {T : String} : gIsi T gu ρ = (gu ρ).bind (is1 T) := rfl
theorem e_is1 {T : String} {r : Rs} : is1 T r = dIsi T (vw r) := rfl
theorem e_vVar {i : Nat} : vVar i ρ = match ρ[i]? with
  | some (.val d) => some d
  | _ => none := rfl
theorem e_rVar {i : Nat} : rVar i ρ = match ρ[i]? with
  | some (.val d) => some (.val d)
  | some (.own ds) => some (.view ds)
  | _ => none := rfl
theorem e_wVar {i : Nat} : wVar i ρ = match ρ[i]? with
  | some (.val d) => some d
  | some (.own ds) => some (.list ds)
  | _ => none := rfl
theorem e_ownAt {i : Nat} : ownAt i ρ = match ρ[i]? with
  | some (.own ds) => some ds
  | _ => none := rfl
theorem e_frz {i : Nat} : frz i ρ = match ρ[i]? with
  | some (.own ds) => ρ.set i (.val (.list ds))
  | _ => ρ := rfl
theorem e_vC : vC d ρ = some d := rfl
theorem e_add {x y : Int} : dAdd (.int x) (.int y) = some (.int (x + y)) := rfl
theorem e_sub {x y : Int} : dSub (.int x) (.int y) = some (.int (x - y)) := rfl
theorem e_mul {x y : Int} : dMul (.int x) (.int y) = if mulOk x y = true then some (.int (x * y)) else none := rfl
theorem e_fdiv {x y : Int} : dFdiv (.int x) (.int y) = if divOk y = true then some (.int (x.fdiv y)) else none := rfl
theorem e_mod {x y : Int} : dMod (.int x) (.int y) = if y ≠ 0 then some (.int (x.fmod y)) else none := rfl
theorem e_pow {x y : Int} : dPow (.int x) (.int y) = if 0 ≤ y ∧ y ≤ 1000000 ∧ x.natAbs < 2 ^ 64 then some (.int (x ^ y.toNat)) else none := rfl
theorem e_neg {x : Int} : dNeg (.int x) = some (.int (-x)) := rfl
theorem e_not {x : Bool} : dNot (.bool x) = some (.bool (!x)) := rfl
theorem e_lt {x y : Int} : dLt (.int x) (.int y) = some (.bool (decide (x < y))) := rfl
theorem e_le {x y : Int} : dLe (.int x) (.int y) = some (.bool (decide (x ≤ y))) := rfl
theorem e_gt {x y : Int} : dGt (.int x) (.int y) = some (.bool (decide (y < x))) := rfl
theorem e_ge {x y : Int} : dGe (.int x) (.int y) = some (.bool (decide (y ≤ x))) := rfl
theorem e_tru_b {x : Bool} : dTru (.bool x) = some x := rfl
theorem e_tru_i {x : Int} : dTru (.int x) = some (x != 0) := rfl
theorem e_tru_l : dTru (.list ds) = some (!ds.isEmpty) := rfl
theorem e_tru_t : dTru (.tuple ds) = some (!ds.isEmpty) := rfl
theorem e_len_v : dLen (.val (.list ds)) = some (.val (.int ds.length)) := rfl
theorem e_len_t : dLen (.val (.tuple ds)) = some (.val (.int ds.length)) := rfl
theorem e_len_w : dLen (.view ds) = some (.val (.int ds.length)) := rfl
theorem e_len_n : dLen (.new ds) = some (.val (.int ds.length)) := rfl
theorem e_len_s : dLen (.val (scrD ds)) = some (.val (.int ds.length)) := rfl
theorem e_int_i {x : Int} : dInt (.val (.int x)) = some (.val (.int x)) := rfl
theorem e_abs {x : Int} : dAbs (.val (.int x)) = some (.val (.int (if x < 0 then -x else x))) := rfl
theorem e_max {x y : Int} : dMax2 [.int x, .int y] = some (.int (if y > x then y else x)) := rfl
theorem e_min {x y : Int} : dMin2 [.int x, .int y] = some (.int (if y < x then y else x)) := rfl
theorem e_ix_l {i : Int} : dIx (.val (.list ds)) (.int i) = atI ds i := rfl
theorem e_ix_w {i : Int} : dIx (.view ds) (.int i) = atI ds i := rfl
theorem e_ix_n {i : Int} : dIx (.new ds) (.int i) = atI ds i := rfl
theorem e_ix_t {i : Int} : dIx (.val (.tuple ds)) (.int i) = atI ds i := rfl
theorem e_ix_s {i : Int} : dIx (.val (scrD ds)) (.int i) = atI ds i := rfl
theorem e_at0 {α : Type} {x : α} {xs : List α} : atI (x :: xs) 0 = some x := atI_nat (j := 0) rfl
theorem e_at1 {α : Type} {x y : α} {xs : List α} : atI (x :: y :: xs) 1 = some y := atI_nat (j := 1) rfl
theorem e_at2 {α : Type} {x y z : α} {xs : List α} : atI (x :: y :: z :: xs) 2 = some z := atI_nat (j := 2) rfl
theorem e_at3 {α : Type} {x y z u : α} {xs : List α} : atI (x :: y :: z :: u :: xs) 3 = some u := atI_nat (j := 3) rfl
theorem e_items {gg : En → Option D} : gItems2 gg ρ = (gg ρ).bind fun d => match d with
    | .list ds => some ds
    | .tuple ds => some ds
    | .dict [(.list ds, .none)] => some ds
    | _ => none := rfl
def it1 : D → Option (List D) := fun d => match d with
    | .list ds => some ds
    | .tuple ds => some ds
    | .dict [(.list ds, .none)] => some ds
    | _ => none
theorem e_gItems {gg : En → Option D} : gItems2 gg ρ = (gg ρ).bind it1 := rfl
theorem e_it_l : it1 (.list ds) = some ds := rfl
theorem e_it_t : it1 (.tuple ds) = some ds := rfl
theorem e_it_s : it1 (scrD ds) = some ds := rfl
theorem e_for {gi : En → Option (List D)} : rFor gi b R ρ = (gi ρ).bind fun ds => forL b R ds ρ := rfl
def fo1 (b : D → En → Option En) (R : En → Option Out) (ρ : En) : List D → Option Out := fun ds => forL b R ds ρ
theorem e_rFor {gi : En → Option (List D)} : rFor gi b R ρ = (gi ρ).bind (fo1 b R ρ) := rfl
theorem e_fo1 : fo1 b R ρ ds = forL b R ds ρ := rfl
def fl2 (b : D → En → Option En) (R : En → Option Out) (ds : List D) : Out → Option Out := fun o => match o with
    | .nx ρ2 => forL b R ds ρ2
    | .ct ρ2 => forL b R ds ρ2
    | .bk ρ2 => some (.nx ρ2)
    | .rt d => some (.rt d)
def fl1 (b : D → En → Option En) (R : En → Option Out) (ds : List D) : En → Option Out := fun ρ1 => (R ρ1).bind (fl2 b R ds)
theorem e_fl_nil : forL b R [] ρ = some (.nx ρ) := rfl
theorem e_fl_cons : forL b R (d :: ds) ρ = (b d ρ).bind (fl1 b R ds) := rfl
theorem e_fl1 : fl1 b R ds ρ = (R ρ).bind (fl2 b R ds) := rfl
theorem e_fl2_nx : fl2 b R ds (.nx ρ) = forL b R ds ρ := rfl
theorem e_fl2_ct : fl2 b R ds (.ct ρ) = forL b R ds ρ := rfl
theorem e_fl2_bk : fl2 b R ds (.bk ρ) = some (.nx ρ) := rfl
theorem e_fl2_rt : fl2 b R ds (.rt d) = some (.rt d) := rfl
theorem e_bName {i : Nat} : bName i d ρ = some (ρ.set i (.val d)) := rfl
theorem e_bTup {n : Nat} {bs : List D → En → Option En} : bTup n bs (.tuple ds) ρ = if ds.length = n then bs ds ρ else none := rfl
theorem e_bNil : bNil [] ρ = some ρ := rfl
theorem e_bCons {bs : List D → En → Option En} : bCons b bs (d :: ds) ρ = (b d ρ).bind (bs ds) := rfl
theorem e_asg : rAsg b g ρ = (g ρ).bind fun d => (b d ρ).map .nx := rfl
def as1 (b : D → En → Option En) (ρ : En) : D → Option Out := fun d => (b d ρ).map .nx
theorem e_rAsg : rAsg b g ρ = (g ρ).bind (as1 b ρ) := rfl
theorem e_as1 : as1 b ρ d = (b d ρ).map .nx := rfl
def ap1 (i : Nat) (ρ : En) (x : Option D) : List D → Option Out := fun ds => x.bind fun d => if ds.length < sizeLine then some (.nx (ρ.set i (.own (ds ++ [d])))) else none
theorem e_app {i : Nat} : rApp i g ρ = (ownAt i ρ).bind (ap1 i ρ (g ρ)) := rfl
theorem e_ap1 {i : Nat} : ap1 i ρ (some d) ds = if ds.length < sizeLine then some (.nx (ρ.set i (.own (ds ++ [d])))) else none := rfl
def pu1 (i : Nat) (ρ : En) (x k : Option D) : List D → Option Out := fun ds => x.bind fun d => k.bind fun k => (asInt k).bind fun k => (ixN ds.length k).map fun j => .nx (ρ.set i (.own (ds.set j d)))
theorem e_put {i : Nat} : rPut i gk g ρ = (ownAt i ρ).bind (pu1 i ρ (g ρ) (gk ρ)) := rfl
theorem e_pu1 {i : Nat} {k : Int} : pu1 i ρ (some d) (some (.int k)) ds = (ixN ds.length k).map fun j => .nx (ρ.set i (.own (ds.set j d))) := rfl
def po1 (i : Nat) (ρ : En) : List D → Option Out := fun ds => if ds = [] then none else some (.nx (ρ.set i (.own ds.dropLast)))
theorem e_pop {i : Nat} : rPopL i ρ = (ownAt i ρ).bind (po1 i ρ) := rfl
def au1 (i : Nat) (ρ : En) (f : D → D → Option D) (x : Option D) : D → Option Out := fun a => x.bind fun b => (f a b).map fun d => .nx (ρ.set i (.val d))
theorem e_aug {i : Nat} {f : D → D → Option D} : rAug i f g ρ = (vVar i ρ).bind (au1 i ρ f (g ρ)) := rfl
theorem e_au1 {i : Nat} {f : D → D → Option D} {x y : D} : au1 i ρ f (some y) x = (f x y).map fun d => .nx (ρ.set i (.val d)) := rfl
theorem e_iadd {x y : Int} : dIAdd (.int x) (.int y) = some (.int (x + y)) := rfl
theorem e_isub {x y : Int} : dISub (.int x) (.int y) = some (.int (x - y)) := rfl
def ra1 : List D → Option (List D) := fun ds => match ds with
  | [.int n] => if -(2 ^ 62) ≤ n ∧ n < 2 ^ 62 then some (rangeD 0 n.toNat 1) else none
  | _ => none
theorem e_range1 : gRange1 gs ρ = (gs ρ).bind ra1 := rfl
theorem e_ra1 {n : Int} : ra1 [.int n] = if -(2 ^ 62) ≤ n ∧ n < 2 ^ 62 then some (rangeD 0 n.toNat 1) else none := rfl
theorem e_start {n : Nat} : start0 n ds = ds.map .val ++ List.replicate (n - ds.length) .un := rfl
end
end Pu
namespace Pu
open PySem PySem.Spec PyProof.Rows L2
theorem e_p18 : dPow (.int 10) (.int 18) = some (.int 1000000000000000000) := by
  rw [e_pow, if_pos (by decide)]; rfl
theorem e_p6 : dPow (.int 10) (.int 6) = some (.int 1000000) := by
  rw [e_pow, if_pos (by decide)]; rfl
theorem e_p24 : dPow (.int 10) (.int 24) = some (.int 1000000000000000000000000) := by
  rw [e_pow, if_pos (by decide)]; rfl
theorem e_mul_l {x y : Int} (h : x.natAbs < 18446744073709551616) : dMul (.int x) (.int y) = some (.int (x * y)) := by
  rw [e_mul, if_pos (mul_small_l h)]
theorem e_mul_r {x y : Int} (h : y.natAbs < 18446744073709551616) : dMul (.int x) (.int y) = some (.int (x * y)) := by
  rw [e_mul, if_pos (mul_small_r h)]
theorem e_mod_p {x y : Int} (h : 0 < y) : dMod (.int x) (.int y) = some (.int (x % y)) := by
  rw [e_mod, if_pos (by omega), fmod_pos _ h]
theorem e_fdiv_p {x y : Int} (h : 0 < y) (h2 : y < 18446744073709551616) : dFdiv (.int x) (.int y) = some (.int (x / y)) := by
  have h3 : y.natAbs < 2 ^ 64 := by omega
  have h4 : y ≠ 0 := by omega
  rw [e_fdiv, if_pos (div_ok h4 (Nat.lt_of_lt_of_le h3 (Nat.pow_le_pow_right (by decide) (by decide)))), fdiv_pos _ h]
theorem e_decT {p : Prop} [Decidable p] (h : p) : decide p = true := by simp [h]
theorem e_decF {p : Prop} [Decidable p] (h : ¬ p) : decide p = false := by simp [h]
theorem d_not (p : Prop) [Decidable p] : (!decide p) = decide (¬ p) := by simp
end Pu
namespace Pu
open PySem PySem.Spec PyProof.Rows L2
theorem e_mul_h {x y : Int} (h : mulOk x y = true) : dMul (.int x) (.int y) = some (.int (x * y)) := by
  rw [e_mul, if_pos h]
section
variable {x1 x2 x3 x4 x5 x6 : D}
theorem e_ls1 : ls1 [x1] = some (.new [x1]) := if_pos (small_line (by decide : 1 ≤ 1000))
theorem e_ls2 : ls1 [x1, x2] = some (.new [x1, x2]) := if_pos (small_line (by decide : 2 ≤ 1000))
theorem e_ls3 : ls1 [x1, x2, x3] = some (.new [x1, x2, x3]) := if_pos (small_line (by decide : 3 ≤ 1000))
theorem e_ls4 : ls1 [x1, x2, x3, x4] = some (.new [x1, x2, x3, x4]) := if_pos (small_line (by decide : 4 ≤ 1000))
theorem e_ls5 : ls1 [x1, x2, x3, x4, x5] = some (.new [x1, x2, x3, x4, x5]) := if_pos (small_line (by decide : 5 ≤ 1000))
theorem e_ls6 : ls1 [x1, x2, x3, x4, x5, x6] = some (.new [x1, x2, x3, x4, x5, x6]) := if_pos (small_line (by decide : 6 ≤ 1000))
end
end Pu

namespace G
open PySem PySem.Spec PyProof.Rows L2 Pu
def top (i : Nat) : Stmt := PySem.Challenge.pw_pastamended_k01_wrap.main.body.getD i (.Pass ⟨0, 0, 0, 0⟩)
abbrev s_wrap : Stmt := top 2
abbrev n_wrap : List Str := ["n"]
theorem sc_wrap : FnScope n_wrap ["n"] (defScope s_wrap) := ⟨rfl, rfl, rfl, by decide +kernel, rfl, by decide +kernel, by decide +kernel⟩
abbrev s__law_is_integer : Stmt := top 4
abbrev n__law_is_integer : List Str := ["actual"]
theorem sc__law_is_integer : FnScope n__law_is_integer ["actual"] (defScope s__law_is_integer) := ⟨rfl, rfl, rfl, by decide +kernel, rfl, by decide +kernel, by decide +kernel⟩
abbrev s__law_cell : Stmt := top 5
abbrev n__law_cell : List Str := ["script", "k"]
theorem sc__law_cell : FnScope n__law_cell ["script", "k"] (defScope s__law_cell) := ⟨rfl, rfl, rfl, by decide +kernel, rfl, by decide +kernel, by decide +kernel⟩
abbrev s__law_fits : Stmt := top 6
abbrev n__law_fits : List Str := ["n", "actual"]
theorem sc__law_fits : FnScope n__law_fits ["n"] (defScope s__law_fits) := ⟨rfl, rfl, rfl, by decide +kernel, rfl, by decide +kernel, by decide +kernel⟩
abbrev s_law : Stmt := top 7
abbrev n_law : List Str := ["script", "first", "second", "n"]
theorem sc_law : FnScope n_law ["script"] (defScope s_law) := ⟨rfl, rfl, rfl, by decide +kernel, rfl, by decide +kernel, by decide +kernel⟩
abbrev k_MOST : D := (.int 1000000000000000000)
def R_wrap : En → Option Out :=
  (rRet (b2 dSub (b2 dMod (b2 dAdd (vVar 0) (vC k_MOST)) (b2 dAdd (b2 dMul (vC (.int 2)) (vC k_MOST)) (vC (.int 1)))) (vC k_MOST)))
def φ_wrap : List D → Option D := runDef 1 R_wrap
def R__law_is_integer : En → Option Out :=
  (rRet (gAnd (gIsi "int" (rVar 0)) (b1 dNot (gIsi "bool" (rVar 0)))))
def φ__law_is_integer : List D → Option D := runDef 1 R__law_is_integer
def R__law_cell : En → Option Out :=
  (rSeq (rIf (tB (b2 dLt (vVar 1) (gv (gR1 dLen (rVar 0))))) (rRet (gIx (rVar 0) (vVar 1))) rNext)
  (rRet (vC (.int 0))))
def φ__law_cell : List D → Option D := runDef 2 R__law_cell
def R__law_fits : En → Option Out :=
  (rSeq (rSet 1 (gCall 1 φ_wrap (aCons (vVar 0) aNil)))
  (rSeq (rIf (tOr2 (tNot2 (gTru (gCall 1 φ__law_is_integer (aCons (vVar 1) aNil)))) (tOr2 (tB (b2 dLt (vVar 1) (b1 dNeg (b2 dPow (vC (.int 10)) (vC (.int 18)))))) (tB (b2 dGt (vVar 1) (b2 dPow (vC (.int 10)) (vC (.int 18))))))) (rRet (vC (.bool false))) rNext)
  (rRet (b2 dEq (b2 dMod (gv (gR1 dInt (gr (b2 dSub (vVar 0) (vVar 1))))) (b2 dAdd (b2 dMul (vC (.int 2)) (b2 dPow (vC (.int 10)) (vC (.int 18)))) (vC (.int 1)))) (vC (.int 0))))))
def φ__law_fits : List D → Option D := runDef 2 R__law_fits
def R_law : En → Option Out :=
  (rSeq (rSet 1 (gCall 2 φ__law_cell (aCons (vVar 0) (aCons (vC (.int 0)) aNil))))
  (rSeq (rSet 2 (gCall 2 φ__law_cell (aCons (vVar 0) (aCons (vC (.int 1)) aNil))))
  (rSeq (rIf (tB (b2 dEq (b2 dMod (gCall 2 φ__law_cell (aCons (vVar 0) (aCons (vC (.int 2)) aNil))) (vC (.int 3))) (vC (.int 1)))) (rSet 1 (b2 dSub (b2 dAdd (b2 dPow (vC (.int 10)) (vC (.int 18))) (b2 dMod (vVar 1) (vC (.int 5)))) (vC (.int 2)))) rNext)
  (rSeq (rIf (tB (b2 dEq (b2 dMod (b2 dFdiv (gCall 2 φ__law_cell (aCons (vVar 0) (aCons (vC (.int 2)) aNil))) (vC (.int 3))) (vC (.int 3))) (vC (.int 1)))) (rSet 2 (b2 dSub (b2 dAdd (b1 dNeg (b2 dPow (vC (.int 10)) (vC (.int 18)))) (b2 dMod (vVar 2) (vC (.int 5)))) (vC (.int 2)))) rNext)
  (rSeq (rFor (gItems2 (gv (gLst2 (aCons (vVar 1) (aCons (vVar 2) (aCons (b2 dAdd (vVar 1) (vVar 2)) (aCons (b2 dSub (vVar 1) (vVar 2)) (aCons (b2 dMul (vVar 1) (vVar 2)) aNil)))))))) (bName 3) (rIf (tNot2 (gTru (gCall 1 φ__law_fits (aCons (vVar 3) aNil)))) (rRet (vC (.bool false))) rNext))
  (rSeq (rIf (tB (b2 dNe (gCall 1 φ_wrap (aCons (b2 dAdd (gCall 1 φ_wrap (aCons (vVar 1) aNil)) (gCall 1 φ_wrap (aCons (vVar 2) aNil))) aNil)) (gCall 1 φ_wrap (aCons (b2 dAdd (vVar 1) (vVar 2)) aNil)))) (rRet (vC (.bool false))) rNext)
  (rSeq (rIf (tB (b2 dNe (gCall 1 φ_wrap (aCons (b2 dSub (gCall 1 φ_wrap (aCons (vVar 1) aNil)) (gCall 1 φ_wrap (aCons (vVar 2) aNil))) aNil)) (gCall 1 φ_wrap (aCons (b2 dSub (vVar 1) (vVar 2)) aNil)))) (rRet (vC (.bool false))) rNext)
  (rRet (b2 dEq (gCall 1 φ_wrap (aCons (b2 dMul (gCall 1 φ_wrap (aCons (vVar 1) aNil)) (gCall 1 φ_wrap (aCons (vVar 2) aNil))) aNil)) (gCall 1 φ_wrap (aCons (b2 dMul (vVar 1) (vVar 2)) aNil)))))))))))
def φ_law : List D → Option D := runDef 4 R_law
section
variable {P : Program} {w : World} {K : PySem.W.Frag} {mg : Str → Option Value} {base : Heap}
theorem ok_wrap {f : Addr} {fd : FuncData} (F : Fun K "wrap" "wrap" s_wrap f fd) (gm : mg "wrap" = some (.ref f)) (c_MOST : Ck K mg "MOST" k_MOST) : Fk P w K mg base 1 "wrap" 1 φ_wrap := by
  refine ⟨f, fd, ["n"], fn_pu (R := R_wrap) (N := n_wrap) F sc_wrap (fun cdv A outer s H E hr => ?_), gm, F.kp, F.binds fun _ _ _ _ _ _ us hl => match us, hl with | [_], _ => rfl⟩
  exact (qss_one (qs_ret (pv_op or_sub (pv_op or_mod (pv_op or_add (pv_var (pv 0)) (pv_glob c_MOST (by rfl))) (pv_op or_add (pv_op or_mul (pv_c pe_int (fun _ => .int _)) (pv_glob c_MOST (by rfl))) (pv_c pe_int (fun _ => .int _)))) (pv_glob c_MOST (by rfl)))))
theorem ok__law_is_integer {f : Addr} {fd : FuncData} (F : Fun K "_law_is_integer" "_law_is_integer" s__law_is_integer f fd) (gm : mg "_law_is_integer" = some (.ref f)) (z_isinstance : mg "isinstance" = none) (z_int : mg "int" = none) (z_bool : mg "bool" = none) : Fk P w K mg base 1 "_law_is_integer" 1 φ__law_is_integer := by
  refine ⟨f, fd, ["actual"], fn_pu (R := R__law_is_integer) (N := n__law_is_integer) F sc__law_is_integer (fun cdv A outer s H E hr => ?_), gm, F.kp, F.binds fun _ _ _ _ _ _ us hl => match us, hl with | [_], _ => rfl⟩
  exact (qss_one (qs_ret (pv_and (pv_isi (T := "int") (by rfl) z_isinstance bt_isinstance (pu_var (pv 0)) (pe_bltn (by rfl) z_int bt_int rfl)) (pv_one (pv_not (pv_isi (T := "bool") (by rfl) z_isinstance bt_isinstance (pu_var (pv 0)) (pe_bltn (by rfl) z_bool bt_bool rfl)))))))
theorem ok__law_cell {f : Addr} {fd : FuncData} (F : Fun K "_law_cell" "_law_cell" s__law_cell f fd) (gm : mg "_law_cell" = some (.ref f)) (z_len : mg "len" = none) : Fk P w K mg base 1 "_law_cell" 2 φ__law_cell := by
  refine ⟨f, fd, ["script", "k"], fn_pu (R := R__law_cell) (N := n__law_cell) F sc__law_cell (fun cdv A outer s H E hr => ?_), gm, F.kp, F.binds fun _ _ _ _ _ _ us hl => match us, hl with | [_, _], _ => rfl⟩
  exact (qss_cons (qs_if (pt_cmp2 or_lt (pv_var (pv 1)) (pv_of (pu_call1 cl_len (by rfl) z_len bt_len (pu_var (pv 0)))) (nomark _)) (qss_one (qs_ret (pv_ix (pu_var (pv 0)) (pv_var (pv 1)) (fun _ _ => rfl)))) qss_nil)
      (qss_one (qs_ret (pv_c pe_int (fun _ => .int _)))))
theorem ok__law_fits {f : Addr} {fd : FuncData} (F : Fun K "_law_fits" "_law_fits" s__law_fits f fd) (gm : mg "_law_fits" = some (.ref f)) (z_int : mg "int" = none) (f_wrap : Fk P w K mg base 1 "wrap" 1 φ_wrap) (f__law_is_integer : Fk P w K mg base 1 "_law_is_integer" 1 φ__law_is_integer) : Fk P w K mg base 2 "_law_fits" 1 φ__law_fits := by
  refine ⟨f, fd, ["n"], fn_pu (R := R__law_fits) (N := n__law_fits) F sc__law_fits (fun cdv A outer s H E hr => ?_), gm, F.kp, F.binds fun _ _ _ _ _ _ us hl => match us, hl with | [_], _ => rfl⟩
  exact (qss_cons (qs_set (i := 1) sc__law_fits.nd rfl (by first | exact .inl rfl | exact .inr rfl) (pv_callF f_wrap hr (by decide) (by rfl) (qa_cons (pv_var (pv 0)) qa_nil)))
      (qss_cons (qs_if (qw_or (qt_not (pt_pw (pw_v (pv_callF f__law_is_integer hr (by decide) (by rfl) (qa_cons (pv_var (pv 1)) qa_nil))))) (qw_or (pt_cmp2 or_lt (pv_var (pv 1)) (pv_neg (pv_op or_pow (pv_c pe_int (fun _ => .int _)) (pv_c pe_int (fun _ => .int _)))) (nomark _)) (qw_or1 (pt_cmp2 or_gt (pv_var (pv 1)) (pv_op or_pow (pv_c pe_int (fun _ => .int _)) (pv_c pe_int (fun _ => .int _))) (nomark _))))).pt (qss_one (qs_ret (pv_c pe_bl (fun _ => .bl _)))) qss_nil)
      (qss_one (qs_ret (pv_eq hr.units (pw_v (pv_op or_mod (pv_of (pu_callT1 cl_int (by rfl) z_int bt_int (pu_of (pv_op or_sub (pv_var (pv 0)) (pv_var (pv 1)))))) (pv_op or_add (pv_op or_mul (pv_c pe_int (fun _ => .int _)) (pv_op or_pow (pv_c pe_int (fun _ => .int _)) (pv_c pe_int (fun _ => .int _)))) (pv_c pe_int (fun _ => .int _))))) (pw_v (pv_c pe_int (fun _ => .int _))))))))
theorem ok_law' {f : Addr} {fd : FuncData} (F : Fun K "law" "law" s_law f fd) (f__law_cell : Fk P w K mg base 1 "_law_cell" 2 φ__law_cell) (f__law_fits : Fk P w K mg base 2 "_law_fits" 1 φ__law_fits) (f_wrap : Fk P w K mg base 1 "wrap" 1 φ_wrap) : FnOk P w K mg base CX0 3 f fd ["script"] (spPu K 1 φ_law) :=
  fn_pu (R := R_law) (N := n_law) F sc_law fun cdv A outer s H E hr =>
  (qss_cons (qs_set (i := 1) sc_law.nd rfl (by first | exact .inl rfl | exact .inr rfl) (pv_callF f__law_cell hr (by decide) (by rfl) (qa_cons (pv_var (pv 0)) (qa_cons (pv_c pe_int (fun _ => .int _)) qa_nil))))
      (qss_cons (qs_set (i := 2) sc_law.nd rfl (by first | exact .inl rfl | exact .inr rfl) (pv_callF f__law_cell hr (by decide) (by rfl) (qa_cons (pv_var (pv 0)) (qa_cons (pv_c pe_int (fun _ => .int _)) qa_nil))))
      (qss_cons (qs_if (pt_eq hr.units (pw_v (pv_op or_mod (pv_callF f__law_cell hr (by decide) (by rfl) (qa_cons (pv_var (pv 0)) (qa_cons (pv_c pe_int (fun _ => .int _)) qa_nil))) (pv_c pe_int (fun _ => .int _)))) (pw_v (pv_c pe_int (fun _ => .int _)))) (qss_one (qs_set (i := 1) sc_law.nd rfl (by first | exact .inl rfl | exact .inr rfl) (pv_op or_sub (pv_op or_add (pv_op or_pow (pv_c pe_int (fun _ => .int _)) (pv_c pe_int (fun _ => .int _))) (pv_op or_mod (pv_var (pv 1)) (pv_c pe_int (fun _ => .int _)))) (pv_c pe_int (fun _ => .int _))))) qss_nil)
      (qss_cons (qs_if (pt_eq hr.units (pw_v (pv_op or_mod (pv_op or_fdiv (pv_callF f__law_cell hr (by decide) (by rfl) (qa_cons (pv_var (pv 0)) (qa_cons (pv_c pe_int (fun _ => .int _)) qa_nil))) (pv_c pe_int (fun _ => .int _))) (pv_c pe_int (fun _ => .int _)))) (pw_v (pv_c pe_int (fun _ => .int _)))) (qss_one (qs_set (i := 2) sc_law.nd rfl (by first | exact .inl rfl | exact .inr rfl) (pv_op or_sub (pv_op or_add (pv_neg (pv_op or_pow (pv_c pe_int (fun _ => .int _)) (pv_c pe_int (fun _ => .int _)))) (pv_op or_mod (pv_var (pv 2)) (pv_c pe_int (fun _ => .int _)))) (pv_c pe_int (fun _ => .int _))))) qss_nil)
      (qss_cons (qs_for PassesOwn.never rfl (qi_lt (pv_of (pu_lst (qa_cons (pv_var (pv 1)) (qa_cons (pv_var (pv 2)) (qa_cons (pv_op or_add (pv_var (pv 1)) (pv_var (pv 2))) (qa_cons (pv_op or_sub (pv_var (pv 1)) (pv_var (pv 2))) (qa_cons (pv_op or_mul (pv_var (pv 1)) (pv_var (pv 2))) qa_nil)))))))) (qg_name (i := 3) sc_law.nd rfl (by first | exact .inl rfl | exact .inr rfl)) (qss_one (qs_if (qt_not (pt_pw (pw_v (pv_callF f__law_fits hr (by decide) (by rfl) (qa_cons (pv_var (pv 3)) qa_nil))))) (qss_one (qs_ret (pv_c pe_bl (fun _ => .bl _)))) qss_nil)))
      (qss_cons (qs_if (pt_ne hr.units (pw_v (pv_callF f_wrap hr (by decide) (by rfl) (qa_cons (pv_op or_add (pv_callF f_wrap hr (by decide) (by rfl) (qa_cons (pv_var (pv 1)) qa_nil)) (pv_callF f_wrap hr (by decide) (by rfl) (qa_cons (pv_var (pv 2)) qa_nil))) qa_nil))) (pw_v (pv_callF f_wrap hr (by decide) (by rfl) (qa_cons (pv_op or_add (pv_var (pv 1)) (pv_var (pv 2))) qa_nil)))) (qss_one (qs_ret (pv_c pe_bl (fun _ => .bl _)))) qss_nil)
      (qss_cons (qs_if (pt_ne hr.units (pw_v (pv_callF f_wrap hr (by decide) (by rfl) (qa_cons (pv_op or_sub (pv_callF f_wrap hr (by decide) (by rfl) (qa_cons (pv_var (pv 1)) qa_nil)) (pv_callF f_wrap hr (by decide) (by rfl) (qa_cons (pv_var (pv 2)) qa_nil))) qa_nil))) (pw_v (pv_callF f_wrap hr (by decide) (by rfl) (qa_cons (pv_op or_sub (pv_var (pv 1)) (pv_var (pv 2))) qa_nil)))) (qss_one (qs_ret (pv_c pe_bl (fun _ => .bl _)))) qss_nil)
      (qss_one (qs_ret (pv_eq hr.units (pw_v (pv_callF f_wrap hr (by decide) (by rfl) (qa_cons (pv_op or_mul (pv_callF f_wrap hr (by decide) (by rfl) (qa_cons (pv_var (pv 1)) qa_nil)) (pv_callF f_wrap hr (by decide) (by rfl) (qa_cons (pv_var (pv 2)) qa_nil))) qa_nil))) (pw_v (pv_callF f_wrap hr (by decide) (by rfl) (qa_cons (pv_op or_mul (pv_var (pv 1)) (pv_var (pv 2))) qa_nil)))))))))))))
theorem all_mk {l : PySem.W.OpenLaw} {h : Heap} {fa g0 g1 g2 g3 g4 : Addr} (X : K.In h) (G : h.Ns mainGlobals mg) (hfa : mg "law" = some (.ref fa))
    {od0 an0 od1 an1 od2 an2 od3 an3 od4 an4 : Option Addr} {sl0 sl1 sl2 sl3 sl4 : Array (Option Value)} {oc0 kV0 dc0 pm0 cd0 ct0 oc1 kV1 dc1 pm1 cd1 ct1 oc2 kV2 dc2 pm2 cd2 ct2 oc3 kV3 dc3 pm3 cd3 ct3 oc4 kV4 dc4 pm4 cd4 ct4 : Value}
    (a0 : PySem.W.nsIn K mainGlobals "wrap" = some (some (.ref g0)))
    (l0 : K.lookup g0 = some ⟨oc0, od0, .func (PySem.W.fnOf "wrap" "wrap" (defArgs s_wrap) (defBody s_wrap) (defScope s_wrap) .none kV0 dc0 pm0 an0 cd0 ct0), sl0⟩)
    (e0 : PySem.W.codeIn K cd0 "wrap" = true) (k0 : PySem.W.keepIn K (.ref g0) = true)
    (a1 : PySem.W.nsIn K mainGlobals "_law_is_integer" = some (some (.ref g1)))
    (l1 : K.lookup g1 = some ⟨oc1, od1, .func (PySem.W.fnOf "_law_is_integer" "_law_is_integer" (defArgs s__law_is_integer) (defBody s__law_is_integer) (defScope s__law_is_integer) .none kV1 dc1 pm1 an1 cd1 ct1), sl1⟩)
    (e1 : PySem.W.codeIn K cd1 "_law_is_integer" = true) (k1 : PySem.W.keepIn K (.ref g1) = true)
    (a2 : PySem.W.nsIn K mainGlobals "_law_cell" = some (some (.ref g2)))
    (l2 : K.lookup g2 = some ⟨oc2, od2, .func (PySem.W.fnOf "_law_cell" "_law_cell" (defArgs s__law_cell) (defBody s__law_cell) (defScope s__law_cell) .none kV2 dc2 pm2 an2 cd2 ct2), sl2⟩)
    (e2 : PySem.W.codeIn K cd2 "_law_cell" = true) (k2 : PySem.W.keepIn K (.ref g2) = true)
    (a3 : PySem.W.nsIn K mainGlobals "_law_fits" = some (some (.ref g3)))
    (l3 : K.lookup g3 = some ⟨oc3, od3, .func (PySem.W.fnOf "_law_fits" "_law_fits" (defArgs s__law_fits) (defBody s__law_fits) (defScope s__law_fits) .none kV3 dc3 pm3 an3 cd3 ct3), sl3⟩)
    (e3 : PySem.W.codeIn K cd3 "_law_fits" = true) (k3 : PySem.W.keepIn K (.ref g3) = true)
    (a4 : PySem.W.nsIn K mainGlobals "law" = some (some (.ref g4)))
    (l4 : K.lookup g4 = some ⟨oc4, od4, .func (PySem.W.fnOf "law" "law" (defArgs s_law) (defBody s_law) (defScope s_law) .none kV4 dc4 pm4 an4 cd4 ct4), sl4⟩)
    (e4 : PySem.W.codeIn K cd4 "law" = true) (k4 : PySem.W.keepIn K (.ref g4) = true)
    (z0 : PySem.W.nsIn K mainGlobals "isinstance" = some none)
    (z1 : PySem.W.nsIn K mainGlobals "int" = some none)
    (z2 : PySem.W.nsIn K mainGlobals "bool" = some none)
    (z3 : PySem.W.nsIn K mainGlobals "len" = some none)
    (q0 : ∃ t, PySem.W.nsIn K mainGlobals "MOST" = some (some (.int 1000000000000000000 t))) :
    ∃ fd : FuncData, (∀ (s : Shared) (v : Value), BindsTo s fd ⟨[v], []⟩ [("script", v)]) ∧ ∀ base : Heap, K.In base → base.Ns mainGlobals mg → FnOk l.prog w K mg base CX0 3 fa fd ["script"] (spPu K 1 φ_law) := by
  have e := hfa.symm.trans (PySem.W.mg_of X G a4)
  cases e
  refine ⟨PySem.W.fnOf "law" "law" (defArgs s_law) (defBody s_law) (defScope s_law) .none kV4 dc4 pm4 an4 cd4 ct4, fun s v => .of_eq rfl, fun base _ _ => ?_⟩
  have h_wrap := ok_wrap (P := l.prog) (w := w) (base := base) (fun_mk (st := s_wrap) l0 e0 k0) (PySem.W.mg_of X G a0) (Ck.int (q0.imp fun t h => PySem.W.mg_of X G h))
  have h__law_is_integer := ok__law_is_integer (P := l.prog) (w := w) (base := base) (fun_mk (st := s__law_is_integer) l1 e1 k1) (PySem.W.mg_of X G a1) (PySem.W.mg_none_of X G z0) (PySem.W.mg_none_of X G z1) (PySem.W.mg_none_of X G z2)
  have h__law_cell := ok__law_cell (P := l.prog) (w := w) (base := base) (fun_mk (st := s__law_cell) l2 e2 k2) (PySem.W.mg_of X G a2) (PySem.W.mg_none_of X G z3)
  have h__law_fits := ok__law_fits (P := l.prog) (w := w) (base := base) (fun_mk (st := s__law_fits) l3 e3 k3) (PySem.W.mg_of X G a3) (PySem.W.mg_none_of X G z1) h_wrap h__law_is_integer
  have hl := ok_law' (P := l.prog) (w := w) (base := base) (fun_mk (st := s_law) l4 e4 k4) h__law_cell h__law_fits h_wrap
  exact hl
end
end G

namespace M
open PySem L2 Pu G
local macro_rules | `(tactic| walk_at "ev") => `(tactic| simp (disch := first | assumption | decide | omega) only [Pu.e_seq, Pu.e_sq_nx, Pu.e_sq_rt, Pu.e_sq_bk, Pu.e_sq_ct, Pu.e_if, Pu.e_iff_t, Pu.e_iff_f, Pu.e_iff_d, Pu.e_iff_nd, Pu.e_next, Pu.e_set, Pu.e_en1, Pu.e_own, Pu.e_on_new, Pu.e_on_val, Pu.e_ret, Pu.e_run, Pu.e_run_rt, Pu.e_run_nx, Pu.e_b2, Pu.e_b2b, Pu.e_b1, Pu.e_gv, Pu.e_fz_val, Pu.e_fz_new, Pu.e_gr, Pu.e_gw, Pu.e_vw_val, Pu.e_vw_new, Pu.e_vw_view, Pu.e_gR1, Pu.e_and, Pu.e_and_t, Pu.e_and_f, Pu.e_and_d, Pu.e_or, Pu.e_or_t, Pu.e_or_f, Pu.e_or_d, Pu.e_gIf, Pu.e_if1_t, Pu.e_if1_f, Pu.e_if1_d, Pu.e_gTru, Pu.e_tB, Pu.e_gB, Pu.e_tAnd, Pu.e_tOr, Pu.e_ta_t, Pu.e_ta_f, Pu.e_to_t, Pu.e_to_f, Pu.e_ta, Pu.e_to, Pu.e_tNot, Pu.e_ix, Pu.e_ix1, Pu.e_aNil, Pu.e_aCons, Pu.e_ac1, Pu.e_gTup, Pu.e_gLst, Pu.e_tu2, Pu.e_tu1, Pu.e_tu3, Pu.e_tu4, Pu.e_ls0, Pu.e_call, Pu.e_cl1, Pu.e_cl2, Pu.e_cl3, Pu.e_cl4, Pu.e_gFn, Pu.e_isi, Pu.e_is1, Pu.e_vVar, Pu.e_rVar, Pu.e_wVar, Pu.e_ownAt, Pu.e_frz, Pu.e_vC, Pu.e_add, Pu.e_sub, Pu.e_neg, Pu.e_not, Pu.e_lt, Pu.e_le, Pu.e_gt, Pu.e_ge, Pu.e_tru_b, Pu.e_tru_i, Pu.e_tru_l, Pu.e_tru_t, Pu.e_len_v, Pu.e_len_t, Pu.e_len_w, Pu.e_len_n, Pu.e_len_s, Pu.e_int_i, Pu.e_abs, Pu.e_max, Pu.e_min, Pu.e_ix_l, Pu.e_ix_w, Pu.e_ix_n, Pu.e_ix_t, Pu.e_ix_s, Pu.e_at0, Pu.e_at1, Pu.e_at2, Pu.e_at3, Pu.e_gItems, Pu.e_it_l, Pu.e_it_t, Pu.e_it_s, Pu.e_rFor, Pu.e_fo1, Pu.e_fl_nil, Pu.e_fl_cons, Pu.e_fl1, Pu.e_fl2_nx, Pu.e_fl2_ct, Pu.e_fl2_bk, Pu.e_fl2_rt, Pu.e_bName, Pu.e_bTup, Pu.e_bNil, Pu.e_bCons, Pu.e_rAsg, Pu.e_as1, Pu.e_app, Pu.e_ap1, Pu.e_put, Pu.e_pu1, Pu.e_pop, Pu.e_aug, Pu.e_au1, Pu.e_iadd, Pu.e_isub, Pu.e_range1, Pu.e_ra1, Pu.e_p18, Pu.e_p6, Pu.e_p24, Pu.e_mul_l, Pu.e_mul_r, Pu.e_mod_p, Pu.e_fdiv_p, Pu.e_mul_h, Pu.e_ls1, Pu.e_ls2, Pu.e_ls3, Pu.e_ls4, Pu.e_ls5, Pu.e_ls6, decide_true, decide_false, isi_int_int, isi_bool_int, isi_list_list, isi_tuple_tuple, isi_bool_bool, isi_str_str, isi_str_int, dEq_int, dNe_int, dEq_bool, dNe_bool, Option.bind_some, Option.bind_none, Option.map_some, Option.map_none, start0, List.map_cons, List.map_nil, List.length_cons, List.length_nil, List.replicate_succ, List.replicate_zero, List.cons_append, List.nil_append, List.getElem?_cons_zero, List.getElem?_cons_succ, List.set_cons_zero, List.set_cons_succ, Nat.reduceAdd, Nat.reduceSub, Nat.reduceLeDiff, Int.reduceNeg, Int.reduceMul, Int.reduceAdd, Int.reduceSub, ne_eq, not_false_eq_true, if_true, if_false, ite_not, Bool.not_not, Bool.not_true, Bool.not_false, Bool.false_eq_true, reduceIte, Bool.true_and, Bool.false_and, Bool.and_true, Bool.and_false, Bool.true_or, Bool.false_or, Bool.or_false, Bool.or_true])
local macro_rules | `(tactic| walk_at "evh") => `(tactic| simp (disch := first | assumption | decide | omega) only [Pu.e_seq, Pu.e_sq_nx, Pu.e_sq_rt, Pu.e_sq_bk, Pu.e_sq_ct, Pu.e_if, Pu.e_iff_t, Pu.e_iff_f, Pu.e_iff_d, Pu.e_iff_nd, Pu.e_next, Pu.e_set, Pu.e_en1, Pu.e_own, Pu.e_on_new, Pu.e_on_val, Pu.e_ret, Pu.e_run, Pu.e_run_rt, Pu.e_run_nx, Pu.e_b2, Pu.e_b2b, Pu.e_b1, Pu.e_gv, Pu.e_fz_val, Pu.e_fz_new, Pu.e_gr, Pu.e_gw, Pu.e_vw_val, Pu.e_vw_new, Pu.e_vw_view, Pu.e_gR1, Pu.e_and, Pu.e_and_t, Pu.e_and_f, Pu.e_and_d, Pu.e_or, Pu.e_or_t, Pu.e_or_f, Pu.e_or_d, Pu.e_gIf, Pu.e_if1_t, Pu.e_if1_f, Pu.e_if1_d, Pu.e_gTru, Pu.e_tB, Pu.e_gB, Pu.e_tAnd, Pu.e_tOr, Pu.e_ta_t, Pu.e_ta_f, Pu.e_to_t, Pu.e_to_f, Pu.e_ta, Pu.e_to, Pu.e_tNot, Pu.e_ix, Pu.e_ix1, Pu.e_aNil, Pu.e_aCons, Pu.e_ac1, Pu.e_gTup, Pu.e_gLst, Pu.e_tu2, Pu.e_tu1, Pu.e_tu3, Pu.e_tu4, Pu.e_ls0, Pu.e_call, Pu.e_cl1, Pu.e_cl2, Pu.e_cl3, Pu.e_cl4, Pu.e_gFn, Pu.e_isi, Pu.e_is1, Pu.e_vVar, Pu.e_rVar, Pu.e_wVar, Pu.e_ownAt, Pu.e_frz, Pu.e_vC, Pu.e_add, Pu.e_sub, Pu.e_neg, Pu.e_not, Pu.e_lt, Pu.e_le, Pu.e_gt, Pu.e_ge, Pu.e_tru_b, Pu.e_tru_i, Pu.e_tru_l, Pu.e_tru_t, Pu.e_len_v, Pu.e_len_t, Pu.e_len_w, Pu.e_len_n, Pu.e_len_s, Pu.e_int_i, Pu.e_abs, Pu.e_max, Pu.e_min, Pu.e_ix_l, Pu.e_ix_w, Pu.e_ix_n, Pu.e_ix_t, Pu.e_ix_s, Pu.e_at0, Pu.e_at1, Pu.e_at2, Pu.e_at3, Pu.e_gItems, Pu.e_it_l, Pu.e_it_t, Pu.e_it_s, Pu.e_rFor, Pu.e_fo1, Pu.e_fl_nil, Pu.e_fl_cons, Pu.e_fl1, Pu.e_fl2_nx, Pu.e_fl2_ct, Pu.e_fl2_bk, Pu.e_fl2_rt, Pu.e_bName, Pu.e_bTup, Pu.e_bNil, Pu.e_bCons, Pu.e_rAsg, Pu.e_as1, Pu.e_app, Pu.e_ap1, Pu.e_put, Pu.e_pu1, Pu.e_pop, Pu.e_aug, Pu.e_au1, Pu.e_iadd, Pu.e_isub, Pu.e_range1, Pu.e_ra1, Pu.e_p18, Pu.e_p6, Pu.e_p24, Pu.e_mul_l, Pu.e_mul_r, Pu.e_mod_p, Pu.e_fdiv_p, Pu.e_mul_h, Pu.e_ls1, Pu.e_ls2, Pu.e_ls3, Pu.e_ls4, Pu.e_ls5, Pu.e_ls6, decide_true, decide_false, isi_int_int, isi_bool_int, isi_list_list, isi_tuple_tuple, isi_bool_bool, isi_str_str, isi_str_int, dEq_int, dNe_int, dEq_bool, dNe_bool, Option.bind_some, Option.bind_none, Option.map_some, Option.map_none, start0, List.map_cons, List.map_nil, List.length_cons, List.length_nil, List.replicate_succ, List.replicate_zero, List.cons_append, List.nil_append, List.getElem?_cons_zero, List.getElem?_cons_succ, List.set_cons_zero, List.set_cons_succ, Nat.reduceAdd, Nat.reduceSub, Nat.reduceLeDiff, Int.reduceNeg, Int.reduceMul, Int.reduceAdd, Int.reduceSub, ne_eq, not_false_eq_true, if_true, if_false, ite_not, Bool.not_not, Bool.not_true, Bool.not_false, Bool.false_eq_true, reduceIte, Bool.true_and, Bool.false_and, Bool.and_true, Bool.and_false, Bool.true_or, Bool.false_or, Bool.or_false, Bool.or_true, *])
def W (n : Int) : Int := (n + 1000000000000000000) % (2000000000000000001) - 1000000000000000000
theorem wrap_eq (n : Int) : φ_wrap [.int n] = some (.int (W n)) := by
  show some (PyData.int ((n + 1000000000000000000).fmod (2000000000000000001) - 1000000000000000000)) = _
  rw [fmod_pos _ (by decide)]; rfl
def cellI (ns : List Int) (k : Nat) : Int := ns.getD k 0
theorem atI_ints (ns : List Int) (k : Nat) (h : k < ns.length) : atI (ns.map PyData.int) (k : Int) = some (.int (cellI ns k)) := by
  apply atI_nat
  rw [List.getElem?_map, List.getElem?_eq_getElem h]
  simp [cellI, List.getD, h]
theorem cell_eq (ns : List Int) (k : Nat) : φ__law_cell [scrD (ns.map .int), .int k] = some (.int (cellI ns k)) := by
  show Option.bind (Option.bind (if decide ((k : Int) < ((ns.map PyData.int).length : Nat)) = true then Option.map Out.rt (atI (ns.map PyData.int) k) else some (Out.nx _)) _) _ = _
  by_cases h : k < ns.length
  · rw [if_pos (by simpa using h), atI_ints ns k h]
    rfl
  · rw [if_neg (by simpa using h)]
    show some (PyData.int 0) = _
    simp [cellI, List.getD, List.getElem?_eq_none (Nat.not_lt.mp h)]
theorem W_lo (n : Int) : -1000000000000000000 ≤ W n := by unfold W; omega
theorem W_hi (n : Int) : W n ≤ 1000000000000000000 := by unfold W; omega
theorem W_mod (n : Int) : W n % (2000000000000000001) = n % (2000000000000000001) := by unfold W; omega
theorem W_of {x y : Int} (h : x % (2000000000000000001) = y % (2000000000000000001)) : W x = W y := by unfold W; omega
theorem W_add (a b : Int) : W (W a + W b) = W (a + b) := W_of (by rw [Int.add_emod, W_mod, W_mod, ← Int.add_emod])
theorem W_sub (a b : Int) : W (W a - W b) = W (a - b) := W_of (by rw [Int.sub_emod, W_mod, W_mod, ← Int.sub_emod])
theorem W_mul (a b : Int) : W (W a * W b) = W (a * b) := W_of (by rw [Int.mul_emod, W_mod, W_mod, ← Int.mul_emod])
theorem isint_eq (n : Int) : φ__law_is_integer [.int n] = some (.bool true) := by
  unfold φ__law_is_integer R__law_is_integer
  walk_at "ev"
theorem fits_eq (n : Int) : φ__law_fits [.int n] = some (.bool true) := by
  have h1 := W_lo n
  have h2 := W_hi n
  unfold φ__law_fits R__law_fits
  walk_at "ev"
  simp only [wrap_eq]
  walk_at "ev"
  simp only [isint_eq]
  walk_at "ev"
  rw [show (decide (W n < -1000000000000000000) || decide (1000000000000000000 < W n)) = false by simp; omega]
  walk_at "ev"
  congr 2
  rw [decide_eq_true_eq]
  have := W_mod n
  omega
theorem law_at (ns : List Int) (a b c x y : Int) (hm : mulOk x y = true) (hc0 : φ__law_cell [scrD (ns.map .int), .int 0] = some (.int a)) (hc1 : φ__law_cell [scrD (ns.map .int), .int 1] = some (.int b)) (hc2 : φ__law_cell [scrD (ns.map .int), .int 2] = some (.int c))
    (ha : x = if c % 3 = 1 then 1000000000000000000 + a % 5 - 2 else a) (hb : y = if c / 3 % 3 = 1 then -1000000000000000000 + b % 5 - 2 else b) : φ_law [scrD (ns.map .int)] = some (.bool true) := by
  have hA : ∀ (R : Out → Option Out), (if c % 3 = 1 then some (Out.nx [Sl.val (scrD (ns.map .int)), .val (.int (1000000000000000000 + a % 5 - 2)), .val (.int b), .un]) else some (Out.nx [Sl.val (scrD (ns.map .int)), .val (.int a), .val (.int b), .un])).bind R = R (Out.nx [Sl.val (scrD (ns.map .int)), .val (.int x), .val (.int b), .un]) := by
    intro R; rw [ha]; split <;> rfl
  have hB : ∀ (R : Out → Option Out), (if c / 3 % 3 = 1 then some (Out.nx [Sl.val (scrD (ns.map .int)), .val (.int x), .val (.int (-1000000000000000000 + b % 5 - 2)), .un]) else some (Out.nx [Sl.val (scrD (ns.map .int)), .val (.int x), .val (.int b), .un])).bind R = R (Out.nx [Sl.val (scrD (ns.map .int)), .val (.int x), .val (.int y), .un]) := by
    intro R; rw [hb]; split <;> rfl
  clear ha hb
  have f1 := fits_eq
  have f2 := wrap_eq
  have f3 := W_add x y
  have f4 := W_sub x y
  have f5 := W_mul x y
  have f6 : mulOk (W x) (W y) = true := mul_small_l (by have := W_lo x; have := W_hi x; omega)
  unfold φ_law R_law
  walk_at "evh"
theorem cell_bits (ns : List Int) (k : Nat) (hb : ∀ z ∈ ns, PySem.Builtin.Int.intBits z ≤ 1048576) : (cellI ns k).natAbs.log2 ≤ 1048576 := by
  unfold cellI
  by_cases h : k < ns.length
  · have : ns.getD k 0 = ns[k] := by simp [List.getD, h]
    rw [this]
    exact bits_log (hb _ (List.getElem_mem h))
  · have : ns.getD k 0 = 0 := by simp [List.getD, List.getElem?_eq_none (Nat.not_lt.mp h)]
    rw [this]; decide
theorem mul_bits {x y : Int} (hx : x.natAbs.log2 ≤ 1048576) (hy : y.natAbs.log2 ≤ 1048576) : mulOk x y = true := by
  unfold mulOk
  have : decide (x.natAbs.log2 + y.natAbs.log2 < 134000000) = true := by simp; omega
  rw [this]; simp
theorem law_true (ns : List Int) (hl : ns.length ≤ 63) (hb : ∀ z ∈ ns, PySem.Builtin.Int.intBits z ≤ 1048576) : G.φ_law [Pu.scrD (ns.map PyData.int)] = some (.bool true) := by
  refine law_at ns _ _ _ _ _ ?_ (cell_eq ns 0) (cell_eq ns 1) (cell_eq ns 2) rfl rfl
  by_cases h1 : cellI ns 2 % 3 = 1
  · rw [if_pos h1]; exact mul_small_l (by omega)
  · rw [if_neg h1]
    by_cases h2 : cellI ns 2 / 3 % 3 = 1
    · rw [if_pos h2]; exact mul_small_r (by omega)
    · rw [if_neg h2]; exact mul_bits (cell_bits ns 0 hb) (cell_bits ns 1 hb)
end M
open PySem PySem.W PyProof.Rows
set_option maxRecDepth 100000 in
set_option maxHeartbeats 0 in
theorem PySem.Challenge.cw_pastamended_k01_wrap_holds : PySem.Challenge.rw_pastamended_k01_wrap.Holds := by
  w_on; o_law; k_head; (case hw => w_witness2)
  k_fill
  refine L2.walk_ofB (l := PySem.Challenge.rw_pastamended_k01_wrap) (n := 63) (k := 3) (x := "script") (CX := fun _ => L2.CX0) (sp := fun w => Pu.spPu _ 1 G.φ_law) rfl (by decide) rfl ⟨rfl, by decide, by decide⟩ (fun w h Y => PySem.W.kIn_of Y) ?F (fun _ H a ns hl hb _ hS => ⟨H, [Pu.scrD (ns.map PyData.int)], .bool true, rfl, L2.Same.refl _, .cons (.scr hS (Pu.RpAll.ints ns)) .nil, M.law_true ns hl hb, fun v _ _ _ r => r.bl_inv⟩) (fun _ _ _ _ _ h => h)
  case F =>
    intro w mg fa h KX Gm hmg
    refine' G.all_mk KX Gm hmg ?a0 ?l0 ?e0 ?k0 ?a1 ?l1 ?e1 ?k1 ?a2 ?l2 ?e2 ?k2 ?a3 ?l3 ?e3 ?k3 ?a4 ?l4 ?e4 ?k4 ?z0 ?z1 ?z2 ?z3 ?q0
    (case a0 => k_is); (case l0 => k_is); (case e0 => k_is); (case k0 => k_is)
    (case a1 => k_is); (case l1 => k_is); (case e1 => k_is); (case k1 => k_is)
    (case a2 => k_is); (case l2 => k_is); (case e2 => k_is); (case k2 => k_is)
    (case a3 => k_is); (case l3 => k_is); (case e3 => k_is); (case k3 => k_is)
    (case a4 => k_is); (case l4 => k_is); (case e4 => k_is); (case k4 => k_is)
    (case z0 => k_is)
    (case z1 => k_is)
    (case z2 => k_is)
    (case z3 => k_is)
    (case q0 => exact ⟨_, by k_is⟩)
