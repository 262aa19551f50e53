import PyProof.Rows.All
import Wide.All
import OpenK.AllK
import Wide.FinOn
import HandS.ForMost
import HandS.EndBits
import HandS.Ends
import PyProof.ReprRoads
import HandS.Wide
import HandS.Flow
import HandS.TupAny
import HandS.SortRule
import HandS.SortInts
import HandS.IsInst
import HandS.NoneIn
import HandS.SetFor
import HandS.Strs
import PyProof.Rows.SortShellAny
import KE.KSortTupG
import HandS.SetBool
import HandS.CallLocal
import HandS.Text
import HandS.StrMore
import HandS.StrSplit
import HandS.FStr
import HandS.Small
import HandS.Deep
import HandS.Sort
import HandS.More
import HandS.ExcOwn
import HandS.WordsExc
import HandS.TryOnly
import HandS.ExcIs
import HandS.RaiseMore
import PyProof.ExcBaseAll.ValueError
import HandS.Gcd
import KE.KMathGC
import HandS.Codes
import PyProof.Rows.StrSplitMax
import PyProof.ReprLen
import HandS.TupSets
import KE.KDictCopyH
import PySem.Challenge.RW_pastamended_k38_corrections
set_option Elab.async false
set_option linter.all false
set_option maxRecDepth 100000
set_option maxHeartbeats 4000000
namespace Pu
open PySem PySem.Spec PyProof.Rows L2
abbrev D := PyData
/-- the defs that are used as values -/
class FnTab where
  tab : Nat → Option Addr
variable [FnTab]
def fnD (k : Nat) : D := .dict [(.list [.int (k : Int)], .int 0)]
def keyD : Key → D
  | .inl i => .int i
  | .inr x => .str x
mutual
inductive Rp (K : PySem.W.Frag) (H : Hp) : V → D → Prop
  | non : Rp K H .non .none
  | bl (b : Bool) : Rp K H (.bl b) (.bool b)
  | int (i : Int) : Rp K H (.int i) (.int i)
  | str (x : Str) : Rp K H (.str x) (.str x)
  | lst {a : Addr} {xs : List V} {ds : List D} : H a = some (.lst xs) → RpAll K H xs ds → Rp K H (.ref a) (.list ds)
  | scr {a : Addr} {xs : List V} {ds : List D} : SqL K H a xs → RpAll K H xs ds → Rp K H (.ref a) (.dict [(.list ds, .none)])
  | tup {a : Addr} {xs : List V} {ds : List D} : SqT K H a xs → RpAll K H xs ds → Rp K H (.ref a) (.tuple ds)
  | fn {k : Nat} {a : Addr} : FnTab.tab k = some a → Rp K H (.ref a) (fnD k)
  | dct {a : Addr} {kvs : List (Key × V)} {es : List (D × D)} : H a = some (.dK kvs) → RpKV K H kvs es → Rp K H (.ref a) (.dict es)
  | dctT {a : Addr} {kvs : List (List Key × V)} {es : List (D × D)} : H a = some (.dT kvs) → RpKT K H kvs es → Rp K H (.ref a) (.dict es)
inductive RpAll (K : PySem.W.Frag) (H : Hp) : List V → List D → Prop
  | nil : RpAll K H [] []
  | cons {v : V} {vs : List V} {d : D} {ds : List D} : Rp K H v d → RpAll K H vs ds → RpAll K H (v :: vs) (d :: ds)
inductive RpKV (K : PySem.W.Frag) (H : Hp) : List (Key × V) → List (D × D) → Prop
  | nil : RpKV K H [] []
  | cons {k : Key} {v : V} {vs : List (Key × V)} {d : D} {ds : List (D × D)} : Rp K H v d → RpKV K H vs ds → RpKV K H ((k, v) :: vs) ((keyD k, d) :: ds)
inductive RpKT (K : PySem.W.Frag) (H : Hp) : List (List Key × V) → List (D × D) → Prop
  | nil : RpKT K H [] []
  | cons {k : List Key} {v : V} {vs : List (List Key × V)} {d : D} {ds : List (D × D)} : Rp K H v d → RpKT K H vs ds → RpKT K H ((k, v) :: vs) ((.tuple (k.map keyD), d) :: ds)
end
theorem Same.rd {H H' : Hp} (e : Same H H') {a : Addr} {o : HO} (h : Rd H a o) : Rd H' a o := by
  rcases h with h | ⟨u, h⟩
  · exact .inl (e _ _ h)
  · exact .inr ⟨u, e _ _ h⟩
theorem Same.seqT {K : PySem.W.Frag} {H H' : Hp} {a : Addr} {xs : List V} (e : Same H H') (h : SqT K H a xs) : SqT K H' a xs := by
  rcases h with h | h
  · exact .inl (Same.rd e h)
  · exact .inr h
section
variable {K : PySem.W.Frag} {H H' : Hp}
mutual
theorem Rp.mono (e : Same H H') {v : V} {d : D} (h : Rp K H v d) : Rp K H' v d := by
  cases h with
  | non => exact .non
  | bl b => exact .bl b
  | int i => exact .int i
  | str x => exact .str x
  | lst s r => exact .lst (e _ _ s) (RpAll.mono e r)
  | scr s r => exact .scr (e.seq s) (RpAll.mono e r)
  | tup s r => exact .tup (Same.seqT e s) (RpAll.mono e r)
  | fn h => exact .fn h
  | dct s r => exact .dct (e _ _ s) (RpKV.mono e r)
  | dctT s r => exact .dctT (e _ _ s) (RpKT.mono e r)
theorem RpAll.mono (e : Same H H') {v : List V} {d : List D} (h : RpAll K H v d) : RpAll K H' v d := by
  cases h with
  | nil => exact .nil
  | cons a b => exact .cons (Rp.mono e a) (RpAll.mono e b)
theorem RpKV.mono (e : Same H H') {v : List (Key × V)} {d : List (D × D)} (h : RpKV K H v d) : RpKV K H' v d := by
  cases h with
  | nil => exact .nil
  | cons a b => exact .cons (Rp.mono e a) (RpKV.mono e b)
theorem RpKT.mono (e : Same H H') {v : List (List Key × V)} {d : List (D × D)} (h : RpKT K H v d) : RpKT K H' v d := by
  cases h with
  | nil => exact .nil
  | cons a b => exact .cons (Rp.mono e a) (RpKT.mono e b)
end
theorem RpAll.length {vs : List V} : ∀ {ds : List D}, RpAll K H vs ds → vs.length = ds.length := by
  induction vs with
  | nil => intro ds h; cases h; rfl
  | cons v vs ih => intro ds h; cases h with | cons a b => simp [ih b]
theorem RpAll.get {vs : List V} : ∀ {ds : List D} {i : Nat} {d : D}, RpAll K H vs ds → ds[i]? = some d → ∃ v, vs[i]? = some v ∧ Rp K H v d := by
  induction vs with
  | nil => intro ds i d h e; cases h; simp at e
  | cons v vs ih =>
    intro ds i d h e
    cases h with
    | cons a b =>
      cases i with
      | zero => simp at e; subst e; exact ⟨v, rfl, a⟩
      | succ i => simpa using ih b (by simpa using e)
theorem RpAll.getV {vs : List V} : ∀ {ds : List D} {i : Nat} {v : V}, RpAll K H vs ds → vs[i]? = some v → ∃ d, ds[i]? = some d ∧ Rp K H v d := by
  induction vs with
  | nil => intro ds i d h e; simp at e
  | cons v vs ih =>
    intro ds i d h e
    cases h with
    | cons a b =>
      cases i with
      | zero => simp at e; subst e; exact ⟨_, rfl, a⟩
      | succ i => simpa using ih b (by simpa using e)
theorem RpAll.append {vs ws : List V} : ∀ {ds es : List D}, RpAll K H vs ds → RpAll K H ws es → RpAll K H (vs ++ ws) (ds ++ es) := by
  induction vs with
  | nil => intro ds es h h2; cases h; exact h2
  | cons v vs ih => intro ds es h h2; cases h with | cons a b => exact .cons a (ih b h2)
theorem RpAll.take {vs : List V} : ∀ {ds : List D} (n : Nat), RpAll K H vs ds → RpAll K H (vs.take n) (ds.take n) := by
  induction vs with
  | nil => intro ds n h; cases h; simp; exact .nil
  | cons v vs ih =>
    intro ds n h
    cases h with
    | cons a b =>
      cases n with
      | zero => exact .nil
      | succ n => exact .cons a (ih n b)
theorem RpAll.drop {vs : List V} : ∀ {ds : List D} (n : Nat), RpAll K H vs ds → RpAll K H (vs.drop n) (ds.drop n) := by
  induction vs with
  | nil => intro ds n h; cases h; simp; exact .nil
  | cons v vs ih =>
    intro ds n h
    cases h with
    | cons a b =>
      cases n with
      | zero => exact .cons a b
      | succ n => exact ih n b
theorem RpAll.set {vs : List V} : ∀ {ds : List D} (i : Nat) {v : V} {d : D}, RpAll K H vs ds → Rp K H v d → RpAll K H (vs.set i v) (ds.set i d) := by
  induction vs with
  | nil => intro ds i v d h _; cases h; exact .nil
  | cons w vs ih =>
    intro ds i v d h r
    cases h with
    | cons a b =>
      cases i with
      | zero => exact .cons r b
      | succ i => exact .cons a (ih i b r)
theorem RpAll.dropLast {vs : List V} {ds : List D} (h : RpAll K H vs ds) : RpAll K H vs.dropLast ds.dropLast := by
  rw [List.dropLast_eq_take, List.dropLast_eq_take, h.length]; exact h.take _
theorem RpAll.nilD {vs : List V} (h : RpAll K H vs []) : vs = [] := by cases h; rfl
theorem RpAll.reverse {vs : List V} {ds : List D} (h : RpAll K H vs ds) : RpAll K H vs.reverse ds.reverse := by
  induction vs generalizing ds with
  | nil => cases h; exact .nil
  | cons v vs ih =>
    cases h with
    | cons a b => rw [List.reverse_cons, List.reverse_cons]; exact (ih b).append (.cons a .nil)
-- ints
theorem RpAll.ints : ∀ (ns : List Int), RpAll K H (ns.map V.int) (ns.map PyData.int)
  | [] => .nil
  | n :: ns => .cons (.int n) (RpAll.ints ns)
theorem Rp.int_inv {v : V} {i : Int} (h : Rp K H v (.int i)) : v = .int i := by cases h; rfl
theorem Rp.bl_inv {v : V} {i : Bool} (h : Rp K H v (.bool i)) : v = .bl i := by cases h; rfl
theorem Rp.str_inv {v : V} {i : Str} (h : Rp K H v (.str i)) : v = .str i := by cases h; rfl
theorem Rp.non_inv {v : V} (h : Rp K H v .none) : v = .non := by cases h; rfl
theorem Rp.lst_inv {v : V} {ds : List D} (h : Rp K H v (.list ds)) : ∃ a xs, v = .ref a ∧ Rd H a (.lst xs) ∧ RpAll K H xs ds := by cases h with | lst s r => exact ⟨_, _, rfl, .of s, r⟩
theorem Rp.lst_inv' {v : V} {ds : List D} (h : Rp K H v (.list ds)) : ∃ a xs, v = .ref a ∧ H a = some (.lst xs) ∧ RpAll K H xs ds := by cases h with | lst s r => exact ⟨_, _, rfl, s, r⟩
theorem Rp.fn_inv {v : V} {k : Nat} (h : Rp K H v (fnD k)) : ∃ a, v = .ref a ∧ FnTab.tab k = some a := by
  generalize hd : fnD k = d at h
  cases h with
  | fn e =>
    rename_i j a
    unfold fnD at hd
    have : (k : Int) = j := by simpa using hd
    have : k = j := by omega
    subst this
    exact ⟨a, rfl, e⟩
  | dct s r =>
    unfold fnD at hd
    cases hd
    generalize hq : [((PyData.list [PyData.int (k : Int)] : D), (PyData.int 0 : D))] = es at r
    cases r with
    | nil => cases hq
    | cons a b =>
      rename_i k2 _ _ _ _
      cases k2 <;> cases hq
  | dctT s r =>
    unfold fnD at hd
    cases hd
    generalize hq : [((PyData.list [PyData.int (k : Int)] : D), (PyData.int 0 : D))] = es at r
    cases r with
    | nil => cases hq
    | cons a b => cases hq
  | _ => unfold fnD at hd; cases hd
theorem Rp.tup_inv {v : V} {ds : List D} (h : Rp K H v (.tuple ds)) : ∃ a xs, v = .ref a ∧ SqT K H a xs ∧ RpAll K H xs ds := by cases h with | tup s r => exact ⟨_, _, rfl, s, r⟩
theorem RpAll.ints_inv {vs : List V} : ∀ {ns : List Int}, RpAll K H vs (ns.map PyData.int) → vs = ns.map V.int := by
  induction vs with
  | nil => intro ns h; cases ns with | nil => rfl | cons n r => cases h
  | cons v vs ih => intro ns h; cases ns with | nil => cases h | cons n r => cases h with | cons a b => rw [ih b, a.int_inv]; rfl
theorem RpAll.bools_inv {vs : List V} : ∀ {ns : List Bool}, RpAll K H vs (ns.map PyData.bool) → vs = ns.map V.bl := by
  induction vs with
  | nil => intro ns h; cases ns with | nil => rfl | cons n r => cases h
  | cons v vs ih => intro ns h; cases ns with | nil => cases h | cons n r => cases h with | cons a b => rw [ih b, a.bl_inv]; rfl
theorem RpAll.strs_inv {vs : List V} : ∀ {ns : List Str}, RpAll K H vs (ns.map PyData.str) → vs = ns.map V.str := by
  induction vs with
  | nil => intro ns h; cases ns with | nil => rfl | cons n r => cases h
  | cons v vs ih => intro ns h; cases ns with | nil => cases h | cons n r => cases h with | cons a b => rw [ih b, a.str_inv]; rfl
/- no dict in it -/
mutual
def noDict : D → Bool
  | .dict _ => false
  | .list xs => noDicts xs
  | .tuple xs => noDicts xs
  | _ => true
def noDicts : List D → Bool
  | [] => true
  | d :: ds => noDict d && noDicts ds
end
mutual
theorem Rp.dp : ∀ {d : D} {v : V}, Rp K H v d → noDict d = true → Dp K H v d
  | .none, v, h, n => by cases h; exact .non
  | .bool b, v, h, n => by cases h; exact .bl b
  | .int i, v, h, n => by cases h; exact .int i
  | .str x, v, h, n => by cases h; exact .str x
  | .list ds, v, h, n => by
    obtain ⟨a, xs, rfl, s, r⟩ := h.lst_inv
    exact .lst (.inl s) (RpAll.dp r (by simpa [noDict] using n))
  | .tuple ds, v, h, n => by
    obtain ⟨a, xs, rfl, s, r⟩ := h.tup_inv
    exact .tup s (RpAll.dp r (by simpa [noDict] using n))
  | .dict _, v, h, n => by simp [noDict] at n
theorem RpAll.dp : ∀ {ds : List D} {vs : List V}, RpAll K H vs ds → noDicts ds = true → DpAll K H vs ds
  | [], vs, h, n => by cases h; exact .nil
  | d :: ds, vs, h, n => by
    cases h with
    | cons a b =>
      simp only [noDicts, Bool.and_eq_true] at n
      exact .cons (Rp.dp a n.1) (RpAll.dp b n.2)
end
end

/-! ### heaps: the frozen part within the whole -/
structure Ext (Hf H Hf' H' : Hp) : Prop where
  all : Same H H'
  fro : Same Hf Hf'
  sub : Same Hf' H'
  keep : ∀ b o, H b = some o → Hf b = none → Hf' b = none
theorem Ext.refl {Hf H : Hp} (h : Same Hf H) : Ext Hf H Hf H := ⟨Same.refl _, Same.refl _, h, fun _ _ _ n => n⟩
theorem Ext.trans {Hf H Hf1 H1 Hf2 H2 : Hp} (a : Ext Hf H Hf1 H1) (b : Ext Hf1 H1 Hf2 H2) : Ext Hf H Hf2 H2 :=
  ⟨a.all.trans b.all, a.fro.trans b.fro, b.sub, fun c o h n => b.keep c o (a.all c o h) (a.keep c o h n)⟩
theorem Same.updB {H H' : Hp} {p : Addr} {o : HO} (s : Same H H') : Same (upd H p o) (upd H' p o) := fun b u e => by
  by_cases hb : b = p
  · subst hb; rw [upd_same] at e ⊢; exact e
  · rw [upd_ne hb] at e ⊢; exact s b u e
theorem Same.new {H : Hp} {p : Addr} {o : HO} (h : H p = none) : Same H (upd H p o) := fun b u e => by
  rw [upd_ne (ne_of_none e h)]; exact e
/-- a new object, frozen -/
theorem Ext.fresh {Hf H : Hp} {p : Addr} {o : HO} (s : Same Hf H) (h : H p = none) : Ext Hf H (upd Hf p o) (upd H p o) :=
  ⟨Same.new h, Same.new (s.free h), Same.updB s, fun b u e n => by rw [upd_ne (ne_of_none e h)]; exact n⟩
/-- a new object, not frozen -/
theorem Ext.loose {Hf H : Hp} {p : Addr} {o : HO} (s : Same Hf H) (h : H p = none) : Ext Hf H Hf (upd H p o) :=
  ⟨Same.new h, Same.refl _, s.trans (Same.new h), fun b u e n => n⟩
/-- what is new and loose is frozen -/
theorem Ext.freeze {Hf H Hf' H' : Hp} {p : Addr} {o : HO} (x : Ext Hf H Hf' H') (h : H p = none) (e : H' p = some o) (n : Hf' p = none) : Ext Hf H (upd Hf' p o) H' :=
  ⟨x.all, x.fro.trans (Same.new n), fun b u q => by
    by_cases hb : b = p
    · subst hb; rw [upd_same] at q; rw [← q]; exact e
    · rw [upd_ne hb] at q; exact x.sub b u q, fun b u q m => by rw [upd_ne (ne_of_none q h)]; exact x.keep b u q m⟩

abbrev scrD (ds : List D) : D := .dict [(.list ds, .none)]
/-! ### slots -/
inductive Sl where
  | un
  | val (d : D)
  | own (ds : List D)
abbrev En := List Sl
def SlOk (K : PySem.W.Frag) (H0 Hf H : Hp) : Sl → Option V → Prop
  | .un, _ => True
  | .val d, o => ∃ v, o = some v ∧ Rp K Hf v d
  | .own ds, o => ∃ a vs, o = some (.ref a) ∧ H0 a = none ∧ H a = some (.lst vs) ∧ Hf a = none ∧ RpAll K Hf vs ds
/-- the slots bear ρ; H0: the entry -/
structure StOk (K : PySem.W.Frag) (H0 : Hp) (ρ : En) (σ : L2.St) (Hf H : Hp) : Prop where
  sub : Same Hf H
  at_ : ∀ (i : Nat) (s : Sl), ρ[i]? = some s → ∃ o : Option V, σ[i]? = some o ∧ SlOk K H0 Hf H s o
  sep : ∀ (i j : Nat) (ds es : List D) (a : Addr), i ≠ j → ρ[i]? = some (.own ds) → ρ[j]? = some (.own es) → σ[i]? = some (some (.ref a)) → σ[j]? ≠ some (some (.ref a))
theorem SlOk.ext {K : PySem.W.Frag} {H0 Hf H Hf' H' : Hp} {s : Sl} {o : Option V} (x : Ext Hf H Hf' H') (h : SlOk K H0 Hf H s o) : SlOk K H0 Hf' H' s o := by
  cases s with
  | un => trivial
  | val d => obtain ⟨v, e, r⟩ := h; exact ⟨v, e, r.mono x.fro⟩
  | own ds => obtain ⟨a, vs, e, h0, h1, h2, r⟩ := h; exact ⟨a, vs, e, h0, x.all _ _ h1, x.keep _ _ h1 h2, r.mono x.fro⟩
theorem StOk.ext {K : PySem.W.Frag} {H0 : Hp} {ρ : En} {σ : L2.St} {Hf H Hf' H' : Hp} (x : Ext Hf H Hf' H') (h : StOk K H0 ρ σ Hf H) : StOk K H0 ρ σ Hf' H' :=
  ⟨x.sub, fun i s e => let ⟨o, a, b⟩ := h.at_ i s e; ⟨o, a, b.ext x⟩, h.sep⟩

/-! ### results of expressions -/
inductive Rs where
  | val (d : D)
  | view (ds : List D)
  | new (ds : List D)
def RsOk (K : PySem.W.Frag) (H0 Hf H : Hp) (v : V) : Rs → Prop
  | .val d => Rp K Hf v d
  | .view ds => ∃ a vs, v = .ref a ∧ H a = some (.lst vs) ∧ RpAll K Hf vs ds
  | .new ds => ∃ a vs, v = .ref a ∧ H0 a = none ∧ H a = some (.lst vs) ∧ Hf a = none ∧ RpAll K Hf vs ds
/-- the reading of a pure expression -/
def tPu (K : PySem.W.Frag) (g : En → Option Rs) : TE := fun σ H Q => ∃ H0 ρ Hf r, StOk K H0 ρ σ Hf H ∧ g ρ = some r ∧ ∀ v Hf' H', Ext Hf H Hf' H' → RsOk K H Hf' H' v r → Q v H'
def fz : Rs → Option D
  | .val d => some d
  | .new ds => some (.list ds)
  | .view _ => none
/-- its value, frozen -/
def gv (g : En → Option Rs) : En → Option D := fun ρ => (g ρ).bind fz
def tPv (K : PySem.W.Frag) (g : En → Option D) : TE := fun σ H Q => ∃ H0 ρ Hf d, StOk K H0 ρ σ Hf H ∧ g ρ = some d ∧ ∀ v Hf' H', Ext Hf H Hf' H' → Rp K Hf' v d → Q v H'
theorem PE.weaken {X : Cx} {e : Expr} {t t' : TE} (h : PE X e t) (w : ∀ σ H Q, t' σ H Q → t σ H Q) : PE X e t' := ⟨fun pins s σ H Q I q => h.run pins s σ H Q I (w σ H Q q)⟩
theorem PT.weaken {X : Cx} {e : Expr} {t t' : TT} (h : PT X e t) (w : ∀ σ H Q, t' σ H Q → t σ H Q) : PT X e t' := ⟨fun pins s σ H Q I q => h.run pins s σ H Q I (w σ H Q q)⟩
theorem PA.weaken {X : Cx} {e : List Expr} {t t' : TA} (h : PA X e t) (w : ∀ σ H Q, t' σ H Q → t σ H Q) : PA X e t' := ⟨fun pos pins s σ H Q I q => h.run pos pins s σ H Q I (w σ H Q q)⟩
theorem PS.weaken {X : Cx} {e : Stmt} {t t' : TS} (h : PS X e t) (w : ∀ D σ H, t' D σ H → t D σ H) : PS X e t' := ⟨fun pins s σ H D I q => h.run pins s σ H D I (w D σ H q)⟩
theorem PSs.weaken {X : Cx} {e : List Stmt} {t t' : TS} (h : PSs X e t) (w : ∀ D σ H, t' D σ H → t D σ H) : PSs X e t' := ⟨fun pins s σ H D I q => h.run pins s σ H D I (w D σ H q)⟩
theorem freezeR {K : PySem.W.Frag} {H Hf Hf' H' : Hp} {v : V} {r : Rs} {d : D} (x : Ext Hf H Hf' H') (h : RsOk K H Hf' H' v r) (e : fz r = some d) : ∃ Hf'', Ext Hf H Hf'' H' ∧ Rp K Hf'' v d := by
  cases r with
  | val u => cases e; exact ⟨Hf', x, h⟩
  | view u => cases e
  | new u =>
    cases e
    obtain ⟨a, vs, rfl, h0, h1, h2, q⟩ := h
    exact ⟨_, x.freeze h0 h1 h2, .lst upd_same (q.mono (Same.new h2))⟩
/-- frozen at once -/
theorem pv_of {X : Cx} {e : Expr} {g : En → Option Rs} (h : PE X e (tPu X.K g)) : PE X e (tPv X.K (gv g)) := PE.weaken h fun σ H Q ⟨H0, ρ, Hf, d, S, e, q⟩ => by
  unfold gv at e
  cases hg : g ρ with
  | none => rw [hg] at e; cases e
  | some r =>
    rw [hg] at e
    exact ⟨H0, ρ, Hf, r, S, hg, fun v Hf' H' x ro => let ⟨Hf2, x2, r2⟩ := freezeR x ro e; q v Hf2 H' x2 r2⟩
/-- a value as a result -/
def gr (g : En → Option D) : En → Option Rs := fun ρ => (g ρ).map Rs.val
theorem pu_of {X : Cx} {e : Expr} {g : En → Option D} (h : PE X e (tPv X.K g)) : PE X e (tPu X.K (gr g)) := PE.weaken h fun σ H Q ⟨H0, ρ, Hf, r, S, e, q⟩ => by
  unfold gr at e
  cases hg : g ρ with
  | none => rw [hg] at e; cases e
  | some d =>
    rw [hg] at e
    cases e
    exact ⟨H0, ρ, Hf, d, S, hg, fun v Hf' H' x ro => q v Hf' H' x ro⟩
end Pu

namespace Pu
open PySem PySem.Spec PyProof.Rows L2
/-- room, and nothing is being written by repr -/
structure Rg (k : Nat) (A : Around) : Prop where
  r : Room k A
  g : A.guards = some []
theorem Rg.mono {j k : Nat} {A : Around} (h : Rg j A) (l : k ≤ j) : Rg k A := ⟨h.r.mono l, h.g⟩
theorem Rg.units {k : Nat} {A : Around} (h : Rg k A) : A.units + 64 < cLine := h.r.units
theorem Rg.wide {k : Nat} {A : Around} (h : Rg k A) : A.units + 65 < cLine := by have := h.r.un; omega
/-- a def that keeps sp wherever nothing is being written by repr -/
structure FnG (P : Program) (w : World) (K : PySem.W.Frag) (mg : Str → Option Value) (base : Heap) (CX : CXT) (k : Nat) (f : Addr) (fd : FuncData) (ps : List Str) (sp : Sp) : Prop where
  len : ∀ vs H Q E, sp vs H Q E → vs.length = ps.length
  run : ∀ (A : Around) (outer : List Env) (s : Shared) (H : Hp) (args : Args) (us : List Value) (vs : List V) (Q : VK) (E : XK), Rg k A → Env0 P w K mg base A outer s H → BindsTo s fd args (ps.zip us) → Vals vs us → sp vs H Q E →
    codeAny (model P w) A (.call (.ref f) args) (CR CX outer P w H s Q E) s
theorem FnG.imp {P : Program} {w : World} {K : PySem.W.Frag} {mg : Str → Option Value} {base : Heap} {CX : CXT} {k : Nat} {f : Addr} {fd : FuncData} {ps : List Str} {sp sp' : Sp} (F : FnG P w K mg base CX k f fd ps sp) (h : ∀ vs H Q E, sp' vs H Q E → sp vs H Q E) : FnG P w K mg base CX k f fd ps sp' :=
  ⟨fun vs H Q E z => F.len vs H Q E (h _ _ _ _ z), fun A outer s H args us vs Q E r e b v z => F.run A outer s H args us vs Q E r e b v (h _ _ _ _ z)⟩
theorem FnG.lift {P : Program} {w : World} {K : PySem.W.Frag} {mg : Str → Option Value} {base : Heap} {CX : CXT} {j k : Nat} {f : Addr} {fd : FuncData} {ps : List Str} {sp : Sp} (F : FnG P w K mg base CX k f fd ps sp) (h : k ≤ j) : FnG P w K mg base CX j f fd ps sp :=
  ⟨F.len, fun A outer s H args us vs Q E r e b v z => F.run A outer s H args us vs Q E (r.mono h) e b v z⟩
theorem fnG_of {CX : CXT} {P : Program} {w : World} {K : PySem.W.Frag} {mg : Str → Option Value} {base : Heap} {k : Nat} {f : Addr} {x qual : Str} {par : Arguments} {body : List Stmt} {sc : Scope} {dV kV doc pm cdv ct oc : Value} {an od : Option Addr} {osl : Array (Option Value)} {N ps : List Str} {sp : Sp}
    (lk : List.lookup f K = some ⟨oc, od, .func (PySem.W.fnOf x qual par body sc dV kV doc pm an cdv ct), osl⟩) (cd : PySem.W.codeIn K cdv qual = true) (S : FnScope N ps sc) (len : ∀ vs H Q E, sp vs H Q E → vs.length = ps.length)
    (hb : ∀ (A : Around) (outer : List Env) (s : Shared) (H : Hp) (vs : List V) (Q : VK) (E : XK), Rg k (A.deeper (envOfC qual sc s.heap.objs.size f cdv)) → sp vs H Q E →
      ∃ t, PSs (cxOf CX P w K mg base N qual sc f cdv A outer s H E) body t ∧ t { nx := fun _ H' => Q .non H', rt := Q } (L2.start N vs) H) :
    FnG P w K mg base CX (k + 1) f (PySem.W.fnOf x qual par body sc dV kV doc pm an cdv ct) ps sp where
  len := len
  run A outer s H args us vs Q E r e0 hbind rv hsp := by
    have KX : K.In s.heap := e0.mod.kin.keeps fun b o e => (e0.bs b o e).1
    refine codeAny_call_function r.r.depth (KX f _ lk) rfl S.co S.gen rfl (PySem.W.codeRec_of KX cd) (hbind _ _ _ _ (wpAny_newFunctionEnv_cells S.kind ?_ ?_))
    · rintro ⟨n, v⟩ hy
      rcases S.par n (List.of_mem_zip hy).1 with q | q
      · exact .inl q
      · exact .inr ⟨q, PySem.W.cellsFrom_some _ _ _ (.inl q)⟩
    · rintro env rfl s1 hin
      refine ⟨Heap.NoLimit.keeps (Heap.NoLimit.keeps e0.mod.nolimit fun b o e => (e0.bs b o e).1) hin.toInCall.keep, codeAny_func ?_⟩
      obtain ⟨t, ht, hq⟩ := hb A outer s H vs Q E ⟨r.r.deeper _, r.g⟩ hsp
      refine wpAny_mono (ht.run [] s1 (L2.start N vs) H _ (inv_start S r.r.hd e0 (len _ _ _ _ hsp) rv hin) hq) ?_ (fun _ _ z => z)
      intro fl s' z
      cases fl with
      | next =>
        obtain ⟨σ', H', J, q⟩ := z
        exact ⟨.non, H', J.os, J.bare, J.base, J.hok, rfl, q⟩
      | brk => obtain ⟨_, _, _, q⟩ := z; exact q.elim
      | cont => obtain ⟨_, _, _, q⟩ := z; exact q.elim
      | ret u =>
        obtain ⟨v, σ', H', J, rv', q⟩ := z
        exact ⟨v, H', J.os, J.bare, J.base, J.hok, rv', q⟩
section
variable {P : Program} {w : World} {K : PySem.W.Frag} {mg : Str → Option Value} {base : Heap}
theorem okXG {CX : CXT} {x qual : Str} {st : Stmt} {f : Addr} {fd : FuncData} {N ps : List Str} {k : Nat} {sp : Sp} (F : Fun K x qual st f fd) (S : FnScope N ps (defScope st)) (len : ∀ vs H Q E, sp vs H Q E → vs.length = ps.length)
    (hb : ∀ (cdv : Value) (A : Around) (outer : List Env) (s : Shared) (H : Hp) (vs : List V) (Q : VK) (E : XK), Rg k (A.deeper (envOfC qual (defScope st) s.heap.objs.size f cdv)) → sp vs H Q E →
      ∃ t, PSs (cxOf CX P w K mg base N qual (defScope st) f cdv A outer s H E) (defBody st) t ∧ t { nx := fun _ H' => Q .non H', rt := Q } (L2.start N vs) H) : FnG P w K mg base CX (k + 1) f fd ps sp := by
  obtain ⟨oc, od, kV, doc, pm, an, cdv, ct, osl, rfl, lk, cd⟩ := F.ex
  exact fnG_of lk cd S len fun A outer s H vs Q E r z => hb cdv A outer s H vs Q E r z
theorem okG {x qual : Str} {st : Stmt} {f : Addr} {fd : FuncData} {N ps : List Str} {k : Nat} {sp : Sp} (F : Fun K x qual st f fd) (S : FnScope N ps (defScope st)) (len : ∀ vs H Q E, sp vs H Q E → vs.length = ps.length)
    (hb : ∀ (cdv : Value) (A : Around) (outer : List Env) (s : Shared) (H : Hp) (vs : List V) (Q : VK) (E : XK), Rg k (A.deeper (envOfC qual (defScope st) s.heap.objs.size f cdv)) → sp vs H Q E →
      ∃ t, PSs (cxOf CX0 P w K mg base N qual (defScope st) f cdv A outer s H E).nox (defBody st) t ∧ t { nx := fun _ H' => Q .non H', rt := Q } (L2.start N vs) H) : FnG P w K mg base CX0 (k + 1) f fd ps sp :=
  okXG F S len fun cdv A outer s H vs Q E r z => let ⟨t, h, q⟩ := hb cdv A outer s H vs Q E r z; ⟨t, h.nox, q⟩
end
section
variable {X : Cx} {e : Expr} {es : List Expr} {pos : Pos}
theorem run_fnG {CX : CXT} {k : Nat} {f : Addr} {fd : FuncData} {ps : List Str} {sp : Sp} {dvs : List V} {ds : List Value} {E : XK} {pins : List (Addr × Obj)} {σ : L2.St} {H : Hp} {s : Shared} {Q : VK} {us : List Value} {vs : List V}
    (F : FnG X.prog X.w X.K X.mg X.base CX k f fd ps sp) (hr : Rg k X.A) (hb : Binds X.K fd ps ds) (hd : Vals dvs ds) (hx : Passes CX X E) (I : L2.Inv X pins σ H s) (r : Vals vs us) (h : sp (vs ++ dvs) H Q E) : wpAny (model X.prog X.w) X.A (call (.ref f) us) (EP X pins σ Q) X.xe s := by
  have r2 := r.append hd
  refine wpAny_call (codeAny_mono (F.run X.A X.stack s H ⟨us, []⟩ (us ++ ds) (vs ++ dvs) Q E hr I.env0 (hb s us I.kIn (by rw [← r2.length]; exact F.len _ _ _ _ h)) r2 h) ?_)
  intro r s' z
  rcases r with e | fl
  · exact hx pins σ H s e s' I z
  · cases fl with
    | ret u => exact I.after z
    | next => exact z.elim
    | brk => exact z.elim
    | cont => exact z.elim
theorem pe_callG {CX : CXT} {k : Nat} {f : Addr} {fd : FuncData} {ps : List Str} {sp : Sp} {dvs : List V} {ds : List Value} {E : XK} {x : Str} {p : Pos} {t : TA}
    (F : FnG X.prog X.w X.K X.mg X.base CX k f fd ps sp) (hr : Rg k X.A) (hg : Gl X x) (hm : X.mg x = some (.ref f)) (hk : PySem.W.keepIn X.K (.ref f) = true) (hb : Binds X.K fd ps ds) (hd : Vals dvs ds) (hx : Passes CX X E) (ha : PA X (e :: es) t)
    (hdb : (x == ("__debug__" : Str)) = false := by decide) (he : starEach (e :: es) X.env = (false, eval e X.env) :: starEach es X.env := by rfl) (hpl : (backTo pos (starEach es X.env)).any (·.1) = false := by rfl) : PE X (.Call (.Name x p) (e :: es) [] pos) (tCall sp dvs E t) where
  run pins s σ H Q I h := wpAny_Call_Name_kw (ld_glob I hg hm (PySem.W.callWith_K I.ok.mod.kin hk (thn (ha.run pos pins s σ H (fun vs H1 => sp (vs ++ dvs) H1 Q E) I h) fun us s1 ⟨vs, H1, I1, r, q⟩ => ⟨I1.kIn, run_fnG F hr hb hd hx I1 r q⟩) he hpl) hdb)
end
/-- the law's own call -/
theorem law_callG {P : Program} {w : World} {K : PySem.W.Frag} {mg mb : Str → Option Value} {CX : CXT} {k : Nat} {fa a : Addr} {fd : FuncData} {x : Str} {sp : Sp} {s₁ : Shared} {vs : List Value} {ns : List Int} (KX : K.In s₁.heap) (hns : s₁.heap.Ns mainGlobals mg) (hb : s₁.heap.Ns builtinsNs mb)
    (hbb : ∀ y : Str, y ≠ ("__name__" : Str) → mb y = bootBuiltins y) (hlim : s₁.heap.NoLimit) (hg : s₁.gens = #[]) (ha : s₁.heap.get? a = some { cls := .type "list", data := .seq vs.toArray }) (hi : IntsAre vs ns) (hl : ns.length ≤ sizeLine) (hr : Rg k callerA)
    (F : ∀ base : Heap, K.In base → base.Ns mainGlobals mg → FnG P w K mg base CX k fa fd [x] sp) (hbind : ∀ (s : Shared) (u : Value), BindsTo s fd ⟨[u], []⟩ [(x, u)])
    (hsp : ∀ H : Hp, Only H → SqL K H a (ns.map V.int) → sp [.ref a] H (fun v _ => v = .bl true) fun _ _ _ => False) (hCX : ∀ (H : Hp) (e : Value) (s' : Shared), CX [] H s₁ (fun _ _ _ => False) e s' → False) :
    codeAny (model P w) callerA (.call (.ref fa) ⟨[.ref a], []⟩) (fun r s' => r = .ok (.ret (.bool true)) ∧ OldK s₁.heap s'.heap ∧ s'.os = s₁.os ∧ AllBare s'.gens) s₁ := by
  have core : ∀ H : Hp, Only H → SqL K H a (ns.map V.int) → HOk P w H s₁.heap → (∀ b, H b ≠ none → b = a) → (H a ≠ none → List.lookup a K = none) → codeAny (model P w) callerA (.call (.ref fa) ⟨[.ref a], []⟩) (fun r s' => r = .ok (.ret (.bool true)) ∧ OldK s₁.heap s'.heap ∧ s'.os = s₁.os ∧ AllBare s'.gens) s₁ := by
    intro H hO hS hok hA hK
    have noA : ∀ {b o es ep}, s₁.heap.get? b = some o → o.data = Data.dict es ep → H b = none := by
      intro b o es ep e d
      cases q : H b with
      | none => rfl
      | some u =>
        cases hA b (by rw [q]; exact fun z => nomatch z)
        rw [ha] at e
        cases e
        cases d
    have nsK : ∀ {b m}, s₁.heap.Ns b m → (hidT s₁.heap H).Ns b m := by
      rintro b m ⟨o, es, ep, e, d, r⟩
      exact ⟨o, es, ep, hidT_get e (noA e d), d, r⟩
    have hKb : K.In (hidT s₁.heap H) := fun b o e => hidT_get (KX b o e) (by
      cases q : H b with
      | none => rfl
      | some u =>
        cases hA b (by rw [q]; exact fun z => nomatch z)
        rw [hK (by rw [q]; exact fun z => nomatch z)] at e
        cases e)
    obtain ⟨mc, l1, l2⟩ := hlim
    have e0 : Env0 P w K mg (hidT s₁.heap H) callerA [] s₁ H := ⟨rfl, ⟨hKb, nsK hns, ⟨mb, nsK hb, hbb⟩, mc, nsK l1, l2⟩, fun b o e => of_hidT e, Nat.le_of_eq (hidT_size _ _), trivial, fun b z => absurd (show b ∈ ([] : List Addr) from z) (by simp), hok, AllBare.of_eq hg⟩
    refine codeAny_mono ((F (hidT s₁.heap H) hKb (nsK hns)).run callerA [] s₁ H ⟨[.ref a], []⟩ [.ref a] [.ref a] _ _ hr e0 (hbind s₁ (.ref a)) (.cons rfl .nil) (hsp H hO hS)) ?_
    intro r s' z
    rcases r with e | fl
    · exact (hCX H e s' z).elim
    · cases fl with
      | next => exact z.elim
      | brk => exact z.elim
      | cont => exact z.elim
      | ret u =>
        obtain ⟨v, H', os, bare, un, hok', r', q⟩ := z
        cases (show v = V.bl true from q)
        cases r'
        refine ⟨rfl, OldK.of_keep fun b o e => ?_, os, bare⟩
        cases q : H b with
        | none => exact un.keep b o e q (fun z => absurd (show b ∈ ([] : List Addr) from z) (by simp)) (fun z => absurd (show b ∈ ([] : List Addr) from z) (by simp))
        | some u =>
          rcases hO b with z | ⟨ob, xs, z⟩
          · rw [q] at z; cases z
          · have e1 := (hok b _ z).1
            have e2 := (hok' b _ (un.frzs b ob _ z)).1
            rw [e1] at e
            cases e
            exact e2
  cases hk : List.lookup a K with
  | none =>
    refine core (fun b => if b = a then some (.frz { cls := .type "list", data := .seq vs.toArray } (.lst (ns.map V.int))) else none) (fun b => ?_) (.inl (.inr ⟨_, if_pos rfl⟩)) ?_ ?_ (fun _ => hk)
    · by_cases e : b = a
      · exact .inr ⟨_, _, if_pos e⟩
      · exact .inl (if_neg e)
    · intro b u z
      dsimp only at z
      by_cases e : b = a
      · rw [if_pos e] at z
        cases z
        subst e
        exact ⟨ha, by rw [List.length_map]; exact hl, vs, 0, vals_ints hi, ha⟩
      · rw [if_neg e] at z
        cases z
    · intro b z
      by_cases e : b = a
      · exact e
      · exact (z (if_neg e)).elim
  | some o =>
    have e := KX a o hk
    rw [ha] at e
    cases e
    refine core (fun _ => none) (fun b => .inl rfl) (.inr ⟨_, vs.toArray, 0, hk, rfl, rfl, rfl, by
      have := IntsAre.length hi
      simp only [List.size_toArray]
      omega, vals_ints hi⟩) (fun b u z => nomatch z) (fun b z => (z rfl).elim) (fun z => (z rfl).elim)
theorem walk_ofG {l : PySem.W.OpenLaw} {n k : Nat} {q : Program} {loose : List Str} {XP : (Str → Option Value) → Heap → Prop} {YP : World → Heap → Prop} {d : DefRec} {K : Params → PySem.W.Frag} {CX : World → CXT} {sp : World → Sp} {x : Str}
    (hn : l.most = some n) (hn2 : n ≤ sizeLine) (hdf : d.params.defaults = []) (hr : Rg k callerA) (hY : ∀ (w : World) (h : Heap), YP w h → (K w.params).In h)
    (F : ∀ (w : World) (mg : Str → Option Value) (fa : Addr) (h : Heap), (K w.params).In h → h.Ns mainGlobals mg → mg d.name = some (.ref fa) →
      ∃ fd : FuncData, (∀ (s : Shared) (u : Value), BindsTo s fd ⟨[u], []⟩ [(x, u)]) ∧ ∀ base : Heap, (K w.params).In base → base.Ns mainGlobals mg → FnG l.prog w (K w.params) mg base (CX w) k fa fd [x] (sp w))
    (hsp : ∀ (w : World) (H : Hp) (a : Addr) (ns : List Int), ns.length ≤ n → (∀ z ∈ ns, Builtin.Int.intBits z ≤ 1048576) → Only H → SqL (K w.params) H a (ns.map V.int) → sp w [.ref a] H (fun v _ => v = .bl true) fun _ _ _ => False)
    (hCX : ∀ (w : World) (H : Hp) (s : Shared) (e : Value) (s' : Shared), CX w [] H s (fun _ _ _ => False) e s' → False) : PySem.W.WalkO q loose XP YP l.row.toRowW d [] fun f vs => call f vs :=
  Att.attach_callB hn hdf fun w s₀ s₁ mg mb fa o pm cd doc a vs ns G Y _ _ _ hmg hobj hints hlen hbits hg => by
    obtain ⟨fd, h1, h2⟩ := F w mg fa s₁.heap (hY w _ Y) G.T.g hmg
    exact law_callG (hY w _ Y) G.T.g G.T.b G.T.builtins G.T.nolimit hg hobj hints (Nat.le_trans hlen hn2) hr h2 h1 (fun H hO hS => hsp w H a ns hlen hbits hO hS) fun H e s' => hCX w H s₁ e s'
end Pu

namespace Pu
open PySem PySem.Spec PyProof.Rows L2
variable [FnTab]
section
variable {X : Cx} {e a b : Expr} {es : List Expr} {pos : Pos} {ga gb : En → Option D}
/-! ### names, constants -/
def vVar (i : Nat) : En → Option D := fun ρ => match ρ[i]? with
  | some (.val d) => some d
  | _ => none
def rVar (i : Nat) : En → Option Rs := fun ρ => match ρ[i]? with
  | some (.val d) => some (.val d)
  | some (.own ds) => some (.view ds)
  | _ => none
theorem pv_var {i : Nat} (h : PE X e (tVar i)) : PE X e (tPv X.K (vVar i)) := PE.weaken h fun σ H Q ⟨H0, ρ, Hf, d, S, e, q⟩ => by
  unfold vVar at e
  split at e
  · rename_i d' hd
    cases e
    obtain ⟨o, ho, v, rfl, r⟩ := S.at_ i _ hd
    exact ⟨v, ho, q v Hf H (.refl S.sub) r⟩
  · cases e
theorem pu_var {i : Nat} (h : PE X e (tVar i)) : PE X e (tPu X.K (rVar i)) := PE.weaken h fun σ H Q ⟨H0, ρ, Hf, r, S, e, q⟩ => by
  unfold rVar at e
  split at e
  · rename_i d' hd
    cases e
    obtain ⟨o, ho, v, rfl, r⟩ := S.at_ i _ hd
    exact ⟨v, ho, q v Hf H (.refl S.sub) r⟩
  · rename_i d' hd
    cases e
    obtain ⟨o, ho, a, vs, rfl, _, h1, _, r⟩ := S.at_ i _ hd
    exact ⟨_, ho, q _ Hf H (.refl S.sub) ⟨a, vs, rfl, h1, r⟩⟩
  · cases e
def vC (d : D) : En → Option D := fun _ => some d
theorem pv_c {v : V} {d : D} (h : PE X e (tC v)) (r : ∀ H, Rp X.K H v d) : PE X e (tPv X.K (vC d)) := PE.weaken h fun σ H Q ⟨H0, ρ, Hf, d', S, e, q⟩ => by
  cases e
  exact q v Hf H (.refl S.sub) (r _)
/-! ### two values -/
def rPv2 (K : PySem.W.Frag) (f : D → D → Option D) : R2 := fun x y H Q => ∃ Hf a b d, Same Hf H ∧ Rp K Hf x a ∧ Rp K Hf y b ∧ f a b = some d ∧ ∀ v Hf' H', Ext Hf H Hf' H' → Rp K Hf' v d → Q v H'
def b2 (f : D → D → Option D) (ga gb : En → Option D) : En → Option D := fun ρ => (ga ρ).bind fun a => (gb ρ).bind fun b => f a b
theorem b2_some {f : D → D → Option D} {ρ : En} {d : D} (h : b2 f ga gb ρ = some d) : ∃ a b, ga ρ = some a ∧ gb ρ = some b ∧ f a b = some d := by
  unfold b2 at h
  obtain ⟨a, h1, h⟩ := Option.bind_eq_some_iff.mp h
  obtain ⟨b, h2, h⟩ := Option.bind_eq_some_iff.mp h
  exact ⟨a, b, h1, h2, h⟩
theorem tOp_pv {K : PySem.W.Frag} {f : D → D → Option D} {σ : L2.St} {H : Hp} {Q : VK} (h : tPv K (b2 f ga gb) σ H Q) : tOp (rPv2 K f) (tPv K ga) (tPv K gb) σ H Q := by
  obtain ⟨H0, ρ, Hf, d, S, e, q⟩ := h
  obtain ⟨a, b, ea, eb, ef⟩ := b2_some e
  exact ⟨H0, ρ, Hf, a, S, ea, fun x Hf1 H1 x1 r1 => ⟨H0, ρ, Hf1, b, S.ext x1, eb, fun y Hf2 H2 x2 r2 => ⟨Hf2, a, b, d, x2.sub, r1.mono x2.fro, r2, ef, fun v Hf3 H3 x3 r3 => q v Hf3 H3 (x1.trans (x2.trans x3)) r3⟩⟩⟩
theorem pv_op {op : Operator} {f : D → D → Option D} (ho : OpR X (binaryOp op) (rPv2 X.K f)) (ha : PE X a (tPv X.K ga)) (hb : PE X b (tPv X.K gb)) : PE X (.BinOp a op b pos) (tPv X.K (b2 f ga gb)) :=
  PE.weaken (pe_op ho ha hb) fun _ _ _ h => tOp_pv h
theorem pv_cmp {op : CmpOp} {f : D → D → Option D} (ho : OpR X (compareOp op) (rPv2 X.K f)) (ha : PE X a (tPv X.K ga)) (hb : PE X b (tPv X.K gb)) (hm : behindInMarks op b = false) : PE X (.Compare a [op] [b] pos) (tPv X.K (b2 f ga gb)) :=
  PE.weaken (pe_cmpR ho ha hb hm) fun _ _ _ h => tOp_pv h
/-- a view on the left -/
def rPu2 (K : PySem.W.Frag) (f : Rs → D → Option D) : R2 := fun x y H Q => ∃ H0 Hf a b d, Same Hf H ∧ RsOk K H0 Hf H x a ∧ Rp K Hf y b ∧ f a b = some d ∧ ∀ v Hf' H', Ext Hf H Hf' H' → Rp K Hf' v d → Q v H'
theorem OpR.weaken {f : Value → Value → Sem Value} {r r' : R2} (h : OpR X f r) (w : ∀ x y H Q, r' x y H Q → r x y H Q) : OpR X f r' := fun pins s σ H x y v u Q I rx ry q => h pins s σ H x y v u Q I rx ry (w _ _ _ _ q)
/-! ### operators -/
def mulOk (i j : Int) : Bool := decide (i.natAbs < 2 ^ 64) || decide (j.natAbs < 2 ^ 64) || decide (i.natAbs.log2 + j.natAbs.log2 < 134000000)
def divOk (j : Int) : Bool := decide (j ≠ 0) && decide (j.natAbs.log2 < 9000)
def dAdd : D → D → Option D
  | .int a, .int b => some (.int (a + b))
  | .str a, .str b => if a.length + b.length ≤ sizeLine then some (.str (a ++ b)) else none
  | .list a, .list b => if a.length + b.length ≤ sizeLine then some (.list (a ++ b)) else none
  | .tuple a, .tuple b => if a.length + b.length ≤ sizeLine then some (.tuple (a ++ b)) else none
  | _, _ => none
def dSub : D → D → Option D
  | .int a, .int b => some (.int (a - b))
  | _, _ => none
def dMul : D → D → Option D
  | .int a, .int b => if mulOk a b = true then some (.int (a * b)) else none
  | _, _ => none
def dFdiv : D → D → Option D
  | .int a, .int b => if divOk b = true then some (.int (a.fdiv b)) else none
  | _, _ => none
def dMod : D → D → Option D
  | .int a, .int b => if b ≠ 0 then some (.int (a.fmod b)) else none
  | _, _ => none
def dPow : D → D → Option D
  | .int a, .int b => if 0 ≤ b ∧ b ≤ 1000000 ∧ a.natAbs < 2 ^ 64 then some (.int (a ^ b.toNat)) else none
  | _, _ => none
def dXor : D → D → Option D
  | .int a, .int b => some (.int (Builtin.bitXor a b))
  | _, _ => none
theorem mulOk_ok {i j : Int} (h : mulOk i j = true) : IntMulOk i j := by
  unfold mulOk at h
  rw [Bool.or_eq_true, Bool.or_eq_true] at h
  rcases h with (h | h) | h
  · have h := of_decide_eq_true h
    exact CMul.ok (.inl ⟨by omega, by omega⟩)
  · have h := of_decide_eq_true h
    exact CMul.ok (.inr ⟨by omega, by omega⟩)
  · have h := of_decide_eq_true h
    have b : ∀ x : Int, Builtin.Int.intBits x ≤ x.natAbs.log2 + 1 := fun x => by
      unfold Builtin.Int.intBits
      split <;> omega
    have h1 := b i
    have h2 := b j
    have e : bitsLine = 134217728 := by decide
    unfold IntMulOk
    intro z
    rw [Bool.and_eq_true] at z
    have z2 := z.2
    unfold Builtin.Int.intTooBig at z2
    have z3 := of_decide_eq_true z2
    rw [e] at z3
    omega
theorem or_int2 {f : Value → Value → Sem Value} {C : Int → Int → Prop} {g : Int → Int → Int} {F : D → D → Option D} (h : OpR X f (rI C fun i j => .int (g i j)))
    (w : ∀ a b d, F a b = some d → ∃ i j, a = .int i ∧ b = .int j ∧ C i j ∧ d = .int (g i j)) : OpR X f (rPv2 X.K F) := OpR.weaken h fun x y H Q ⟨Hf, a, b, d, s, ra, rb, e, q⟩ => by
  obtain ⟨i, j, rfl, rfl, c, rfl⟩ := w a b d e
  exact ⟨i, j, ra.int_inv, rb.int_inv, c, q _ Hf H (.refl s) (.int _)⟩
theorem op_mulA : OpR X (binaryOp .Mult) (rI (fun i j => mulOk i j = true) fun i j => .int (i * j)) := opI fun _ _ _ _ _ _ _ hc q => mul_int q (mulOk_ok hc)
theorem op_fdivA : OpR X (binaryOp .FloorDiv) (rI (fun _ j => divOk j = true) fun i j => .int (i.fdiv j)) := opI fun i j _ _ _ _ _ hc q => by
  unfold divOk at hc
  rw [Bool.and_eq_true] at hc
  exact floordiv_int (of_decide_eq_true hc.1) q (.inl (PyProof.noPylong_of_log2 (of_decide_eq_true hc.2)))
theorem or_mul : OpR X (binaryOp .Mult) (rPv2 X.K dMul) := or_int2 op_mulA fun a b d h => by
  cases a <;> cases b <;> simp only [dMul] at h <;> first | (split at h; (cases h; exact ⟨_, _, rfl, rfl, by assumption, rfl⟩); cases h) | cases h
theorem or_fdiv : OpR X (binaryOp .FloorDiv) (rPv2 X.K dFdiv) := or_int2 op_fdivA fun a b d h => by
  cases a <;> cases b <;> simp only [dFdiv] at h <;> first | (split at h; (cases h; exact ⟨_, _, rfl, rfl, by assumption, rfl⟩); cases h) | cases h
theorem or_mod : OpR X (binaryOp .Mod) (rPv2 X.K dMod) := or_int2 op_modN fun a b d h => by
  cases a <;> cases b <;> simp only [dMod] at h <;> first | (split at h; (cases h; exact ⟨_, _, rfl, rfl, by assumption, rfl⟩); cases h) | cases h
theorem or_pow : OpR X (binaryOp .Pow) (rPv2 X.K dPow) := or_int2 op_pow fun a b d h => by
  cases a <;> cases b <;> simp only [dPow] at h <;> first | (split at h; (cases h; exact ⟨_, _, rfl, rfl, by assumption, rfl⟩); cases h) | cases h
theorem or_sub : OpR X (binaryOp .Sub) (rPv2 X.K dSub) := or_int2 (C := fun _ _ => True) (OpR.weaken op_sub fun x y H Q ⟨i, j, a, b, _, q⟩ => ⟨i, j, a, b, q⟩) fun a b d h => by
  cases a <;> cases b <;> simp only [dSub] at h <;> first | (cases h; exact ⟨_, _, rfl, rfl, trivial, rfl⟩) | cases h
theorem or_xor : OpR X (binaryOp .BitXor) (rPv2 X.K dXor) := or_int2 (C := fun _ _ => True) (OpR.weaken op_xor fun x y H Q ⟨i, j, a, b, _, q⟩ => ⟨i, j, a, b, q⟩) fun a b d h => by
  cases a <;> cases b <;> simp only [dXor] at h <;> first | (cases h; exact ⟨_, _, rfl, rfl, trivial, rfl⟩) | cases h
/-- list + list, tracked or frozen -/
def rCatR : R2 := fun x y H Q => ∃ l b xs zs, x = .ref l ∧ y = .ref b ∧ Rd H l (.lst xs) ∧ Rd H b (.lst zs) ∧ xs.length + zs.length ≤ sizeLine ∧ ∀ p, H p = none → Q (.ref p) (L2.upd H p (.lst (xs ++ zs)))
theorem op_catR : OpR X (binaryOp .Add) rCatR := by
  intro pins s σ H x y v u Q I rx ry h
  obtain ⟨l, b, xs, zs, rfl, rfl, hH, hB, hz, q⟩ := h
  cases rx
  cases ry
  obtain ⟨z, its, n, r, e⟩ := hH.ok I.hok
  obtain ⟨z2, its2, n2, r2, e2⟩ := hB.ok I.hok
  have hl := r.length
  have hl2 := r2.length
  refine PySem.P.add_list e e2 ?_ (by rw [List.size_toArray, List.size_toArray]; omega)
  have ea : its.toArray ++ its2.toArray = (its ++ its2).toArray := by simp
  rw [ea]
  exact ⟨.ref _, _, I.lnew (t' := s.toks) (r.append r2) (by rw [List.length_append]; omega), rfl, q _ I.fresh⟩
theorem or_add : OpR X (binaryOp .Add) (rPv2 X.K dAdd) := OpR.weaken (((op_add.or op_add_str).or op_catR).or op_catA) fun x y H Q ⟨Hf, a, b, d, s, ra, rb, e, q⟩ => by
  cases a <;> cases b <;> simp only [dAdd] at e <;> first | cases e | skip
  · exact .inl (.inl (.inl ⟨_, _, ra.int_inv, rb.int_inv, q _ Hf H (.refl s) (.int _)⟩))
  · split at e
    · cases e
      exact .inl (.inl (.inr ⟨_, _, ra.str_inv, rb.str_inv, by assumption, q _ Hf H (.refl s) (.str _)⟩))
    · cases e
  · split at e
    · rename_i h
      cases e
      obtain ⟨l1, xs, rfl, h1, r1⟩ := ra.lst_inv
      obtain ⟨l2, ys, rfl, h2, r2⟩ := rb.lst_inv
      exact .inl (.inr ⟨l1, l2, xs, ys, rfl, rfl, Same.rd s h1, Same.rd s h2, by rw [r1.length, r2.length]; exact h, fun p hp => q _ _ _ (.fresh s hp) (.lst upd_same ((r1.append r2).mono (Same.new (s.free hp))))⟩)
    · cases e
  · split at e
    · rename_i h
      cases e
      obtain ⟨l1, xs, rfl, h1, r1⟩ := ra.tup_inv
      obtain ⟨l2, ys, rfl, h2, r2⟩ := rb.tup_inv
      refine .inr ⟨l1, l2, xs, ys, rfl, rfl, Same.seqT s h1, Same.seqT s h2, by rw [r1.length, r2.length]; exact h, fun z => ?_, fun _ z => ?_, fun _ _ p hp => q _ _ _ (.fresh s hp) (.tup (.of upd_same) ((r1.append r2).mono (Same.new (s.free hp))))⟩
      · subst z; cases r1; exact q _ Hf H (.refl s) (.tup h2 r2)
      · subst z; cases r2; rw [List.append_nil] at q; exact q _ Hf H (.refl s) (.tup h1 r1)
    · cases e
/-! ### comparisons of ints and texts -/
def dLt : D → D → Option D
  | .int a, .int b => some (.bool (decide (a < b)))
  | .str a, .str b => some (.bool (decide (a.cps.toList < b.cps.toList)))
  | _, _ => none
def dLe : D → D → Option D
  | .int a, .int b => some (.bool (decide (a ≤ b)))
  | .str a, .str b => some (.bool (!decide (b.cps.toList < a.cps.toList)))
  | _, _ => none
def dGt : D → D → Option D
  | .int a, .int b => some (.bool (decide (b < a)))
  | .str a, .str b => some (.bool (decide (b.cps.toList < a.cps.toList)))
  | _, _ => none
def dGe : D → D → Option D
  | .int a, .int b => some (.bool (decide (b ≤ a)))
  | .str a, .str b => some (.bool (!decide (a.cps.toList < b.cps.toList)))
  | _, _ => none
theorem or_cmp2 {f : Value → Value → Sem Value} {g : Int → Int → Bool} {gs : Str → Str → Bool} {F : D → D → Option D} (h : OpR X f (rI0 fun i j => .bl (g i j)))
    (h' : OpR X f (fun x y H Q => ∃ i j, x = .str i ∧ y = .str j ∧ Q (.bl (gs i j)) H))
    (w : ∀ a b d, F a b = some d → (∃ i j, a = .int i ∧ b = .int j ∧ d = .bool (g i j)) ∨ (∃ i j, a = .str i ∧ b = .str j ∧ d = .bool (gs i j))) : OpR X f (rPv2 X.K F) := OpR.weaken (h.or h') fun x y H Q ⟨Hf, a, b, d, s, ra, rb, e, q⟩ => by
  rcases w a b d e with ⟨i, j, rfl, rfl, rfl⟩ | ⟨i, j, rfl, rfl, rfl⟩
  · exact .inl ⟨i, j, ra.int_inv, rb.int_inv, q _ Hf H (.refl s) (.bl _)⟩
  · exact .inr ⟨i, j, ra.str_inv, rb.str_inv, q _ Hf H (.refl s) (.bl _)⟩
theorem or_lt : OpR X (compareOp .Lt) (rPv2 X.K dLt) := or_cmp2 op_lt op_lt_str fun a b d h => by
  cases a <;> cases b <;> simp only [dLt] at h <;> cases h
  · exact .inl ⟨_, _, rfl, rfl, rfl⟩
  · exact .inr ⟨_, _, rfl, rfl, rfl⟩
theorem or_le : OpR X (compareOp .LtE) (rPv2 X.K dLe) := or_cmp2 op_le op_le_str fun a b d h => by
  cases a <;> cases b <;> simp only [dLe] at h <;> cases h
  · exact .inl ⟨_, _, rfl, rfl, rfl⟩
  · exact .inr ⟨_, _, rfl, rfl, rfl⟩
theorem or_gt : OpR X (compareOp .Gt) (rPv2 X.K dGt) := or_cmp2 op_gt op_gt_str fun a b d h => by
  cases a <;> cases b <;> simp only [dGt] at h <;> cases h
  · exact .inl ⟨_, _, rfl, rfl, rfl⟩
  · exact .inr ⟨_, _, rfl, rfl, rfl⟩
theorem or_ge : OpR X (compareOp .GtE) (rPv2 X.K dGe) := or_cmp2 op_ge op_ge_str fun a b d h => by
  cases a <;> cases b <;> simp only [dGe] at h <;> cases h
  · exact .inl ⟨_, _, rfl, rfl, rfl⟩
  · exact .inr ⟨_, _, rfl, rfl, rfl⟩
/-! ### whole views: what a value is in the heap as it stands -/
def tPw (K : PySem.W.Frag) (g : En → Option D) : TE := fun σ H Q => ∃ H0 ρ Hf d, StOk K H0 ρ σ Hf H ∧ g ρ = some d ∧ ∀ v Hf' H', Ext Hf H Hf' H' → Rp K H' v d → Q v H'
def vw : Rs → D
  | .val d => d
  | .view ds => .list ds
  | .new ds => .list ds
theorem rs_whole {K : PySem.W.Frag} {H0 Hf H : Hp} {v : V} {r : Rs} (h : RsOk K H0 Hf H v r) (s : Same Hf H) : Rp K H v (vw r) := by
  cases r with
  | val d => exact Rp.mono s h
  | view ds => obtain ⟨a, vs, rfl, h1, q⟩ := h; exact .lst h1 (q.mono s)
  | new ds => obtain ⟨a, vs, rfl, _, h1, _, q⟩ := h; exact .lst h1 (q.mono s)
def gw (g : En → Option Rs) : En → Option D := fun ρ => (g ρ).map vw
theorem pw_of {e : Expr} {g : En → Option Rs} (h : PE X e (tPu X.K g)) : PE X e (tPw X.K (gw g)) := PE.weaken h fun σ H Q ⟨H0, ρ, Hf, d, S, e, q⟩ => by
  unfold gw at e
  cases hg : g ρ with
  | none => rw [hg] at e; cases e
  | some r =>
    rw [hg] at e
    cases e
    exact ⟨H0, ρ, Hf, r, S, hg, fun v Hf' H' x ro => q v Hf' H' x (rs_whole ro x.sub)⟩
theorem pw_v {e : Expr} {g : En → Option D} (h : PE X e (tPv X.K g)) : PE X e (tPw X.K g) := PE.weaken h fun σ H Q ⟨H0, ρ, Hf, d, S, e, q⟩ => ⟨H0, ρ, Hf, d, S, e, fun v Hf' H' x ro => q v Hf' H' x (ro.mono x.sub)⟩
def wVar (i : Nat) : En → Option D := fun ρ => match ρ[i]? with
  | some (.val d) => some d
  | some (.own ds) => some (.list ds)
  | _ => none
theorem pw_var {i : Nat} (h : PE X e (tVar i)) : PE X e (tPw X.K (wVar i)) := PE.weaken (pw_of (pu_var h)) fun σ H Q ⟨H0, ρ, Hf, d, S, e, q⟩ => ⟨H0, ρ, Hf, d, S, by
  unfold wVar at e
  unfold gw rVar
  split at e <;> first | (cases e; done) | (cases e; rfl), q⟩
/-! == and != -/
mutual
theorem noDict_lay : ∀ (d : D), d.canLay0 = true → noDict d = true
  | .none, _ => rfl
  | .bool _, _ => rfl
  | .int _, _ => rfl
  | .str _, _ => rfl
  | .list ds, h => noDicts_lay ds (by simpa only [PyData.canLay0] using h)
  | .tuple ds, h => noDicts_lay ds (by simpa only [PyData.canLay0] using h)
  | .dict _, h => by simp [PyData.canLay0] at h
theorem noDicts_lay : ∀ (ds : List D), PyData.canLayAll0 ds = true → noDicts ds = true
  | [], _ => rfl
  | d :: ds, h => by
    simp only [PyData.canLayAll0, Bool.and_eq_true] at h
    simp only [noDicts, Bool.and_eq_true]
    exact ⟨noDict_lay d h.1, noDicts_lay ds h.2⟩
end
theorem dp_of {K : PySem.W.Frag} {H : Hp} {v : V} {d : D} (h : Rp K H v d) (s : SeqAt.shaped d = true) : Dp K H v d := h.dp (noDict_lay d (SeqAt.canLay_of_shaped s))
def dEq (a b : D) : Option D := if SeqAt.shaped a = true ∧ SeqAt.shaped b = true then some (.bool (PyData.eqv a b)) else none
def dNe (a b : D) : Option D := if SeqAt.shaped a = true ∧ SeqAt.shaped b = true then some (.bool (!PyData.eqv a b)) else none
theorem tEq_pv {K : PySem.W.Frag} {σ : L2.St} {H : Hp} {Q : VK} (h : tPv K (b2 dEq ga gb) σ H Q) : tOp (rEqD K) (tPw K ga) (tPw K gb) σ H Q := by
  obtain ⟨H0, ρ, Hf, d, S, e, q⟩ := h
  obtain ⟨da, db, ea, eb, ef⟩ := b2_some e
  unfold dEq at ef
  split at ef
  · rename_i hs
    cases ef
    exact ⟨H0, ρ, Hf, da, S, ea, fun x Hf1 H1 x1 r1 => ⟨H0, ρ, Hf1, db, S.ext x1, eb, fun y Hf2 H2 x2 r2 => ⟨da, db, dp_of (r1.mono x2.all) hs.1, dp_of r2 hs.2, hs.1, hs.2, q _ Hf2 H2 (x1.trans x2) (.bl _)⟩⟩⟩
  · cases ef
theorem tNe_pv {K : PySem.W.Frag} {σ : L2.St} {H : Hp} {Q : VK} (h : tPv K (b2 dNe ga gb) σ H Q) : tOp (rNeD K) (tPw K ga) (tPw K gb) σ H Q := by
  obtain ⟨H0, ρ, Hf, d, S, e, q⟩ := h
  obtain ⟨da, db, ea, eb, ef⟩ := b2_some e
  unfold dNe at ef
  split at ef
  · rename_i hs
    cases ef
    exact ⟨H0, ρ, Hf, da, S, ea, fun x Hf1 H1 x1 r1 => ⟨H0, ρ, Hf1, db, S.ext x1, eb, fun y Hf2 H2 x2 r2 => ⟨da, db, dp_of (r1.mono x2.all) hs.1, dp_of r2 hs.2, hs.1, hs.2, q _ Hf2 H2 (x1.trans x2) (.bl _)⟩⟩⟩
  · cases ef
theorem pv_eq (hu : X.A.units + 64 < cLine) (ha : PE X a (tPw X.K ga)) (hb : PE X b (tPw X.K gb)) : PE X (.Compare a [.Eq] [b] pos) (tPv X.K (b2 dEq ga gb)) :=
  PE.weaken (pe_cmpR (op_eqD hu) ha hb (nomark _)) fun _ _ _ h => tEq_pv h
theorem pv_ne (hu : X.A.units + 64 < cLine) (ha : PE X a (tPw X.K ga)) (hb : PE X b (tPw X.K gb)) : PE X (.Compare a [.NotEq] [b] pos) (tPv X.K (b2 dNe ga gb)) :=
  PE.weaken (pe_cmpR (op_neD hu) ha hb (nomark _)) fun _ _ _ h => tNe_pv h
/-! ### unary, booleans, conditions -/
def b1 (f : D → Option D) (ga : En → Option D) : En → Option D := fun ρ => (ga ρ).bind f
theorem b1_some {f : D → Option D} {ga : En → Option D} {ρ : En} {d : D} (h : b1 f ga ρ = some d) : ∃ a, ga ρ = some a ∧ f a = some d := Option.bind_eq_some_iff.mp h
def dNeg : D → Option D
  | .int a => some (.int (-a))
  | _ => none
theorem pv_neg (ha : PE X a (tPv X.K ga)) : PE X (.UnaryOp .USub a pos) (tPv X.K (b1 dNeg ga)) := PE.weaken (pe_un un_neg ha) fun σ H Q ⟨H0, ρ, Hf, d, S, e, q⟩ => by
  obtain ⟨da, ea, ef⟩ := b1_some e
  cases da <;> simp only [dNeg] at ef <;> cases ef
  exact ⟨H0, ρ, Hf, _, S, ea, fun x Hf1 H1 x1 r1 => ⟨_, r1.int_inv, q _ Hf1 H1 x1 (.int _)⟩⟩
def tPt (K : PySem.W.Frag) (g : En → Option Bool) : TT := fun σ H Q => ∃ H0 ρ Hf b, StOk K H0 ρ σ Hf H ∧ g ρ = some b ∧ ∀ Hf' H', Ext Hf H Hf' H' → Q b H'
def dTru : D → Option Bool
  | .none => some false
  | .bool b => some b
  | .int i => some (i != 0)
  | .str y => if y.length ≤ sizeLine then some ((y.length : Int) != 0) else none
  | .list ds => some (!ds.isEmpty)
  | .tuple ds => some (!ds.isEmpty)
  | .dict [(.list ds, .none)] => some (!ds.isEmpty)
  | .dict _ => none
theorem empty_iff {K : PySem.W.Frag} {H : Hp} {xs : List V} {ds : List D} (r : RpAll K H xs ds) : (!ds.isEmpty) = !xs.isEmpty := by cases r <;> rfl
theorem truV_of {K : PySem.W.Frag} {H : Hp} {v : V} {d : D} {k : Bool} (r : Rp K H v d) (e : dTru d = some k) : TruV K v H k := by
  cases r with
  | non => cases e; rfl
  | bl b => cases e; rfl
  | int i => cases e; rfl
  | str x =>
    simp only [dTru] at e
    split at e
    · cases e; exact ⟨by assumption, rfl⟩
    · cases e
  | lst h q => cases e; exact .inl ⟨_, .inl (.of h), empty_iff q⟩
  | scr h q => cases e; exact .inl ⟨_, h, empty_iff q⟩
  | tup h q => cases e; exact .inr (.inl ⟨_, h, empty_iff q⟩)
  | fn h => simp [dTru, fnD] at e
  | dct h q => cases q with
    | nil => cases e
    | @cons k v vs d ds _ q => cases k <;> simp [dTru, keyD] at e
  | dctT h q => cases q with
    | nil => cases e
    | cons _ q => simp [dTru] at e
def gTru (g : En → Option D) : En → Option Bool := fun ρ => (g ρ).bind dTru
theorem pt_pw {g : En → Option D} (ha : PE X a (tPw X.K g)) (he : ∀ whole, isTrue a X.env whole = (do let v ← whole; standAt a.pos; holding [v] (truthy v)) := by intro _; rfl) : PT X a (tPt X.K (gTru g)) :=
  PT.weaken (pt_truth ha he) fun σ H Q ⟨H0, ρ, Hf, b, S, e, q⟩ => by
    obtain ⟨d, e1, e2⟩ := Option.bind_eq_some_iff.mp e
    exact ⟨H0, ρ, Hf, d, S, e1, fun v Hf' H' x r => ⟨b, truV_of r e2, q Hf' H' x⟩⟩
def gB : D → Option Bool
  | .bool b => some b
  | _ => none
/-- a comparison as a test: its value -/
def tB (g : En → Option D) : En → Option Bool := fun ρ => (g ρ).bind gB
theorem tPt_of {K : PySem.W.Frag} {g : En → Option D} {σ : L2.St} {H : Hp} {Q : Bool → Hp → Prop} (h : tPt K (tB g) σ H Q) : tPv K g σ H (fun x H' => ∃ k, x = .bl k ∧ Q k H') := by
  obtain ⟨H0, ρ, Hf, k, S, e, q⟩ := h
  obtain ⟨d, e1, e2⟩ := Option.bind_eq_some_iff.mp e
  cases d <;> cases e2
  exact ⟨H0, ρ, Hf, _, S, e1, fun v Hf' H' x r => ⟨_, r.bl_inv, q Hf' H' x⟩⟩
theorem pt_cmp2 {op : CmpOp} {f : D → D → Option D} (ho : OpR X (compareOp op) (rPv2 X.K f)) (ha : PE X a (tPv X.K ga)) (hb : PE X b (tPv X.K gb)) (hm : behindInMarks op b = false) : PT X (.Compare a [op] [b] pos) (tPt X.K (tB (b2 f ga gb))) :=
  PT.weaken (pt_cmpR ho ha hb hm) fun _ _ _ h => tOp_pv (tPt_of h)
theorem pt_eq (hu : X.A.units + 64 < cLine) (ha : PE X a (tPw X.K ga)) (hb : PE X b (tPw X.K gb)) : PT X (.Compare a [.Eq] [b] pos) (tPt X.K (tB (b2 dEq ga gb))) :=
  PT.weaken (pt_cmpR (op_eqD hu) ha hb (nomark _)) fun _ _ _ h => tEq_pv (tPt_of h)
theorem pt_ne (hu : X.A.units + 64 < cLine) (ha : PE X a (tPw X.K ga)) (hb : PE X b (tPw X.K gb)) : PT X (.Compare a [.NotEq] [b] pos) (tPt X.K (tB (b2 dNe ga gb))) :=
  PT.weaken (pt_cmpR (op_neD hu) ha hb (nomark _)) fun _ _ _ h => tNe_pv (tPt_of h)
/-- and, or, not -/
def gAnd (ga gb : En → Option D) : En → Option D := fun ρ => match ga ρ with
  | some (.bool true) => gb ρ
  | some (.bool false) => some (.bool false)
  | _ => none
def gOr (ga gb : En → Option D) : En → Option D := fun ρ => match ga ρ with
  | some (.bool true) => some (.bool true)
  | some (.bool false) => gb ρ
  | _ => none
def tAnd2 (ga gb : En → Option Bool) : En → Option Bool := fun ρ => (ga ρ).bind fun c => if c = true then gb ρ else some false
def tOr2 (ga gb : En → Option Bool) : En → Option Bool := fun ρ => (ga ρ).bind fun c => if c = true then some true else gb ρ
theorem pv_and {c : Expr} {rest : List Expr} (ha : PE X a (tPv X.K ga)) (hb : PE X (.BoolOp .And (c :: rest) pos) (tPv X.K gb)) : PE X (.BoolOp .And (a :: c :: rest) pos) (tPv X.K (gAnd ga gb)) :=
  PE.weaken (pe_and ha hb) fun σ H Q ⟨H0, ρ, Hf, d, S, e, q⟩ => by
    unfold gAnd at e
    split at e
    · rename_i h
      exact ⟨H0, ρ, Hf, _, S, h, fun v Hf1 H1 x1 r1 => ⟨true, r1.bl_inv, iteT ⟨H0, ρ, Hf1, d, S.ext x1, e, fun w Hf2 H2 x2 r2 => q w Hf2 H2 (x1.trans x2) r2⟩⟩⟩
    · rename_i h
      cases e
      exact ⟨H0, ρ, Hf, _, S, h, fun v Hf1 H1 x1 r1 => ⟨false, r1.bl_inv, iteF (q _ Hf1 H1 x1 (.bl _))⟩⟩
    · cases e
theorem pv_or {c : Expr} {rest : List Expr} (ha : PE X a (tPv X.K ga)) (hb : PE X (.BoolOp .Or (c :: rest) pos) (tPv X.K gb)) : PE X (.BoolOp .Or (a :: c :: rest) pos) (tPv X.K (gOr ga gb)) :=
  PE.weaken (pe_or ha hb) fun σ H Q ⟨H0, ρ, Hf, d, S, e, q⟩ => by
    unfold gOr at e
    split at e
    · rename_i h
      cases e
      exact ⟨H0, ρ, Hf, _, S, h, fun v Hf1 H1 x1 r1 => ⟨true, r1.bl_inv, iteT (q _ Hf1 H1 x1 (.bl _))⟩⟩
    · rename_i h
      exact ⟨H0, ρ, Hf, _, S, h, fun v Hf1 H1 x1 r1 => ⟨false, r1.bl_inv, iteF ⟨H0, ρ, Hf1, d, S.ext x1, e, fun w Hf2 H2 x2 r2 => q w Hf2 H2 (x1.trans x2) r2⟩⟩⟩
    · cases e
theorem pv_one {op : BoolOp} (h : PE X a (tPv X.K ga)) : PE X (.BoolOp op [a] pos) (tPv X.K ga) := pe_one h
def dNot : D → Option D
  | .bool b => some (.bool (!b))
  | _ => none
theorem pv_not (ha : PE X a (tPv X.K ga)) : PE X (.UnaryOp .Not a pos) (tPv X.K (b1 dNot ga)) := PE.weaken (pe_not ha) fun σ H Q ⟨H0, ρ, Hf, d, S, e, q⟩ => by
  obtain ⟨da, ea, ef⟩ := b1_some e
  cases da <;> simp only [dNot] at ef <;> cases ef
  exact ⟨H0, ρ, Hf, _, S, ea, fun x Hf1 H1 x1 r1 => ⟨_, r1.bl_inv, q _ Hf1 H1 x1 (.bl _)⟩⟩
section
variable {ta tb : En → Option Bool}
theorem qw_and1 (ha : PT X a (tPt X.K ta)) : PW X (.BoolOp .And [a] pos) (tPt X.K ta) := pw_and1 ha
theorem qw_or1 (ha : PT X a (tPt X.K ta)) : PW X (.BoolOp .Or [a] pos) (tPt X.K ta) := pw_or1 ha
theorem PW.weaken {e : Expr} {t t' : TT} (h : PW X e t) (w : ∀ σ H Q, t' σ H Q → t σ H Q) : PW X e t' := ⟨fun whole pins s σ H Q I q => h.run whole pins s σ H Q I (w σ H Q q)⟩
theorem qw_and {c : Expr} {rest : List Expr} (ha : PT X a (tPt X.K ta)) (hb : PW X (.BoolOp .And (c :: rest) pos) (tPt X.K tb)) : PW X (.BoolOp .And (a :: c :: rest) pos) (tPt X.K (tAnd2 ta tb)) :=
  PW.weaken (pw_and ha hb) fun σ H Q ⟨H0, ρ, Hf, d, S, e, q⟩ => by
    obtain ⟨c, e1, e2⟩ := Option.bind_eq_some_iff.mp e
    refine ⟨H0, ρ, Hf, c, S, e1, fun Hf1 H1 x1 => ?_⟩
    cases c with
    | true => rw [if_pos rfl] at e2 ⊢; exact ⟨H0, ρ, Hf1, d, S.ext x1, e2, fun Hf2 H2 x2 => q Hf2 H2 (x1.trans x2)⟩
    | false => rw [if_neg Bool.false_ne_true] at e2 ⊢; cases e2; exact q Hf1 H1 x1
theorem qw_or {c : Expr} {rest : List Expr} (ha : PT X a (tPt X.K ta)) (hb : PW X (.BoolOp .Or (c :: rest) pos) (tPt X.K tb)) : PW X (.BoolOp .Or (a :: c :: rest) pos) (tPt X.K (tOr2 ta tb)) :=
  PW.weaken (pw_or ha hb) fun σ H Q ⟨H0, ρ, Hf, d, S, e, q⟩ => by
    obtain ⟨c, e1, e2⟩ := Option.bind_eq_some_iff.mp e
    refine ⟨H0, ρ, Hf, c, S, e1, fun Hf1 H1 x1 => ?_⟩
    cases c with
    | true => rw [if_pos rfl] at e2 ⊢; cases e2; exact q Hf1 H1 x1
    | false => rw [if_neg Bool.false_ne_true] at e2 ⊢; exact ⟨H0, ρ, Hf1, d, S.ext x1, e2, fun Hf2 H2 x2 => q Hf2 H2 (x1.trans x2)⟩
def tNot2 (ta : En → Option Bool) : En → Option Bool := fun ρ => (ta ρ).map (!·)
theorem qt_not (ha : PT X a (tPt X.K ta)) : PT X (.UnaryOp .Not a pos) (tPt X.K (tNot2 ta)) := PT.weaken (pt_not ha) fun σ H Q ⟨H0, ρ, Hf, d, S, e, q⟩ => by
  unfold tNot2 at e
  obtain ⟨c, e1, e2⟩ := Option.map_eq_some_iff.mp e
  subst e2
  exact ⟨H0, ρ, Hf, c, S, e1, q⟩
def gIf (tc : En → Option Bool) (ga gb : En → Option D) : En → Option D := fun ρ => (tc ρ).bind fun c => if c = true then ga ρ else gb ρ
theorem pv_if {c : Expr} (hc : PT X c (tPt X.K ta)) (ha : PE X a (tPv X.K ga)) (hb : PE X b (tPv X.K gb)) : PE X (.IfExp c a b pos) (tPv X.K (gIf ta ga gb)) := PE.weaken (pe_ifExp hc ha hb) fun σ H Q ⟨H0, ρ, Hf, d, S, e, q⟩ => by
  obtain ⟨c, e1, e2⟩ := Option.bind_eq_some_iff.mp e
  refine ⟨H0, ρ, Hf, c, S, e1, fun Hf1 H1 x1 => ?_⟩
  cases c with
  | true => rw [if_pos rfl] at e2 ⊢; exact ⟨H0, ρ, Hf1, d, S.ext x1, e2, fun v Hf2 H2 x2 r => q v Hf2 H2 (x1.trans x2) r⟩
  | false => rw [if_neg Bool.false_ne_true] at e2 ⊢; exact ⟨H0, ρ, Hf1, d, S.ext x1, e2, fun v Hf2 H2 x2 r => q v Hf2 H2 (x1.trans x2) r⟩
end
/-! ### items -/
theorem Rp.scr_inv {K : PySem.W.Frag} {H : Hp} {v : V} {d : D} {ds : List D} (h : Rp K H v d) (e : d = scrD ds) : ∃ a xs, v = .ref a ∧ SqL K H a xs ∧ RpAll K H xs ds := by
  cases h with
  | scr h1 q =>
    injection e with e
    injection e with e _
    injection e with e _
    injection e with e
    subst e
    exact ⟨_, _, rfl, h1, q⟩
  | fn h1 => simp [fnD, scrD] at e
  | dct h1 q =>
    injection e with e
    cases q with
    | nil => cases e
    | @cons k v vs d ds _ q =>
      injection e with e _
      injection e with e _
      cases k <;> cases e
  | dctT h1 q =>
    injection e with e
    cases q with
    | nil => cases e
    | cons _ q =>
      injection e with e _
      injection e with e _
      cases e
  | _ => cases e
def lstOf : Rs → Option (List D)
  | .val (.list ds) => some ds
  | .val (.dict [(.list ds, .none)]) => some ds
  | .view ds => some ds
  | .new ds => some ds
  | _ => none
theorem lst_of {K : PySem.W.Frag} {H0 Hf H : Hp} {v : V} {r : Rs} {ds : List D} (h : RsOk K H0 Hf H v r) (s : Same Hf H) (e : lstOf r = some ds) : ∃ a xs, v = .ref a ∧ SqL K H a xs ∧ RpAll K Hf xs ds := by
  unfold lstOf at e
  split at e
  · cases e
    obtain ⟨a, xs, rfl, h1, q⟩ := Rp.lst_inv h
    exact ⟨a, xs, rfl, .inl (Same.rd s h1), q⟩
  · rename_i es
    cases e
    obtain ⟨a, xs, rfl, h1, q⟩ := Rp.scr_inv (show Rp K Hf v _ from h) rfl
    exact ⟨a, xs, rfl, s.seq h1, q⟩
  · cases e
    obtain ⟨a, vs, rfl, h1, q⟩ := h
    exact ⟨a, vs, rfl, .of h1, q⟩
  · cases e
    obtain ⟨a, vs, rfl, _, h1, _, q⟩ := h
    exact ⟨a, vs, rfl, .of h1, q⟩
  · cases e
def dIx (r : Rs) (i : D) : Option D := match i with
  | .int i => match lstOf r with
    | some ds => atI ds i
    | none => match r with
      | .val (.tuple ds) => atI ds i
      | .val (.str z) => if z.length ≤ sizeLine then (atI z.cps.toList i).map fun c => .str ⟨#[c]⟩ else none
      | _ => none
  | _ => none
theorem atI_rp {K : PySem.W.Frag} {H : Hp} {xs : List V} {ds : List D} {i : Int} {d : D} (r : RpAll K H xs ds) (e : atI ds i = some d) : ∃ v, atI xs i = some v ∧ Rp K H v d := by
  unfold atI at e ⊢
  rw [r.length]
  obtain ⟨j, h1, h2⟩ := Option.bind_eq_some_iff.mp e
  obtain ⟨v, h3, q⟩ := r.get h2
  exact ⟨v, by rw [h1]; exact h3, q⟩
def gIx (gr : En → Option Rs) (gi : En → Option D) : En → Option D := fun ρ => (gr ρ).bind fun r => (gi ρ).bind fun i => dIx r i
theorem pv_ix {gr : En → Option Rs} {gi : En → Option D} (ha : PE X a (tPu X.K gr)) (hb : PE X b (tPv X.K gi)) (hs : PlainIx b) : PE X (.Subscript a b pos) (tPv X.K (gIx gr gi)) :=
  PE.weaken (pe_ix ix_seq ha hb hs) fun σ H Q ⟨H0, ρ, Hf, d, S, e, q⟩ => by
    obtain ⟨r, e1, e⟩ := Option.bind_eq_some_iff.mp e
    obtain ⟨i, e2, e⟩ := Option.bind_eq_some_iff.mp e
    unfold dIx at e
    split at e
    · rename_i i
      refine ⟨H0, ρ, Hf, r, S, e1, fun v Hf1 H1 x1 r1 => ⟨H0, ρ, Hf1, _, S.ext x1, e2, fun w Hf2 H2 x2 r2 => ?_⟩⟩
      split at e
      · rename_i ds hl
        obtain ⟨l, xs, rfl, h1, ra⟩ := lst_of r1 x1.sub hl
        obtain ⟨u, h2, ru⟩ := atI_rp ra e
        exact .inl ⟨l, xs, i, u, rfl, r2.int_inv, x2.all.seq h1, h2, q u Hf2 H2 (x1.trans x2) (ru.mono x2.fro)⟩
      · split at e
        · obtain ⟨l, xs, rfl, h1, ra⟩ := Rp.tup_inv r1
          obtain ⟨u, h2, ru⟩ := atI_rp ra e
          exact .inr (.inl ⟨l, xs, i, u, rfl, r2.int_inv, Same.seqT x2.all (Same.seqT x1.sub h1), h2, q u Hf2 H2 (x1.trans x2) (ru.mono x2.fro)⟩)
        · split at e
          · obtain ⟨c, e3, e4⟩ := Option.map_eq_some_iff.mp e
            subst e4
            exact .inr (.inr ⟨_, i, c, Rp.str_inv r1, r2.int_inv, by assumption, e3, q _ Hf2 H2 (x1.trans x2) (.str _)⟩)
          · cases e
        · cases e
    · cases e
/-! ### arguments, displays, calls -/
def tPa (K : PySem.W.Frag) (g : En → Option (List D)) : TA := fun σ H Q => ∃ H0 ρ Hf ds, StOk K H0 ρ σ Hf H ∧ g ρ = some ds ∧ ∀ vs Hf' H', Ext Hf H Hf' H' → RpAll K Hf' vs ds → Q vs H'
def aNil : En → Option (List D) := fun _ => some []
def aCons (g : En → Option D) (gs : En → Option (List D)) : En → Option (List D) := fun ρ => (g ρ).bind fun d => (gs ρ).bind fun ds => some (d :: ds)
theorem qa_nil : PA X [] (tPa X.K aNil) := PA.weaken pa_nil fun σ H Q ⟨H0, ρ, Hf, ds, S, e, q⟩ => by cases e; exact q [] Hf H (.refl S.sub) .nil
theorem qa_cons {gs : En → Option (List D)} (ha : PE X e (tPv X.K ga)) (hr : PA X es (tPa X.K gs)) (hs : starEach (e :: es) X.env = (false, eval e X.env) :: starEach es X.env := by rfl) : PA X (e :: es) (tPa X.K (aCons ga gs)) :=
  PA.weaken (pa_cons ha hr hs) fun σ H Q ⟨H0, ρ, Hf, ds, S, e, q⟩ => by
    obtain ⟨d, e1, e⟩ := Option.bind_eq_some_iff.mp e
    obtain ⟨r, e2, e⟩ := Option.bind_eq_some_iff.mp e
    cases e
    exact ⟨H0, ρ, Hf, d, S, e1, fun v Hf1 H1 x1 r1 => ⟨H0, ρ, Hf1, r, S.ext x1, e2, fun vs Hf2 H2 x2 r2 => q (v :: vs) Hf2 H2 (x1.trans x2) (.cons (r1.mono x2.fro) r2)⟩⟩
def gTup2 (gs : En → Option (List D)) : En → Option D := fun ρ => (gs ρ).bind fun ds => if ds.length ≤ sizeLine then some (.tuple ds) else none
def gLst2 (gs : En → Option (List D)) : En → Option Rs := fun ρ => (gs ρ).bind fun ds => if ds.length ≤ sizeLine then some (.new ds) else none
theorem pv_tup {gs : En → Option (List D)} {x1} (h : PA X es (tPa X.K gs)) : PE X (.Tuple es x1 pos) (tPv X.K (gTup2 gs)) := PE.weaken (pe_tup h) fun σ H Q ⟨H0, ρ, Hf, d, S, e, q⟩ => by
  obtain ⟨ds, e1, e⟩ := Option.bind_eq_some_iff.mp e
  split at e
  · rename_i hl
    cases e
    exact ⟨H0, ρ, Hf, ds, S, e1, fun vs Hf1 H1 x1 r1 => ⟨by rw [r1.length]; exact hl, fun p hp => q _ _ _ (x1.trans (.fresh x1.sub hp)) (.tup (.of upd_same) (r1.mono (Same.new (x1.sub.free hp))))⟩⟩
  · cases e
theorem pu_lst {gs : En → Option (List D)} (h : PA X es (tPa X.K gs)) : PE X (.List es pos) (tPu X.K (gLst2 gs)) := PE.weaken (pe_lst h) fun σ H Q ⟨H0, ρ, Hf, d, S, e, q⟩ => by
  obtain ⟨ds, e1, e⟩ := Option.bind_eq_some_iff.mp e
  split at e
  · rename_i hl
    cases e
    exact ⟨H0, ρ, Hf, ds, S, e1, fun vs Hf1 H1 x1 r1 => ⟨by rw [r1.length]; exact hl, fun p hp => q _ _ _ (x1.trans (.loose x1.sub hp)) ⟨p, vs, rfl, x1.all.free hp, upd_same, x1.sub.free hp, r1⟩⟩⟩
  · cases e
/-- the promise of a pure def -/
def spPu (K : PySem.W.Frag) (n : Nat) (φ : List D → Option D) : Sp := fun vs H Q _ => ∃ Hf ds d, ds.length = n ∧ Same Hf H ∧ RpAll K Hf vs ds ∧ φ ds = some d ∧ ∀ v Hf' H', Ext Hf H Hf' H' → Rp K Hf' v d → Q v H'
theorem spPu_len {K : PySem.W.Frag} {n : Nat} {φ : List D → Option D} {vs : List V} {H : Hp} {Q : VK} {E : XK} (h : spPu K n φ vs H Q E) : vs.length = n := by
  obtain ⟨Hf, ds, d, rfl, _, r, _⟩ := h
  exact r.length
def gCall (n : Nat) (φ : List D → Option D) (gs : En → Option (List D)) : En → Option D := fun ρ => (gs ρ).bind fun ds => if ds.length = n then φ ds else none
theorem tCall_pv {K : PySem.W.Frag} {n : Nat} {φ : List D → Option D} {gs : En → Option (List D)} {E : XK} {σ : L2.St} {H : Hp} {Q : VK} (h : tPv K (gCall n φ gs) σ H Q) : tCall (spPu K n φ) [] E (tPa K gs) σ H Q := by
  obtain ⟨H0, ρ, Hf, d, S, e, q⟩ := h
  obtain ⟨ds, e1, e⟩ := Option.bind_eq_some_iff.mp e
  split at e
  · rename_i hl
    refine ⟨H0, ρ, Hf, ds, S, e1, fun vs Hf1 H1 x1 r1 => ?_⟩
    show spPu K n φ (vs ++ []) H1 Q E
    rw [List.append_nil]
    exact ⟨Hf1, ds, d, hl, x1.sub, r1, e, fun v Hf2 H2 x2 r2 => q v Hf2 H2 (x1.trans x2) r2⟩
  · cases e
theorem pv_call {CX : CXT} {E : XK} {k n : Nat} {f : Addr} {fd : FuncData} {ps : List Str} {x : Str} {p : Pos} {φ : List D → Option D} {gs : En → Option (List D)} (F : FnG X.prog X.w X.K X.mg X.base CX k f fd ps (spPu X.K n φ)) (hr : Rg k X.A) (hg : Gl X x) (hm : X.mg x = some (.ref f))
    (hk : PySem.W.keepIn X.K (.ref f) = true) (hb : Binds X.K fd ps []) (hx : Passes CX X E) (ha : PA X (e :: es) (tPa X.K gs)) (hdb : (x == ("__debug__" : Str)) = false := by decide) (he : starEach (e :: es) X.env = (false, eval e X.env) :: starEach es X.env := by rfl)
    (hpl : (backTo pos (starEach es X.env)).any (·.1) = false := by rfl) : PE X (.Call (.Name x p) (e :: es) [] pos) (tPv X.K (gCall n φ gs)) :=
  PE.weaken (pe_callG F hr hg hm hk hb .nil hx ha hdb he hpl) fun _ _ _ h => tCall_pv h
/-- builtin functions by values -/
def rPc (K : PySem.W.Frag) (f : List D → Option D) : List V → Hp → VK → Prop := fun vs H Q => ∃ Hf ds d, Same Hf H ∧ RpAll K Hf vs ds ∧ f ds = some d ∧ ∀ v Hf' H', Ext Hf H Hf' H' → Rp K Hf' v d → Q v H'
theorem CallR.weaken {f : Value} {r r' : List V → Hp → VK → Prop} (h : CallR X f r) (w : ∀ xs H Q, r' xs H Q → r xs H Q) : CallR X f r' := fun pins s σ H xs us Q I rs q => h pins s σ H xs us Q I rs (w _ _ _ q)
def gFn (f : List D → Option D) (gs : En → Option (List D)) : En → Option D := fun ρ => (gs ρ).bind f
theorem tCB_pv {K : PySem.W.Frag} {f : List D → Option D} {gs : En → Option (List D)} {σ : L2.St} {H : Hp} {Q : VK} (h : tPv K (gFn f gs) σ H Q) : tCB (rPc K f) (tPa K gs) σ H Q := by
  obtain ⟨H0, ρ, Hf, d, S, e, q⟩ := h
  obtain ⟨ds, e1, e⟩ := Option.bind_eq_some_iff.mp e
  exact ⟨H0, ρ, Hf, ds, S, e1, fun vs Hf1 H1 x1 r1 => ⟨Hf1, ds, d, x1.sub, r1, e, fun v Hf2 H2 x2 r2 => q v Hf2 H2 (x1.trans x2) r2⟩⟩
theorem pv_callB {id : String} {f : List D → Option D} {x : Str} {p : Pos} {gs : En → Option (List D)} (hc : CallR X (.builtin id) (rPc X.K f)) (hg : Gl X x) (hm : X.mg x = none) (hv : bootBuiltins x = some (.builtin id)) (ha : PA X (e :: es) (tPa X.K gs)) (hn : x ≠ "__name__" := by decide)
    (hdb : (x == ("__debug__" : Str)) = false := by decide) (he : starEach (e :: es) X.env = (false, eval e X.env) :: starEach es X.env := by rfl) (hpl : (backTo pos (starEach es X.env)).any (·.1) = false := by rfl) : PE X (.Call (.Name x p) (e :: es) [] pos) (tPv X.K (gFn f gs)) :=
  PE.weaken (pe_callB hc hg hm hv ha hn hdb he hpl) fun _ _ _ h => tCB_pv h
theorem pv_callT {T : String} {f : List D → Option D} {x : Str} {p : Pos} {gs : En → Option (List D)} (hc : CallR X (.type T) (rPc X.K f)) (hg : Gl X x) (hm : X.mg x = none) (hv : bootBuiltins x = some (.type T)) (ha : PA X (e :: es) (tPa X.K gs)) (hn : x ≠ "__name__" := by decide)
    (hdb : (x == ("__debug__" : Str)) = false := by decide) (he : starEach (e :: es) X.env = (false, eval e X.env) :: starEach es X.env := by rfl) (hpl : (backTo pos (starEach es X.env)).any (·.1) = false := by rfl) : PE X (.Call (.Name x p) (e :: es) [] pos) (tPv X.K (gFn f gs)) :=
  PE.weaken (pe_callTy hc hg hm hv ha hn hdb he hpl) fun _ _ _ h => tCB_pv h
end
end Pu

namespace Pu
open PySem PySem.Spec PyProof.Rows L2
variable [FnTab]
section
variable {X : Cx} {e a b : Expr} {es : List Expr} {pos : Pos} {ga gb : En → Option D}
/-! ### built-in functions of one argument -/
def rR1 (K : PySem.W.Frag) (f : Rs → Option Rs) : List V → Hp → VK → Prop := fun vs H Q => ∃ H0 Hf v r d, vs = [v] ∧ Same Hf H ∧ RsOk K H0 Hf H v r ∧ f r = some d ∧ ∀ w Hf' H', Ext Hf H Hf' H' → RsOk K H Hf' H' w d → Q w H'
def gR1 (f : Rs → Option Rs) (g : En → Option Rs) : En → Option Rs := fun ρ => (g ρ).bind f
theorem rs_older {K : PySem.W.Frag} {H1 H0 Hf H : Hp} {v : V} {r : Rs} (s : Same H1 H0) (h : RsOk K H0 Hf H v r) : RsOk K H1 Hf H v r := by
  cases r with
  | val d => exact h
  | view ds => exact h
  | new ds => obtain ⟨a, vs, e, h0, h1, h2, q⟩ := h; exact ⟨a, vs, e, s.free h0, h1, h2, q⟩
theorem tCB1_pu {K : PySem.W.Frag} {f : Rs → Option Rs} {g : En → Option Rs} {σ : L2.St} {H : Hp} {Q : VK} (h : tPu K (gR1 f g) σ H Q) : tCB (rR1 K f) (tCons (tPu K g) tNil) σ H Q := by
  obtain ⟨H0, ρ, Hf, d, S, e, q⟩ := h
  obtain ⟨r, e1, e⟩ := Option.bind_eq_some_iff.mp e
  exact ⟨H0, ρ, Hf, r, S, e1, fun v Hf1 H1 x1 r1 => ⟨H, Hf1, v, r, d, rfl, x1.sub, r1, e, fun w Hf2 H2 x2 r2 => q w Hf2 H2 (x1.trans x2) (rs_older x1.all r2)⟩⟩
theorem pu_call1 {id : String} {f : Rs → Option Rs} {x : Str} {p : Pos} {g : En → Option Rs} (hc : CallR X (.builtin id) (rR1 X.K f)) (hg : Gl X x) (hm : X.mg x = none) (hv : bootBuiltins x = some (.builtin id)) (ha : PE X e (tPu X.K g)) (hn : x ≠ "__name__" := by decide)
    (hdb : (x == ("__debug__" : Str)) = false := by decide) (he : starEach [e] X.env = (false, eval e X.env) :: starEach [] X.env := by rfl) (hpl : (backTo pos (starEach [] X.env)).any (·.1) = false := by rfl) : PE X (.Call (.Name x p) [e] [] pos) (tPu X.K (gR1 f g)) :=
  PE.weaken (pe_callB hc hg hm hv (pa_cons ha pa_nil he) hn hdb he hpl) fun _ _ _ h => tCB1_pu h
theorem pu_callT1 {T : String} {f : Rs → Option Rs} {x : Str} {p : Pos} {g : En → Option Rs} (hc : CallR X (.type T) (rR1 X.K f)) (hg : Gl X x) (hm : X.mg x = none) (hv : bootBuiltins x = some (.type T)) (ha : PE X e (tPu X.K g)) (hn : x ≠ "__name__" := by decide)
    (hdb : (x == ("__debug__" : Str)) = false := by decide) (he : starEach [e] X.env = (false, eval e X.env) :: starEach [] X.env := by rfl) (hpl : (backTo pos (starEach [] X.env)).any (·.1) = false := by rfl) : PE X (.Call (.Name x p) [e] [] pos) (tPu X.K (gR1 f g)) :=
  PE.weaken (pe_callTy hc hg hm hv (pa_cons ha pa_nil he) hn hdb he hpl) fun _ _ _ h => tCB1_pu h
/-- len -/
def dLen (r : Rs) : Option Rs := match lstOf r with
  | some ds => some (.val (.int ds.length))
  | none => match r with
    | .val (.tuple ds) => some (.val (.int ds.length))
    | .val (.str z) => if z.length ≤ sizeLine then some (.val (.int z.length)) else none
    | _ => none
theorem cl_len : CallR X (.builtin "len") (rR1 X.K dLen) := CallR.weaken (call_len_seq.or call_len_str) fun vs H Q ⟨H0, Hf, v, r, d, e, s, ro, ef, q⟩ => by
  subst e
  unfold dLen at ef
  split at ef
  · rename_i ds hl
    cases ef
    obtain ⟨a, xs, rfl, h1, ra⟩ := lst_of ro s hl
    refine .inl ⟨a, xs, rfl, .inl h1, ?_⟩
    rw [ra.length]
    exact q _ Hf H (.refl s) (.int _)
  · split at ef
    · cases ef
      obtain ⟨a, xs, rfl, h1, ra⟩ := Rp.tup_inv ro
      refine .inl ⟨a, xs, rfl, .inr (Same.seqT s h1), ?_⟩
      rw [ra.length]
      exact q _ Hf H (.refl s) (.int _)
    · split at ef
      · cases ef
        exact .inr ⟨_, by rw [Rp.str_inv ro], by assumption, q _ Hf H (.refl s) (.int _)⟩
      · cases ef
    · cases ef
/-! sorted, sum, any, all, max, min, list -/
def asInt : D → Option Int
  | .int i => some i
  | _ => none
def asPair : D → Option (Int × Int)
  | .tuple [.int i, .int j] => some (i, j)
  | _ => none
def asBool : D → Option Bool
  | .bool b => some b
  | _ => none
def allOf {α : Type} (f : D → Option α) : List D → Option (List α)
  | [] => some []
  | d :: ds => (f d).bind fun x => (allOf f ds).map (x :: ·)
def pairD (p : Int × Int) : D := .tuple [.int p.1, .int p.2]
theorem allOf_some {α : Type} {f : D → Option α} {g : α → D} (h : ∀ d x, f d = some x → d = g x) : ∀ {ds : List D} {xs : List α}, allOf f ds = some xs → ds = xs.map g
  | [], _, e => by cases e; rfl
  | d :: ds, _, e => by
    obtain ⟨x, e1, e⟩ := Option.bind_eq_some_iff.mp e
    obtain ⟨r, e2, e⟩ := Option.map_eq_some_iff.mp e
    subst e
    rw [h d x e1, allOf_some h e2]
    rfl
theorem allOf_map {α : Type} {f : D → Option α} {g : α → D} (h : ∀ x, f (g x) = some x) : ∀ (xs : List α), allOf f (xs.map g) = some xs
  | [] => rfl
  | x :: xs => by rw [List.map_cons, allOf, h, allOf_map h xs]; rfl
theorem asInt_inv (d : D) (x : Int) (h : asInt d = some x) : d = .int x := by cases d <;> simp [asInt] at h; rw [h]
theorem asBool_inv (d : D) (x : Bool) (h : asBool d = some x) : d = .bool x := by cases d <;> simp [asBool] at h; rw [h]
theorem asPair_inv (d : D) (x : Int × Int) (h : asPair d = some x) : d = pairD x := by
  unfold asPair at h
  split at h
  · cases h; rfl
  · cases h
def leP (p q : Int × Int) : Bool := decide (p.1 < q.1) || (decide (p.1 = q.1) && decide (p.2 ≤ q.2))
theorem leP_iff {p q : Int × Int} : leP p q = true ↔ p.1 < q.1 ∨ (p.1 = q.1 ∧ p.2 ≤ q.2) := by simp [leP]
def sortI (ns : List Int) : List Int := ns.mergeSort fun a b => decide (a ≤ b)
def sortP (ps : List (Int × Int)) : List (Int × Int) := ps.mergeSort leP
theorem sortI_perm (ns : List Int) : (sortI ns).Perm ns := List.mergeSort_perm _ _
theorem sortP_perm (ns : List (Int × Int)) : (sortP ns).Perm ns := List.mergeSort_perm _ _
theorem sortI_sorted (ns : List Int) : (sortI ns).Pairwise (· ≤ ·) := by
  have h := List.pairwise_mergeSort (le := fun a b : Int => decide (a ≤ b)) (fun a b c h1 h2 => by simp only [decide_eq_true_eq] at *; omega) (fun a b => by simp only [Bool.or_eq_true, decide_eq_true_eq]; omega) ns
  exact h.imp fun h => of_decide_eq_true h
theorem sortP_sorted (ns : List (Int × Int)) : (sortP ns).Pairwise (fun p q => leP p q = true) :=
  List.pairwise_mergeSort (fun a b c h1 h2 => by rw [leP_iff] at *; omega) (fun a b => by rw [Bool.or_eq_true, leP_iff, leP_iff]; omega) ns
theorem sortI_uniq {ns ns' : List Int} (p : ns'.Perm ns) (h : ns'.Pairwise (· ≤ ·)) : ns' = sortI ns :=
  List.Perm.eq_of_pairwise (le := (· ≤ ·)) (fun a b _ _ h1 h2 => Int.le_antisymm h1 h2) h (sortI_sorted ns) (p.trans (sortI_perm ns).symm)
theorem sortP_uniq {ns ns' : List (Int × Int)} (p : ns'.Perm ns) (h : ns'.Pairwise (fun p q => leP p q = true)) : ns' = sortP ns :=
  List.Perm.eq_of_pairwise (le := fun p q => leP p q = true) (fun a b _ _ h1 h2 => by
    rw [leP_iff] at h1 h2
    exact Prod.ext (by omega) (by omega)) h (sortP_sorted ns) (p.trans (sortP_perm ns).symm)
def dSorted (r : Rs) : Option Rs := (lstOf r).bind fun ds => match allOf asInt ds with
  | some ns => some (.new ((sortI ns).map .int))
  | none => (allOf asPair ds).map fun ps => .new ((sortP ps).map pairD)
/-- the pair that a value stands for -/
noncomputable def pairOf (K : PySem.W.Frag) (H : Hp) (v : V) : Int × Int := by
  classical
  exact if h : ∃ p : Int × Int, ∃ t, v = .ref t ∧ SqT K H t [.int p.1, .int p.2] then h.choose else (0, 0)
theorem pairD_inv {K : PySem.W.Frag} {H : Hp} {v : V} {p : Int × Int} (h : Rp K H v (pairD p)) : ∃ t, v = .ref t ∧ SqT K H t [.int p.1, .int p.2] := by
  obtain ⟨t, xs, rfl, h1, ra⟩ := Rp.tup_inv h
  cases ra with
  | cons a b =>
    cases b with
    | cons b c =>
      cases c
      rw [a.int_inv, b.int_inv] at h1
      exact ⟨t, rfl, h1⟩
theorem pairOf_eq {pins : List (Addr × Obj)} {σ : L2.St} {H : Hp} {s : Shared} {v : V} {p : Int × Int} (I : Inv X pins σ H s) (h : ∃ t, v = .ref t ∧ SqT X.K H t [.int p.1, .int p.2]) : pairOf X.K H v = p := by
  have h' : ∃ p : Int × Int, ∃ t, v = .ref t ∧ SqT X.K H t [.int p.1, .int p.2] := ⟨p, h⟩
  unfold pairOf
  rw [dif_pos h']
  obtain ⟨t, e, q⟩ := h
  obtain ⟨t', e', q'⟩ := h'.choose_spec
  rw [e] at e'
  cases e'
  have z := I.tuple_inj q' q
  injection z with z1 z
  injection z with z2 _
  injection z1 with z1
  injection z2 with z2
  exact Prod.ext z1 z2
theorem pairs_rp {K : PySem.W.Frag} {H : Hp} : ∀ {vs : List V} {ps : List (Int × Int)}, RpAll K H vs (ps.map pairD) → ∀ x ∈ vs, ∃ p, Rp K H x (pairD p)
  | _, [], h => by cases h; simp
  | _, p :: ps, h => by
    cases h with
    | cons a b =>
      intro x hx
      rcases List.mem_cons.mp hx with rfl | hx
      · exact ⟨p, a⟩
      · exact pairs_rp b x hx
theorem pairs_keys {pins : List (Addr × Obj)} {σ : L2.St} {H Hf : Hp} {s : Shared} (I : Inv X pins σ H s) (sub : Same Hf H) : ∀ {vs : List V} {ps : List (Int × Int)}, RpAll X.K Hf vs (ps.map pairD) → vs.map (pairOf X.K H) = ps
  | _, [], h => by cases h; rfl
  | _, p :: ps, h => by
    cases h with
    | cons a b =>
      obtain ⟨t, e, q⟩ := pairD_inv a
      rw [List.map_cons, pairs_keys I sub b, pairOf_eq I ⟨t, e, Same.seqT sub q⟩]
theorem rp_of_mem {K : PySem.W.Frag} {Hf : Hp} {f : V → D} : ∀ {ys : List V}, (∀ y ∈ ys, Rp K Hf y (f y)) → RpAll K Hf ys (ys.map f)
  | [], _ => .nil
  | y :: ys, h => .cons (h y List.mem_cons_self) (rp_of_mem fun z hz => h z (List.mem_cons_of_mem _ hz))
theorem cl_sorted : CallR X (.builtin "sorted") (rR1 X.K dSorted) := by
  intro pins s σ H vs us Q I rr h
  obtain ⟨H0, Hf, v, r, d, e, sub, ro, ef, q⟩ := h
  subst e
  unfold dSorted at ef
  obtain ⟨ds, hl, ef⟩ := Option.bind_eq_some_iff.mp ef
  obtain ⟨a, xs, rfl, h1, ra⟩ := lst_of ro sub hl
  split at ef
  · rename_i ns hn
    cases ef
    have e1 := allOf_some (g := PyData.int) asInt_inv hn
    rw [e1] at ra
    rw [ra.ints_inv] at h1
    refine cr_sortedI pins s σ H _ us Q I rr ⟨a, ns, rfl, h1, fun ns' p hp hs hnp => ?_⟩
    rw [sortI_uniq hp hs]
    exact q _ Hf _ (.loose sub hnp) ⟨p, _, rfl, hnp, upd_same, sub.free hnp, .ints _⟩
  · obtain ⟨ps, hp, ef⟩ := Option.map_eq_some_iff.mp ef
    subst ef
    have e1 := allOf_some (g := pairD) asPair_inv hp
    rw [e1] at ra
    have hk := pairs_keys I sub ra
    have hm := pairs_rp ra
    obtain ⟨its, rv, pl, hz⟩ := I.list h1
    obtain ⟨u, rfl, ru⟩ := vals1 rr
    cases ru
    obtain ⟨b1, b2⟩ := refs_back rv fun x hx => by
      obtain ⟨p, hp⟩ := hm x hx
      obtain ⟨t, e, _⟩ := pairD_inv hp
      exact ⟨t, e⟩
    refine SrtO.sorted_pairsO (k := fun w => pairOf X.K H (backV w)) pl.isList
      (by rw [← rv.length]; exact hz) (fun w hw => ?_) fun hp2 dd out s1 s2 kp hd hn => ?_
    · obtain ⟨t, rfl⟩ := b2 w hw
      have hx : V.ref t ∈ xs := by
        rw [b1]
        exact List.mem_map.mpr ⟨_, hw, rfl⟩
      obtain ⟨p, hp⟩ := hm _ hx
      obtain ⟨t', e, hq⟩ := pairD_inv hp
      cases e
      rw [show pairOf X.K H (backV (Value.ref t)) = p from pairOf_eq I ⟨t, rfl, Same.seqT sub hq⟩]
      obtain ⟨its2, r2, ⟨o, ho, hc, n, hd⟩, _⟩ := I.tuple (Same.seqT sub hq)
      obtain ⟨w1, w2, rfl, ⟨t1, rfl⟩, ⟨t2, rfl⟩⟩ := vals2 r2
      exact ⟨t, o, t1, t2, n, rfl, ho, hc, hd⟩
    · have b3 : ∀ u ∈ out, ∃ a, u = Value.ref a := fun u hu => b2 u (s2.perm.mem_iff.mp hu)
      obtain ⟨n, hn⟩ := hn
      have pm : (out.map backV).Perm xs := by
        rw [b1]
        exact s2.perm.map backV
      have e2 : (out.map backV).map (pairOf X.K H) = sortP ps := by
        refine sortP_uniq ?_ ?_
        · rw [← hk]
          exact pm.map _
        · rw [List.map_map, List.pairwise_map]
          refine s1.imp fun {x y} hxy => ?_
          have := SrtO.lexB_no.mp hxy
          rw [leP_iff]
          show (pairOf X.K H (backV x)).1 < (pairOf X.K H (backV y)).1 ∨ _
          simp only [Function.comp] at this ⊢
          omega
      have rr2 : RpAll X.K Hf (out.map backV) ((sortP ps).map pairD) := by
        rw [← e2, List.map_map]
        refine rp_of_mem fun y hy => ?_
        obtain ⟨p, hp⟩ := hm y (pm.mem_iff.mp hy)
        obtain ⟨t, e, hq⟩ := pairD_inv hp
        show Rp X.K Hf y (pairD (pairOf X.K H y))
        rw [pairOf_eq I ⟨t, e, Same.seqT sub hq⟩]
        exact hp
      have fr : H dd = none := I.hok.fresh hd
      refine ⟨.ref dd, L2.upd H dd (.lst (out.map backV)), I.laid (t' := s.toks) kp hd ⟨?_, out, n, vals_back b3, hn⟩, rfl, q _ Hf _ (.loose sub fr) ⟨dd, _, rfl, fr, upd_same, sub.free fr, rr2⟩⟩
      rw [pm.length_eq]
      exact hz
def dSum (r : Rs) : Option Rs := (lstOf r).bind fun ds => (allOf asInt ds).map fun ns => .val (.int ns.sum)
def dAny (r : Rs) : Option Rs := (lstOf r).bind fun ds => (allOf asBool ds).map fun ns => .val (.bool (ns.any id))
def dAll (r : Rs) : Option Rs := (lstOf r).bind fun ds => (allOf asBool ds).map fun ns => .val (.bool (ns.all id))
theorem cl_sum (hc : X.calm = true) : CallR X (.builtin "sum") (rR1 X.K dSum) := CallR.weaken (cr_sum hc) fun vs H Q ⟨H0, Hf, v, r, d, e, s, ro, ef, q⟩ => by
  subst e
  obtain ⟨ds, hl, ef⟩ := Option.bind_eq_some_iff.mp ef
  obtain ⟨ns, hn, ef⟩ := Option.map_eq_some_iff.mp ef
  subst ef
  obtain ⟨a, xs, rfl, h1, ra⟩ := lst_of ro s hl
  rw [allOf_some (g := PyData.int) asInt_inv hn] at ra
  rw [ra.ints_inv] at h1
  exact ⟨a, ns, rfl, h1, q _ Hf H (.refl s) (.int _)⟩
theorem cl_any (hc : X.calm = true) : CallR X (.builtin "any") (rR1 X.K dAny) := CallR.weaken (cr_any hc) fun vs H Q ⟨H0, Hf, v, r, d, e, s, ro, ef, q⟩ => by
  subst e
  obtain ⟨ds, hl, ef⟩ := Option.bind_eq_some_iff.mp ef
  obtain ⟨ns, hn, ef⟩ := Option.map_eq_some_iff.mp ef
  subst ef
  obtain ⟨a, xs, rfl, h1, ra⟩ := lst_of ro s hl
  rw [allOf_some (g := PyData.bool) asBool_inv hn] at ra
  rw [ra.bools_inv] at h1
  exact ⟨a, ns, rfl, h1, q _ Hf H (.refl s) (.bl _)⟩
theorem cl_all (hc : X.calm = true) : CallR X (.builtin "all") (rR1 X.K dAll) := CallR.weaken (cr_all hc) fun vs H Q ⟨H0, Hf, v, r, d, e, s, ro, ef, q⟩ => by
  subst e
  obtain ⟨ds, hl, ef⟩ := Option.bind_eq_some_iff.mp ef
  obtain ⟨ns, hn, ef⟩ := Option.map_eq_some_iff.mp ef
  subst ef
  obtain ⟨a, xs, rfl, h1, ra⟩ := lst_of ro s hl
  rw [allOf_some (g := PyData.bool) asBool_inv hn] at ra
  rw [ra.bools_inv] at h1
  exact ⟨a, ns, rfl, h1, q _ Hf H (.refl s) (.bl _)⟩
/-- list(x) of a list or tuple -/
def dList (r : Rs) : Option Rs := match lstOf r with
  | some ds => some (.new ds)
  | none => match r with
    | .val (.tuple ds) => some (.new ds)
    | _ => none
theorem cl_list : CallR X (.type "list") (rR1 X.K dList) := CallR.weaken call_list_of fun vs H Q ⟨H0, Hf, v, r, d, e, s, ro, ef, q⟩ => by
  subst e
  unfold dList at ef
  split at ef
  · rename_i ds hl
    cases ef
    obtain ⟨a, xs, rfl, h1, ra⟩ := lst_of ro s hl
    exact ⟨a, xs, rfl, .inl h1, fun p hp => q _ Hf _ (.loose s hp) ⟨p, _, rfl, hp, upd_same, s.free hp, ra⟩⟩
  · split at ef
    · cases ef
      obtain ⟨a, xs, rfl, h1, ra⟩ := Rp.tup_inv ro
      exact ⟨a, xs, rfl, .inr (Same.seqT s h1), fun p hp => q _ Hf _ (.loose s hp) ⟨p, _, rfl, hp, upd_same, s.free hp, ra⟩⟩
    · cases ef
def dInt (r : Rs) : Option Rs := match r with
  | .val (.int i) => some (.val (.int i))
  | .val (.bool b) => some (.val (.int (if b then 1 else 0)))
  | _ => none
theorem cl_int : CallR X (.type "int") (rR1 X.K dInt) := CallR.weaken call_int1 fun vs H Q ⟨H0, Hf, v, r, d, e, s, ro, ef, q⟩ => by
  subst e
  unfold dInt at ef
  split at ef
  · cases ef
    exact .inl ⟨_, by rw [Rp.int_inv ro], q _ Hf H (.refl s) (.int _)⟩
  · cases ef
    exact .inr ⟨_, by rw [Rp.bl_inv ro], q _ Hf H (.refl s) (.int _)⟩
  · cases ef
def dAbs (r : Rs) : Option Rs := match r with
  | .val (.int i) => some (.val (.int (if i < 0 then -i else i)))
  | _ => none
theorem cl_abs : CallR X (.builtin "abs") (rR1 X.K dAbs) := CallR.weaken call_abs fun vs H Q ⟨H0, Hf, v, r, d, e, s, ro, ef, q⟩ => by
  subst e
  unfold dAbs at ef
  split at ef
  · cases ef
    exact ⟨_, by rw [Rp.int_inv ro], q _ Hf H (.refl s) (.int _)⟩
  · cases ef
/-- max and min of two ints -/
def dMax2 : List D → Option D
  | [.int i, .int j] => some (.int (if j > i then j else i))
  | _ => none
def dMin2 : List D → Option D
  | [.int i, .int j] => some (.int (if j < i then j else i))
  | _ => none
theorem two_ints {K : PySem.W.Frag} {H : Hp} {vs : List V} {i j : Int} (r : RpAll K H vs [.int i, .int j]) : vs = [.int i, .int j] := RpAll.ints_inv (ns := [i, j]) r
theorem cl_max2 (hc : X.calm = true) : CallR X (.builtin "max") (rPc X.K dMax2) := CallR.weaken (call_max2 hc) fun vs H Q ⟨Hf, ds, d, s, ra, ef, q⟩ => by
  unfold dMax2 at ef
  split at ef
  · cases ef
    exact ⟨_, _, two_ints ra, q _ Hf H (.refl s) (.int _)⟩
  · cases ef
theorem cl_min2 (hc : X.calm = true) : CallR X (.builtin "min") (rPc X.K dMin2) := CallR.weaken (call_min2 hc) fun vs H Q ⟨Hf, ds, d, s, ra, ef, q⟩ => by
  unfold dMin2 at ef
  split at ef
  · cases ef
    exact ⟨_, _, two_ints ra, q _ Hf H (.refl s) (.int _)⟩
  · cases ef
/-- isinstance of a built-in class -/
def tyN : D → String
  | .none => "NoneType"
  | .bool _ => "bool"
  | .int _ => "int"
  | .str _ => "str"
  | .list _ => "list"
  | .tuple _ => "tuple"
  | .dict [(.list _, .none)] => ""
  | .dict [(.list _, .int _)] => ""
  | .dict _ => "dict"
def dIsi (T : String) (d : D) : Option D := if tyN d = "" then none else (kitB (tyN d) T).map .bool
theorem tyx_of {K : PySem.W.Frag} {H : Hp} {v : V} {d : D} (h : Rp K H v d) (n : tyN d ≠ "") : TyX K H v (.type (tyN d)) := by
  cases h with
  | non => exact .base .non
  | bl b => exact .base (.bl b)
  | int i => exact .base (.int i)
  | str x => exact .base (.str x)
  | lst h q => exact .base (.lst h)
  | scr h q => exact absurd rfl n
  | fn h => exact absurd (show tyN (fnD _) = "" by simp [tyN, fnD]) n
  | tup h q =>
    rcases h with (h | ⟨o, h⟩) | ⟨o, its, m, h, hc, _⟩
    · exact .base (.tup h)
    · exact .fTuple h
    · exact .kTuple h hc
  | @dct a kvs es h q =>
    have e : tyN (.dict es) = "dict" := by
      unfold tyN at n ⊢
      split at n <;> first | rfl | exact absurd rfl n | skip
      all_goals first | rfl | (rename_i hh; cases hh) | skip
      all_goals (split <;> first | rfl | skip)
      all_goals (rename_i hh _ _ _; first | (exact absurd rfl n) | skip)
    rw [e]
    exact .base (.dK h)
  | @dctT a kvs es h q =>
    have e : tyN (.dict es) = "dict" := by
      unfold tyN at n ⊢
      split <;> first | rfl | skip
      all_goals (rename_i hh; simp_all)
    rw [e]
    exact .base (.dT h)
def gIsi (T : String) (g : En → Option Rs) : En → Option D := fun ρ => (g ρ).bind fun r => dIsi T (vw r)
theorem pv_isi {T : String} {x : Str} {p : Pos} {g : En → Option Rs} (hg : Gl X x) (hm : X.mg x = none) (hv : bootBuiltins x = some (.builtin "isinstance")) (ha : PE X e (tPu X.K g)) (hy : PE X b (tC (.ty T))) (hn : x ≠ "__name__" := by decide)
    (hdb : (x == ("__debug__" : Str)) = false := by decide) (he : starEach [e, b] X.env = (false, eval e X.env) :: starEach [b] X.env := by rfl) (he2 : starEach [b] X.env = (false, eval b X.env) :: starEach [] X.env := by rfl) (hpl : (backTo pos (starEach [b] X.env)).any (·.1) = false := by rfl) : PE X (.Call (.Name x p) [e, b] [] pos) (tPv X.K (gIsi T g)) :=
  PE.weaken (pe_callB call_isi hg hm hv (pa_cons ha (pa_cons hy pa_nil he2) he) hn hdb he hpl) fun σ H Q ⟨H0, ρ, Hf, d, S, ef, q⟩ => by
    obtain ⟨r, e1, ef⟩ := Option.bind_eq_some_iff.mp ef
    unfold dIsi at ef
    split at ef
    · cases ef
    · rename_i hne
      obtain ⟨k, hk, ef⟩ := Option.map_eq_some_iff.mp ef
      subst ef
      exact ⟨H0, ρ, Hf, r, S, e1, fun v Hf1 H1 x1 r1 => ⟨v, .ty T, _, _, k, rfl, .ty T, tyx_of (rs_whole r1 x1.sub) hne, kit_ty hk, q _ Hf1 H1 x1 (.bl _)⟩⟩
end
end Pu

namespace Pu
open PySem PySem.Spec PyProof.Rows L2
variable [FnTab]
section
variable {X : Cx} {e a b : Expr} {es : List Expr} {pos : Pos} {ga gb : En → Option D}
/-! ### slices -/
def tPo (K : PySem.W.Frag) (g : En → Option (Option Int)) : TO := fun σ H Q => ∃ H0 ρ Hf o, StOk K H0 ρ σ Hf H ∧ g ρ = some o ∧ ∀ Hf' H', Ext Hf H Hf' H' → Q o H'
theorem PO.weaken {e : Option Expr} {t t' : TO} (h : PO X e t) (w : ∀ σ H Q, t' σ H Q → t σ H Q) : PO X e t' := ⟨fun pins s σ H Q I q => h.run pins s σ H Q I (w σ H Q q)⟩
def oNone : En → Option (Option Int) := fun _ => some none
def oSome (g : En → Option D) : En → Option (Option Int) := fun ρ => (g ρ).bind fun d => (asInt d).map some
theorem qo_none : PO X none (tPo X.K oNone) := PO.weaken po_none fun σ H Q ⟨H0, ρ, Hf, o, S, e, q⟩ => by cases e; exact q Hf H (.refl S.sub)
theorem qo_some (h : PE X e (tPv X.K ga)) : PO X (some e) (tPo X.K (oSome ga)) := PO.weaken (po_some h) fun σ H Q ⟨H0, ρ, Hf, o, S, e, q⟩ => by
  obtain ⟨d, e1, e⟩ := Option.bind_eq_some_iff.mp e
  obtain ⟨i, e2, e⟩ := Option.map_eq_some_iff.mp e
  subst e
  rw [asInt_inv d i e2] at e1
  exact ⟨H0, ρ, Hf, _, S, e1, fun v Hf1 H1 x1 r1 => ⟨i, r1.int_inv, q Hf1 H1 x1⟩⟩
def cutL {α : Type} (xs : List α) (lo hi : Option Int) : List α := (xs.drop (HT.sIx xs.length 0 lo)).take (HT.sIx xs.length xs.length hi - HT.sIx xs.length 0 lo)
theorem cut_rp {K : PySem.W.Frag} {H : Hp} {xs : List V} {ds : List D} (r : RpAll K H xs ds) (lo hi : Option Int) : RpAll K H (cutV xs lo hi) (cutL ds lo hi) := by
  unfold cutV cutL
  rw [r.length]
  exact (r.drop _).take _
def dSl (r : Rs) (lo hi : Option Int) : Option Rs := match lstOf r with
  | some ds => some (.new (cutL ds lo hi))
  | none => match r with
    | .val (.tuple ds) => some (.val (.tuple (cutL ds lo hi)))
    | .val (.str z) => if z.length ≤ sizeLine then some (.val (.str (cutS z lo hi))) else none
    | _ => none
def gSl (g : En → Option Rs) (l h : En → Option (Option Int)) : En → Option Rs := fun ρ => (g ρ).bind fun r => (l ρ).bind fun lo => (h ρ).bind fun hi => dSl r lo hi
theorem pu_slice {g : En → Option Rs} {l h : En → Option (Option Int)} {lo hi : Option Expr} {p2 : Pos} (he : PE X e (tPu X.K g)) (hl : PO X lo (tPo X.K l)) (hh : PO X hi (tPo X.K h)) : PE X (.Subscript e (.Slice lo hi none p2) pos) (tPu X.K (gSl g l h)) :=
  PE.weaken (pe_slice ((sl_list.or sl_tupA).or sl_str) he hl hh) fun σ H Q ⟨H0, ρ, Hf, d, S, e, q⟩ => by
    obtain ⟨r, e1, e⟩ := Option.bind_eq_some_iff.mp e
    obtain ⟨i, e2, e⟩ := Option.bind_eq_some_iff.mp e
    obtain ⟨j, e3, e⟩ := Option.bind_eq_some_iff.mp e
    refine ⟨H0, ρ, Hf, r, S, e1, fun v Hf1 H1 x1 r1 => ⟨H0, ρ, Hf1, i, S.ext x1, e2, fun Hf2 H2 x2 => ⟨H0, ρ, Hf2, j, (S.ext x1).ext x2, e3, fun Hf3 H3 x3 => ?_⟩⟩⟩
    have x13 := x1.trans (x2.trans x3)
    have x23 := x2.trans x3
    unfold dSl at e
    split at e
    · rename_i ds hl
      cases e
      obtain ⟨a, xs, rfl, h1, ra⟩ := lst_of r1 x1.sub hl
      refine .inl (.inl ⟨a, xs, rfl, x23.all.seq h1, fun p hp => q _ Hf3 _ (x13.trans (.loose x3.sub hp)) ⟨p, _, rfl, x13.all.free hp, upd_same, x3.sub.free hp, cut_rp (ra.mono x23.fro) i j⟩⟩)
    · split at e
      · cases e
        obtain ⟨a, xs, rfl, h1, ra⟩ := Rp.tup_inv r1
        have rc := cut_rp (ra.mono x23.fro) i j
        refine .inl (.inr ⟨a, xs, rfl, Same.seqT x23.all (Same.seqT x1.sub h1), fun hw => ?_, fun _ p hp => q _ _ _ (x13.trans (.fresh x3.sub hp)) (.tup (.of upd_same) (rc.mono (Same.new (x3.sub.free hp))))⟩)
        have ec : cutV xs i j = xs := by
          unfold cutV
          rw [hw.1, hw.2, List.drop_zero, Nat.sub_zero, List.take_length]
        rw [ec] at rc
        exact q _ Hf3 H3 x13 (.tup (Same.seqT x23.fro h1) rc)
      · split at e
        · cases e
          exact .inr ⟨_, Rp.str_inv r1, by assumption, q _ Hf3 H3 x13 (.str _)⟩
        · cases e
      · cases e
/-! ### the state of a body -/
structure Fr (K : PySem.W.Frag) (Hf0 H0 : Hp) (ρ : En) (σ : L2.St) (Hf H : Hp) : Prop where
  ext : Ext Hf0 H0 Hf H
  st : StOk K H0 ρ σ Hf H
inductive Out where
  | nx (ρ : En)
  | rt (d : D)
  | bk (ρ : En)
  | ct (ρ : En)
def Post (K : PySem.W.Frag) (Hf0 H0 Hb : Hp) (D : Ends) : Out → Prop
  | .nx ρ => ∀ σ Hf H, Fr K Hf0 H0 ρ σ Hf H → Same Hb Hf → D.nx σ H
  | .rt d => ∀ v Hf H, Ext Hf0 H0 Hf H → Rp K Hf v d → D.rt v H
  | .bk ρ => ∀ σ Hf H, Fr K Hf0 H0 ρ σ Hf H → Same Hb Hf → D.bk σ H
  | .ct ρ => ∀ σ Hf H, Fr K Hf0 H0 ρ σ Hf H → Same Hb Hf → D.ct σ H
theorem Post.mono {K : PySem.W.Frag} {Hf0 H0 Hb Hb' : Hp} {D : Ends} {o : Out} (h : Post K Hf0 H0 Hb D o) (s : Same Hb Hb') : Post K Hf0 H0 Hb' D o := by
  cases o with
  | nx ρ => exact fun σ Hf H F q => h σ Hf H F (s.trans q)
  | rt d => exact h
  | bk ρ => exact fun σ Hf H F q => h σ Hf H F (s.trans q)
  | ct ρ => exact fun σ Hf H F q => h σ Hf H F (s.trans q)
def tPs (K : PySem.W.Frag) (R : En → Option Out) : TS := fun D σ H => ∃ Hf0 H0 ρ Hf o, Fr K Hf0 H0 ρ σ Hf H ∧ R ρ = some o ∧ Post K Hf0 H0 Hf D o
theorem Fr.step {K : PySem.W.Frag} {Hf0 H0 Hf H Hf' H' : Hp} {ρ : En} {σ : L2.St} (F : Fr K Hf0 H0 ρ σ Hf H) (x : Ext Hf H Hf' H') : Fr K Hf0 H0 ρ σ Hf' H' := ⟨F.ext.trans x, F.st.ext x⟩
theorem StOk.some_at {K : PySem.W.Frag} {H0 Hf H : Hp} {ρ : En} {σ : L2.St} (S : StOk K H0 ρ σ Hf H) {i : Nat} (h : i < ρ.length) : i < σ.length := by
  obtain ⟨o, e, _⟩ := S.at_ i _ (List.getElem?_eq_getElem h)
  exact (List.getElem?_eq_some_iff.mp e).1
theorem set_get {α : Type} {l : List α} {i j : Nat} {x y : α} (h : (l.set i x)[j]? = some y) : (j = i ∧ i < l.length ∧ y = x) ∨ (j ≠ i ∧ l[j]? = some y) := by
  by_cases e : j = i
  · subst e
    have hl : j < (l.set j x).length := (List.getElem?_eq_some_iff.mp h).1
    rw [List.length_set] at hl
    rw [List.getElem?_set_self hl] at h
    cases h
    exact .inl ⟨rfl, hl, rfl⟩
  · rw [List.getElem?_set_ne (Ne.symm e)] at h
    exact .inr ⟨e, h⟩
/-- slot i takes a frozen value -/
theorem StOk.setV {K : PySem.W.Frag} {H0 Hf H : Hp} {ρ : En} {σ : L2.St} {v : V} {d : D} (S : StOk K H0 ρ σ Hf H) (i : Nat) (r : Rp K Hf v d) : StOk K H0 (ρ.set i (.val d)) (σ.set i (some v)) Hf H := by
  refine ⟨S.sub, fun j s e => ?_, fun j k ds es a ne e1 e2 f => ?_⟩
  · rcases set_get e with ⟨rfl, hl, rfl⟩ | ⟨ne, e⟩
    · exact ⟨some v, List.getElem?_set_self (S.some_at hl), v, rfl, r⟩
    · obtain ⟨o, e1, h⟩ := S.at_ j s e
      exact ⟨o, by rw [List.getElem?_set_ne (Ne.symm ne)]; exact e1, h⟩
  · rcases set_get e1 with ⟨_, _, z⟩ | ⟨n1, e1⟩
    · cases z
    · rcases set_get e2 with ⟨_, _, z⟩ | ⟨n2, e2⟩
      · cases z
      · rw [List.getElem?_set_ne (Ne.symm n1)] at f
        rw [List.getElem?_set_ne (Ne.symm n2)]
        exact S.sep j k ds es a ne e1 e2 f
/-- slot i takes a new list -/
theorem StOk.setO {K : PySem.W.Frag} {H0 Hf H : Hp} {ρ : En} {σ : L2.St} {a : Addr} {vs : List V} {ds : List D} (S : StOk K H0 ρ σ Hf H) (i : Nat) (h0 : H0 a = none) (h1 : H a = some (.lst vs)) (h2 : Hf a = none) (r : RpAll K Hf vs ds)
    (fr : ∀ j es, ρ[j]? = some (.own es) → j ≠ i → σ[j]? ≠ some (some (.ref a))) : StOk K H0 (ρ.set i (.own ds)) (σ.set i (some (.ref a))) Hf H := by
  refine ⟨S.sub, fun j s e => ?_, fun j k ds es b ne e1 e2 f => ?_⟩
  · rcases set_get e with ⟨rfl, hl, rfl⟩ | ⟨ne, e⟩
    · exact ⟨some (.ref a), List.getElem?_set_self (S.some_at hl), a, vs, rfl, h0, h1, h2, r⟩
    · obtain ⟨o, e1, h⟩ := S.at_ j s e
      exact ⟨o, by rw [List.getElem?_set_ne (Ne.symm ne)]; exact e1, h⟩
  · rcases set_get e1 with ⟨rfl, l1, z⟩ | ⟨n1, g1⟩
    · rw [List.getElem?_set_self (S.some_at l1)] at f
      cases f
      rcases set_get e2 with ⟨w, _, _⟩ | ⟨n2, g2⟩
      · exact absurd w.symm ne
      · rw [List.getElem?_set_ne (Ne.symm n2)]
        exact fr k es g2 n2
    · rw [List.getElem?_set_ne (Ne.symm n1)] at f
      rcases set_get e2 with ⟨rfl, l2, _⟩ | ⟨n2, g2⟩
      · rw [List.getElem?_set_self (S.some_at l2)]
        intro w
        cases w
        exact fr j ds g1 n1 f
      · rw [List.getElem?_set_ne (Ne.symm n2)]
        exact S.sep j k ds es b ne g1 g2 f
theorem Fr.setV {K : PySem.W.Frag} {Hf0 H0 Hf H : Hp} {ρ : En} {σ : L2.St} {v : V} {d : D} (F : Fr K Hf0 H0 ρ σ Hf H) (i : Nat) (r : Rp K Hf v d) : Fr K Hf0 H0 (ρ.set i (.val d)) (σ.set i (some v)) Hf H := ⟨F.ext, F.st.setV i r⟩
/-- the list of slot i is changed -/
theorem Fr.mut {K : PySem.W.Frag} {Hf0 H0 Hf H : Hp} {ρ : En} {σ : L2.St} {i : Nat} {a : Addr} {ds es : List D} {vs : List V} (F : Fr K Hf0 H0 ρ σ Hf H) (e : ρ[i]? = some (.own ds)) (f : σ[i]? = some (some (.ref a))) (h0 : H0 a = none) (h2 : Hf a = none) (r : RpAll K Hf vs es) :
    Fr K Hf0 H0 (ρ.set i (.own es)) σ Hf (L2.upd H a (.lst vs)) := by
  have ne0 : ∀ b o, H0 b = some o → b ≠ a := fun b o q z => by rw [z, h0] at q; cases q
  have nef : ∀ b o, Hf b = some o → b ≠ a := fun b o q z => by rw [z, h2] at q; cases q
  refine ⟨⟨fun b o q => ?_, F.ext.fro, fun b o q => ?_, F.ext.keep⟩, fun b o q => ?_, fun j s q => ?_, fun j k ds' es' b ne e1 e2 f1 => ?_⟩
  · rw [upd_ne (ne0 b o q)]; exact F.ext.all b o q
  · rw [upd_ne (nef b o q)]; exact F.ext.sub b o q
  · rw [upd_ne (nef b o q)]; exact F.st.sub b o q
  · rcases set_get q with ⟨rfl, hl, rfl⟩ | ⟨ne, q⟩
    · exact ⟨_, f, a, vs, rfl, h0, upd_same, h2, r⟩
    · obtain ⟨o, e1, h⟩ := F.st.at_ j s q
      refine ⟨o, e1, ?_⟩
      cases s with
      | un => trivial
      | val d => exact h
      | own ds' =>
        obtain ⟨b, ws, rfl, g0, g1, g2, g3⟩ := h
        have hb : b ≠ a := fun z => by
          subst z
          exact F.st.sep j i ds' ds b ne q e e1 f
        exact ⟨b, ws, rfl, g0, by rw [upd_ne hb]; exact g1, g2, g3⟩
  · have own_at : ∀ (m : Nat) (us : List D), (ρ.set i (Sl.own es))[m]? = some (Sl.own us) → ∃ us' : List D, ρ[m]? = some (Sl.own us') := fun m us q => by
      rcases set_get q with ⟨rfl, _, _⟩ | ⟨_, q⟩
      · exact ⟨ds, e⟩
      · exact ⟨us, q⟩
    obtain ⟨u1, q1⟩ := own_at j ds' e1
    obtain ⟨u2, q2⟩ := own_at k es' e2
    exact F.st.sep j k u1 u2 b ne q1 q2 f1
/-- the list of slot i is frozen -/
def frz (i : Nat) (ρ : En) : En := match ρ[i]? with
  | some (.own ds) => ρ.set i (.val (.list ds))
  | _ => ρ
theorem Fr.freeze {K : PySem.W.Frag} {Hf0 H0 Hf H : Hp} {ρ : En} {σ : L2.St} (i : Nat) (F : Fr K Hf0 H0 ρ σ Hf H) : ∃ Hf', Same Hf Hf' ∧ Fr K Hf0 H0 (frz i ρ) σ Hf' H := by
  unfold frz
  split
  · rename_i ds e
    obtain ⟨o, f, a, vs, rfl, h0, h1, h2, r⟩ := F.st.at_ i _ e
    have s2 : Same Hf (L2.upd Hf a (.lst vs)) := Same.new h2
    refine ⟨L2.upd Hf a (.lst vs), s2, F.ext.freeze h0 h1 h2, ?_, fun j s q => ?_, fun j k ds' es' b ne e1 e2 f1 => ?_⟩
    · exact (F.ext.freeze h0 h1 h2).sub
    · rcases set_get q with ⟨rfl, hl, rfl⟩ | ⟨ne, q⟩
      · exact ⟨_, f, _, rfl, .lst upd_same (r.mono s2)⟩
      · obtain ⟨o, e1, h⟩ := F.st.at_ j s q
        refine ⟨o, e1, ?_⟩
        cases s with
        | un => trivial
        | val d => obtain ⟨v, rfl, g⟩ := h; exact ⟨v, rfl, g.mono s2⟩
        | own ds' =>
          obtain ⟨b, ws, rfl, g0, g1, g2, g3⟩ := h
          have hb : b ≠ a := fun z => by
            subst z
            exact F.st.sep j i ds' ds b ne q e e1 f
          exact ⟨b, ws, rfl, g0, g1, by rw [upd_ne hb]; exact g2, g3.mono s2⟩
    · rcases set_get e1 with ⟨_, _, z⟩ | ⟨_, e1⟩
      · cases z
      · rcases set_get e2 with ⟨_, _, z⟩ | ⟨_, e2⟩
        · cases z
        · exact F.st.sep j k ds' es' b ne e1 e2 f1
  · exact ⟨Hf, Same.refl _, F⟩
/-! ### statements -/
variable {st : Stmt} {sts rest : List Stmt} {R R1 R2 : En → Option Out}
def rNext : En → Option Out := fun ρ => some (.nx ρ)
def rSeq (R1 R2 : En → Option Out) : En → Option Out := fun ρ => (R1 ρ).bind fun o => match o with
  | .nx ρ' => R2 ρ'
  | o => some o
theorem qss_nil : PSs X [] (tPs X.K rNext) := PSs.weaken pss_nil fun D σ H ⟨Hf0, H0, ρ, Hf, o, F, e, p⟩ => by cases e; exact p σ Hf H F (Same.refl _)
theorem qs_pass : PS X (.Pass pos) (tPs X.K rNext) := PS.weaken ps_pass fun D σ H ⟨Hf0, H0, ρ, Hf, o, F, e, p⟩ => by cases e; exact p σ Hf H F (Same.refl _)
theorem qs_break : PS X (.Break pos) (tPs X.K fun ρ => some (.bk ρ)) := PS.weaken ps_break fun D σ H ⟨Hf0, H0, ρ, Hf, o, F, e, p⟩ => by cases e; exact p σ Hf H F (Same.refl _)
theorem qs_continue : PS X (.Continue pos) (tPs X.K fun ρ => some (.ct ρ)) := PS.weaken ps_continue fun D σ H ⟨Hf0, H0, ρ, Hf, o, F, e, p⟩ => by cases e; exact p σ Hf H F (Same.refl _)
theorem tSeq_ps {K : PySem.W.Frag} {D : Ends} {σ : L2.St} {H : Hp} (h : tPs K (rSeq R1 R2) D σ H) : tSeq (tPs K R1) (tPs K R2) D σ H := by
  obtain ⟨Hf0, H0, ρ, Hf, o, F, e, p⟩ := h
  obtain ⟨o1, e1, e⟩ := Option.bind_eq_some_iff.mp e
  refine ⟨Hf0, H0, ρ, Hf, o1, F, e1, ?_⟩
  cases o1 with
  | nx ρ' => exact fun σ' Hf' H' F' sm => ⟨Hf0, H0, ρ', Hf', o, F', e, p.mono sm⟩
  | rt d => cases e; exact p
  | bk ρ' => cases e; exact p
  | ct ρ' => cases e; exact p
theorem qss_cons (h1 : PS X st (tPs X.K R1)) (h2 : PSs X rest (tPs X.K R2)) : PSs X (st :: rest) (tPs X.K (rSeq R1 R2)) := PSs.weaken (pss_cons h1 h2) fun _ _ _ h => tSeq_ps h
theorem qss_one (h1 : PS X st (tPs X.K R)) : PSs X [st] (tPs X.K R) := pss_one h1
theorem qss_freeze (i : Nat) (h : PSs X sts (tPs X.K R)) : PSs X sts (tPs X.K fun ρ => R (frz i ρ)) := PSs.weaken h fun D σ H ⟨Hf0, H0, ρ, Hf, o, F, e, p⟩ => by
  obtain ⟨Hf', sm, F'⟩ := F.freeze i
  exact ⟨Hf0, H0, _, Hf', o, F', e, p.mono sm⟩
theorem qs_freeze (i : Nat) (h : PS X st (tPs X.K R)) : PS X st (tPs X.K fun ρ => R (frz i ρ)) := PS.weaken h fun D σ H ⟨Hf0, H0, ρ, Hf, o, F, e, p⟩ => by
  obtain ⟨Hf', sm, F'⟩ := F.freeze i
  exact ⟨Hf0, H0, _, Hf', o, F', e, p.mono sm⟩
def rRet (g : En → Option D) : En → Option Out := fun ρ => (g ρ).map .rt
theorem qs_ret (h : PE X e (tPv X.K ga)) : PS X (.Return (some e) pos) (tPs X.K (rRet ga)) := PS.weaken (ps_ret h) fun D σ H ⟨Hf0, H0, ρ, Hf, o, F, e, p⟩ => by
  obtain ⟨d, e1, e⟩ := Option.map_eq_some_iff.mp e
  subst e
  exact ⟨H0, ρ, Hf, d, F.st, e1, fun v Hf' H' x r => p v Hf' H' (F.ext.trans x) r⟩
theorem qs_retN : PS X (.Return none pos) (tPs X.K fun _ => some (.rt .none)) := PS.weaken ps_retN fun D σ H ⟨Hf0, H0, ρ, Hf, o, F, e, p⟩ => by
  cases e
  exact p _ Hf H F.ext .non
def rIf (c : En → Option Bool) (R1 R2 : En → Option Out) : En → Option Out := fun ρ => (c ρ).bind fun b => if b = true then R1 ρ else R2 ρ
theorem qs_if {c : Expr} {sa sb : List Stmt} {tc : En → Option Bool} (hc : PT X c (tPt X.K tc)) (ha : PSs X sa (tPs X.K R1)) (hb : PSs X sb (tPs X.K R2)) : PS X (.If c sa sb pos) (tPs X.K (rIf tc R1 R2)) :=
  PS.weaken (ps_if hc ha hb) fun D σ H ⟨Hf0, H0, ρ, Hf, o, F, e, p⟩ => by
    obtain ⟨k, e1, e⟩ := Option.bind_eq_some_iff.mp e
    refine ⟨H0, ρ, Hf, k, F.st, e1, fun Hf' H' x => ?_⟩
    cases k with
    | true => rw [if_pos rfl] at e ⊢; exact ⟨Hf0, H0, ρ, Hf', o, F.step x, e, p.mono x.fro⟩
    | false => rw [if_neg Bool.false_ne_true] at e ⊢; exact ⟨Hf0, H0, ρ, Hf', o, F.step x, e, p.mono x.fro⟩
def rDrop (g : En → Option D) : En → Option Out := fun ρ => (g ρ).map fun _ => .nx ρ
theorem qs_expr (h : PE X e (tPv X.K ga)) (hs : swapsWith e none pos.line X.env = pure false := by rfl) : PS X (.Expr e pos) (tPs X.K (rDrop ga)) := PS.weaken (ps_expr h hs) fun D σ H ⟨Hf0, H0, ρ, Hf, o, F, e, p⟩ => by
  obtain ⟨d, e1, e⟩ := Option.map_eq_some_iff.mp e
  subst e
  exact ⟨H0, ρ, Hf, d, F.st, e1, fun v Hf' H' x r => p σ Hf' H' (F.step x) x.fro⟩
/-- x = e, frozen -/
def rSet (i : Nat) (g : En → Option D) : En → Option Out := fun ρ => (g ρ).map fun d => .nx (ρ.set i (.val d))
theorem tSet_ps {K : PySem.W.Frag} {i : Nat} {D : Ends} {σ : L2.St} {H : Hp} (h : tPs K (rSet i ga) D σ H) : tAsg (tPv K ga) (gName i) D σ H := by
  obtain ⟨Hf0, H0, ρ, Hf, o, F, e, p⟩ := h
  obtain ⟨d, e1, e⟩ := Option.map_eq_some_iff.mp e
  subst e
  exact ⟨H0, ρ, Hf, d, F.st, e1, fun v Hf' H' x r => p _ Hf' H' ((F.step x).setV i r) x.fro⟩
/-- x = e, a new list is x's own -/
def rOwn (i : Nat) (g : En → Option Rs) : En → Option Out := fun ρ => (g ρ).bind fun r => match r with
  | .new ds => some (.nx (ρ.set i (.own ds)))
  | .val d => some (.nx (ρ.set i (.val d)))
  | .view _ => none
theorem tOwn_ps {K : PySem.W.Frag} {i : Nat} {g : En → Option Rs} {D : Ends} {σ : L2.St} {H : Hp} (h : tPs K (rOwn i g) D σ H) : tAsg (tPu K g) (gName i) D σ H := by
  obtain ⟨Hf0, H0, ρ, Hf, o, F, e, p⟩ := h
  obtain ⟨r, e1, e⟩ := Option.bind_eq_some_iff.mp e
  refine ⟨H0, ρ, Hf, r, F.st, e1, fun v Hf' H' x ro => ?_⟩
  cases r with
  | val d => cases e; exact p _ Hf' H' ((F.step x).setV i ro) x.fro
  | view ds => cases e
  | new ds =>
    cases e
    obtain ⟨a, vs, rfl, h0, h1, h2, q⟩ := ro
    refine p _ Hf' H' ⟨F.ext.trans x, (F.st.ext x).setO i (F.ext.all.free h0) h1 h2 q fun j es ej _ z => ?_⟩ x.fro
    obtain ⟨o, f, b, ws, rfl, g0, g1, _⟩ := F.st.at_ j _ ej
    rw [f] at z
    cases z
    rw [h0] at g1
    cases g1
theorem qs_set {i : Nat} {x : Str} {pos' : Pos} (hN : X.N.Nodup) (hi : X.N[i]? = some x) (hx : Loc X.env.scope x) (he : PE X e (tPv X.K ga)) (hs : swapsWith e (some (.Name x pos')) pos.line X.env = pure false := by rfl)
    (hf : X.fn x = true ∨ X.env.scope.names.lookup x = some .local := by first | exact .inl rfl | exact .inr rfl | assumption) : PS X (.Assign [.Name x pos'] e pos) (tPs X.K (rSet i ga)) := PS.weaken (ps_set hN hi hx he hs hf) fun _ _ _ h => tSet_ps h
theorem qs_own {i : Nat} {x : Str} {pos' : Pos} {g : En → Option Rs} (hN : X.N.Nodup) (hi : X.N[i]? = some x) (hx : Loc X.env.scope x) (he : PE X e (tPu X.K g)) (hs : swapsWith e (some (.Name x pos')) pos.line X.env = pure false := by rfl)
    (hf : X.fn x = true ∨ X.env.scope.names.lookup x = some .local := by first | exact .inl rfl | exact .inr rfl | assumption) : PS X (.Assign [.Name x pos'] e pos) (tPs X.K (rOwn i g)) := PS.weaken (ps_set hN hi hx he hs hf) fun _ _ _ h => tOwn_ps h
/-- x += e -/
def dIAdd : D → D → Option D
  | .int a, .int b => some (.int (a + b))
  | _, _ => none
def dISub : D → D → Option D
  | .int a, .int b => some (.int (a - b))
  | _, _ => none
def rAug (i : Nat) (f : D → D → Option D) (g : En → Option D) : En → Option Out := fun ρ => (vVar i ρ).bind fun a => (g ρ).bind fun b => (f a b).map fun d => .nx (ρ.set i (.val d))
theorem tAug_ps {K : PySem.W.Frag} {i : Nat} {f : D → D → Option D} {h : Int → Int → Int} (w : ∀ a b d, f a b = some d → ∃ i j, a = .int i ∧ b = .int j ∧ d = .int (h i j)) {D : Ends} {σ : L2.St} {H : Hp} (hh : tPs K (rAug i f ga) D σ H) : tAug i (tPv K ga) (ipI h) D σ H := by
  obtain ⟨Hf0, H0, ρ, Hf, o, F, e, p⟩ := hh
  obtain ⟨a, e1, e⟩ := Option.bind_eq_some_iff.mp e
  obtain ⟨b, e2, e⟩ := Option.bind_eq_some_iff.mp e
  obtain ⟨d, e3, e⟩ := Option.map_eq_some_iff.mp e
  subst e
  obtain ⟨m, n, rfl, rfl, rfl⟩ := w a b d e3
  unfold vVar at e1
  split at e1
  · rename_i d' hd
    cases e1
    obtain ⟨o, ho, v, rfl, r⟩ := F.st.at_ i _ hd
    exact ⟨v, ho, H0, ρ, Hf, _, F.st, e2, fun y Hf' H' x r' => ⟨m, n, r.int_inv, r'.int_inv, p _ Hf' H' ((F.step x).setV i (.int _)) x.fro⟩⟩
  · cases e1
theorem qs_iadd {i : Nat} {x : Str} {pos' : Pos} (hN : X.N.Nodup) (hi : X.N[i]? = some x) (hx : Loc X.env.scope x) (he : PE X e (tPv X.K ga))
    (hf : X.fn x = true ∨ X.env.scope.names.lookup x = some .local := by first | exact .inl rfl | exact .inr rfl | assumption) : PS X (.AugAssign (.Name x pos') .Add e pos) (tPs X.K (rAug i dIAdd ga)) :=
  PS.weaken (ps_aug hN hi hx he ip_add hf) fun _ _ _ h => tAug_ps (fun a b d h => by
    cases a <;> cases b <;> simp only [dIAdd] at h <;> cases h
    exact ⟨_, _, rfl, rfl, rfl⟩) h
theorem qs_isub {i : Nat} {x : Str} {pos' : Pos} (hN : X.N.Nodup) (hi : X.N[i]? = some x) (hx : Loc X.env.scope x) (he : PE X e (tPv X.K ga))
    (hf : X.fn x = true ∨ X.env.scope.names.lookup x = some .local := by first | exact .inl rfl | exact .inr rfl | assumption) : PS X (.AugAssign (.Name x pos') .Sub e pos) (tPs X.K (rAug i dISub ga)) :=
  PS.weaken (ps_aug hN hi hx he ip_sub hf) fun _ _ _ h => tAug_ps (fun a b d h => by
    cases a <;> cases b <;> simp only [dISub] at h <;> cases h
    exact ⟨_, _, rfl, rfl, rfl⟩) h
/-- x.append(e), x.pop(), x[k] = e of an own list -/
def ownAt (i : Nat) (ρ : En) : Option (List D) := match ρ[i]? with
  | some (.own ds) => some ds
  | _ => none
theorem ownAt_some {i : Nat} {ρ : En} {ds : List D} (h : ownAt i ρ = some ds) : ρ[i]? = some (.own ds) := by
  unfold ownAt at h
  split at h
  · cases h; assumption
  · cases h
def rApp (i : Nat) (g : En → Option D) : En → Option Out := fun ρ => (ownAt i ρ).bind fun ds => (g ρ).bind fun d => if ds.length < sizeLine then some (.nx (ρ.set i (.own (ds ++ [d])))) else none
theorem qs_append {i : Nat} {x : Expr} {apos cpos : Pos} (hx : PE X x (tVar i)) (he : PE X e (tPv X.K ga)) (h : ∀ {tx te : TE}, PE X x tx → PE X e te → PE X (.Call (.Attribute x "append" apos) [e] [] cpos) (tBM X.K "list" rAppend tx (tCons te tNil)))
    (hs : swapsWith (.Call (.Attribute x "append" apos) [e] [] cpos) none pos.line X.env = pure false := by rfl) : PS X (.Expr (.Call (.Attribute x "append" apos) [e] [] cpos) pos) (tPs X.K (rApp i ga)) :=
  PS.weaken (ps_expr (h hx he) hs) fun D σ H ⟨Hf0, H0, ρ, Hf, o, F, e, p⟩ => by
    obtain ⟨ds, e1, e⟩ := Option.bind_eq_some_iff.mp e
    obtain ⟨d, e2, e⟩ := Option.bind_eq_some_iff.mp e
    have e1 := ownAt_some e1
    split at e
    · rename_i hl
      cases e
      obtain ⟨o, f, a, vs, rfl, h0, h1, h2, r⟩ := F.st.at_ i _ e1
      refine ⟨.ref a, f, .inl ⟨rfl, _, .of h1⟩, H0, ρ, Hf, d, F.st, e2, fun v Hf' H' x q => ⟨a, vs, v, rfl, rfl, x.all _ _ h1, by rw [r.length]; exact hl, ?_⟩⟩
      exact p σ Hf' _ ((F.step x).mut e1 f h0 (x.keep _ _ h1 h2) ((r.mono x.fro).append (.cons q .nil))) x.fro
    · cases e
def rPopL (i : Nat) : En → Option Out := fun ρ => (ownAt i ρ).bind fun ds => if ds = [] then none else some (.nx (ρ.set i (.own ds.dropLast)))
theorem qs_pop {i : Nat} {x : Expr} {apos cpos : Pos} (hx : PE X x (tVar i)) (h : ∀ {tx : TE}, PE X x tx → PE X (.Call (.Attribute x "pop" apos) [] [] cpos) (tBM0 X.K "list" rPop tx))
    (hs : swapsWith (.Call (.Attribute x "pop" apos) [] [] cpos) none pos.line X.env = pure false := by rfl) : PS X (.Expr (.Call (.Attribute x "pop" apos) [] [] cpos) pos) (tPs X.K (rPopL i)) :=
  PS.weaken (ps_expr (h hx) hs) fun D σ H ⟨Hf0, H0, ρ, Hf, o, F, e, p⟩ => by
    obtain ⟨ds, e1, e⟩ := Option.bind_eq_some_iff.mp e
    have e1 := ownAt_some e1
    split at e
    · cases e
    · rename_i hl
      cases e
      obtain ⟨o, f, a, vs, rfl, h0, h1, h2, r⟩ := F.st.at_ i _ e1
      have hv : vs.length - 1 < vs.length := by
        rw [r.length]
        have : ds.length ≠ 0 := fun z => hl (List.length_eq_zero_iff.mp z)
        omega
      exact ⟨.ref a, f, .inl ⟨rfl, _, .of h1⟩, a, vs, vs[vs.length - 1], rfl, rfl, h1, List.getElem?_eq_getElem hv, p σ Hf _ (F.mut e1 f h0 h2 r.dropLast) (Same.refl _)⟩
def rPut (i : Nat) (gk g : En → Option D) : En → Option Out := fun ρ => (ownAt i ρ).bind fun ds => (g ρ).bind fun d => (gk ρ).bind fun k => (asInt k).bind fun k => (ixN ds.length k).map fun j => .nx (ρ.set i (.own (ds.set j d)))
theorem qs_put {i : Nat} {x k : Expr} {p1 : Pos} {gk : En → Option D} (hx : PE X x (tVar i)) (hk : PE X k (tPv X.K gk)) (he : PE X e (tPv X.K ga)) (hs : swapsWithSole [.Subscript x k p1] e pos.line X.env = pure false := by rfl) (hw : swappedStores [.Subscript x k p1] e X.env = pure none := by rfl)
    (h : ∀ {tx tk : TE}, PE X x tx → PE X k tk → PG X (.Subscript x k p1) (gSub tx tk rSetL)) : PS X (.Assign [.Subscript x k p1] e pos) (tPs X.K (rPut i gk ga)) :=
  PS.weaken (ps_asg he (h hx hk) hs hw) fun D σ H ⟨Hf0, H0, ρ, Hf, o, F, e, p⟩ => by
    obtain ⟨ds, e1, e⟩ := Option.bind_eq_some_iff.mp e
    obtain ⟨d, e2, e⟩ := Option.bind_eq_some_iff.mp e
    obtain ⟨kd, e3, e⟩ := Option.bind_eq_some_iff.mp e
    obtain ⟨n, e4, e⟩ := Option.bind_eq_some_iff.mp e
    obtain ⟨j, e5, e⟩ := Option.map_eq_some_iff.mp e
    subst e
    have e1 := ownAt_some e1
    rw [asInt_inv kd n e4] at e3
    obtain ⟨o, f, a, vs, rfl, h0, h1, h2, r⟩ := F.st.at_ i _ e1
    refine ⟨H0, ρ, Hf, d, F.st, e2, fun v Hf1 H1 x1 q => ⟨.ref a, f, H0, ρ, Hf1, _, F.st.ext x1, e3, fun w Hf2 H2 x2 q2 => ?_⟩⟩
    have x12 := x1.trans x2
    exact ⟨a, vs, n, j, rfl, q2.int_inv, x12.all _ _ h1, by rw [r.length]; exact e5, p σ Hf2 _ ((F.step x12).mut e1 f h0 (x12.keep _ _ h1 h2) ((r.mono x12.fro).set j (q.mono x2.fro))) x12.fro⟩
end
end Pu

namespace Pu
open PySem PySem.Spec PyProof.Rows L2
variable [FnTab]
section
variable {X : Cx} {e a b : Expr} {es : List Expr} {pos : Pos} {ga gb : En → Option D}
/-! ### targets -/
def tPg (K : PySem.W.Frag) (b : D → En → Option En) (L : List Nat) : TG := fun v σ H Q => ∃ H0 ρ ρ' Hf d, StOk K H0 ρ σ Hf H ∧ Rp K Hf v d ∧ b d ρ = some ρ' ∧ ∀ σ', StOk K H0 ρ' σ' Hf H → (∀ j : Nat, j ∉ L → σ'[j]? = σ[j]?) → σ'.length = σ.length → Q σ' H
def tPgs (K : PySem.W.Frag) (b : List D → En → Option En) (L : List Nat) : TGs := fun vs σ H Q => ∃ H0 ρ ρ' Hf ds, StOk K H0 ρ σ Hf H ∧ RpAll K Hf vs ds ∧ b ds ρ = some ρ' ∧ ∀ σ', StOk K H0 ρ' σ' Hf H → (∀ j : Nat, j ∉ L → σ'[j]? = σ[j]?) → σ'.length = σ.length → Q σ' H
theorem PG.weaken {e : Expr} {t t' : TG} (h : PG X e t) (w : ∀ v σ H Q, t' v σ H Q → t v σ H Q) : PG X e t' := ⟨fun pins s σ H v u Q I r q => h.run pins s σ H v u Q I r (w v σ H Q q)⟩
theorem PGs.weaken {e : List Expr} {t t' : TGs} (h : PGs X e t) (w : ∀ v σ H Q, t' v σ H Q → t v σ H Q) : PGs X e t' := ⟨fun pins s σ H v u Q I r q => h.run pins s σ H v u Q I r (w v σ H Q q)⟩
def bName (i : Nat) : D → En → Option En := fun d ρ => some (ρ.set i (.val d))
theorem qg_name {i : Nat} {x : Str} (hN : X.N.Nodup) (hi : X.N[i]? = some x) (hx : Loc X.env.scope x) (hf : X.fn x = true ∨ X.env.scope.names.lookup x = some .local := by first | exact .inl rfl | exact .inr rfl | assumption) : PG X (.Name x pos) (tPg X.K (bName i) [i]) :=
  PG.weaken (pg_name hN hi hx hf) fun v σ H Q ⟨H0, ρ, ρ', Hf, d, S, r, e, q⟩ => by
    cases e
    exact q _ (S.setV i r) (fun j hj => List.getElem?_set_ne (fun z => hj (by simp [z]))) (by simp)
def bNil : List D → En → Option En
  | [], ρ => some ρ
  | _ :: _, _ => none
def bCons (b : D → En → Option En) (bs : List D → En → Option En) : List D → En → Option En
  | d :: ds, ρ => (b d ρ).bind (bs ds)
  | [], _ => none
theorem qgs_nil : PGs X [] (tPgs X.K bNil []) := PGs.weaken pgs_nil fun v σ H Q ⟨H0, ρ, ρ', Hf, ds, S, r, e, q⟩ => by
  cases ds with
  | nil => cases r; cases e; exact ⟨rfl, q σ S (fun _ _ => rfl) rfl⟩
  | cons d ds => cases e
theorem qgs_cons {b : D → En → Option En} {bs : List D → En → Option En} {L1 L2 : List Nat} (h1 : PG X e (tPg X.K b L1)) (h2 : PGs X es (tPgs X.K bs L2)) (hs : (assignEach (e :: es) X.env).map (·.2) = assign e X.env :: (assignEach es X.env).map (·.2) := by rfl) : PGs X (e :: es) (tPgs X.K (bCons b bs) (L1 ++ L2)) :=
  PGs.weaken (pgs_cons h1 h2 hs) fun v σ H Q ⟨H0, ρ, ρ', Hf, ds, S, r, e, q⟩ => by
    cases ds with
    | nil => cases e
    | cons d ds =>
      cases r with
      | cons ra rb =>
        obtain ⟨ρ1, e1, e2⟩ := Option.bind_eq_some_iff.mp e
        exact ⟨_, _, rfl, H0, ρ, ρ1, Hf, d, S, ra, e1, fun σ1 S1 k1 l1 => ⟨H0, ρ1, ρ', Hf, ds, S1, rb, e2, fun σ2 S2 k2 l2 => q σ2 S2 (fun j hj => (k2 j fun z => hj (List.mem_append_right _ z)).trans (k1 j fun z => hj (List.mem_append_left _ z))) (l2.trans l1)⟩⟩
def bTup (n : Nat) (bs : List D → En → Option En) : D → En → Option En
  | .tuple ds, ρ => if ds.length = n then bs ds ρ else none
  | .list ds, ρ => if ds.length = n then bs ds ρ else none
  | _, _ => none
theorem pg_or {e : Expr} {t1 t2 : TG} (h1 : PG X e t1) (h2 : PG X e t2) : PG X e (fun v σ H Q => t1 v σ H Q ∨ t2 v σ H Q) :=
  ⟨fun pins s σ H v u Q I r hw => hw.elim (h1.run pins s σ H v u Q I r) (h2.run pins s σ H v u Q I r)⟩
theorem qg_tup {n k : Nat} {bs : List D → En → Option En} {L : List Nat} (h : ∀ {t : TGs}, PGs X es t → PG X (.Tuple es k pos) (gTup X.K n t)) (h2 : ∀ {t : TGs}, PGs X es t → PG X (.Tuple es k pos) (gUnl X.K n t)) (hs : PGs X es (tPgs X.K bs L)) : PG X (.Tuple es k pos) (tPg X.K (bTup n bs) L) :=
  PG.weaken (pg_or (h hs) (h2 hs)) fun v σ H Q ⟨H0, ρ, ρ', Hf, d, S, r, e, q⟩ => by
    cases d with
    | tuple ds =>
      have e : (if ds.length = n then bs ds ρ else none) = some ρ' := e
      split at e
      · rename_i hl
        obtain ⟨a, xs, rfl, h1, ra⟩ := r.tup_inv
        exact .inl ⟨a, xs, rfl, Same.seqT S.sub h1, by rw [ra.length]; exact hl, H0, ρ, ρ', Hf, ds, S, ra, e, q⟩
      · cases e
    | list ds =>
      have e : (if ds.length = n then bs ds ρ else none) = some ρ' := e
      split at e
      · rename_i hl
        obtain ⟨a, xs, rfl, h1, ra⟩ := Rp.lst_inv r
        exact .inr ⟨a, xs, rfl, .inl (Same.rd S.sub h1), by rw [ra.length]; exact hl, H0, ρ, ρ', Hf, ds, S, ra, e, q⟩
      · cases e
    | _ => cases e
/-- targets = e -/
def rAsg (b : D → En → Option En) (g : En → Option D) : En → Option Out := fun ρ => (g ρ).bind fun d => (b d ρ).map .nx
theorem qs_asg {tg : Expr} {b : D → En → Option En} {L : List Nat} (he : PE X e (tPv X.K ga)) (hg : PG X tg (tPg X.K b L)) (hs : swapsWithSole [tg] e pos.line X.env = pure false := by rfl) (hw : swappedStores [tg] e X.env = pure none := by rfl) (h1 : (assignEach [tg] X.env).map (·.2) = [assign tg X.env] := by rfl) : PS X (.Assign [tg] e pos) (tPs X.K (rAsg b ga)) :=
  PS.weaken (ps_asg he hg hs hw h1) fun D σ H ⟨Hf0, H0, ρ, Hf, o, F, e, p⟩ => by
    obtain ⟨d, e1, e⟩ := Option.bind_eq_some_iff.mp e
    obtain ⟨ρ', e2, e⟩ := Option.map_eq_some_iff.mp e
    subst e
    exact ⟨H0, ρ, Hf, d, F.st, e1, fun v Hf' H' x r => ⟨H0, ρ, ρ', Hf', d, F.st.ext x, r, e2, fun σ' S' _ _ => p σ' Hf' H' ⟨F.ext.trans x, S'⟩ x.fro⟩⟩
/-! ### what is walked -/
structure Wk (K : PySem.W.Frag) (Hf : Hp) (J : It) (ds : List D) : Prop where
  go : ∀ i H, Same Hf H → i < ds.length → J.go i H
  stop : ∀ i H, Same Hf H → ds.length ≤ i → J.stop i H
  yld : ∀ i H v H' Hf1 d, Same Hf Hf1 → Same Hf1 H → J.yld i H v H' → ds[i]? = some d → ∃ Hf2, Ext Hf1 H Hf2 H' ∧ Rp K Hf2 v d
def tPi (K : PySem.W.Frag) (g : En → Option (List D)) : TI := fun σ H R => ∃ H0 ρ Hf ds, StOk K H0 ρ σ Hf H ∧ g ρ = some ds ∧ ∀ J Hf' H', Ext Hf H Hf' H' → Wk K Hf' J ds → R J H'
theorem PI.weaken {tg l : Expr} {t t' : TI} (h : PI X tg l t) (w : ∀ σ H Q, t' σ H Q → t σ H Q) : PI X tg l t' := ⟨fun pins s σ H R I q => h.run pins s σ H R I (w σ H R q)⟩
theorem PI.or {tg l : Expr} {t t' : TI} (h : PI X tg l t) (h' : PI X tg l t') : PI X tg l (fun σ H R => t σ H R ∨ t' σ H R) := ⟨fun pins s σ H R I q => by
  rcases q with q | q
  · exact h.run pins s σ H R I q
  · exact h'.run pins s σ H R I q⟩
theorem wk_list {K : PySem.W.Frag} {Hf : Hp} {a : Addr} {xs : List V} {ds : List D} (h : SqL K Hf a xs) (r : RpAll K Hf xs ds) (inj : ∀ H ys, Same Hf H → SqL K H a ys → ys = xs) : Wk K Hf (Itl K a) ds where
  go := fun i H s hi => ⟨xs, xs[i]'(by rw [r.length]; exact hi), s.seq h, List.getElem?_eq_getElem _⟩
  stop := fun i H s hi => ⟨xs, s.seq h, by rw [r.length]; exact hi⟩
  yld := fun i H v H' Hf1 d s1 s2 y e => by
    obtain ⟨rfl, y⟩ := y
    have hv := y xs ((s1.trans s2).seq h)
    obtain ⟨v', hv', q⟩ := r.get e
    rw [hv] at hv'
    cases hv'
    exact ⟨Hf1, .refl s2, q.mono s1⟩
theorem wk_list' {K : PySem.W.Frag} {Hf : Hp} {a : Addr} {xs : List V} {ds : List D} (h : SqL K Hf a xs) (r : RpAll K Hf xs ds) : Wk K Hf (Itl K a) ds where
  go := fun i H s hi => ⟨xs, xs[i]'(by rw [r.length]; exact hi), s.seq h, List.getElem?_eq_getElem _⟩
  stop := fun i H s hi => ⟨xs, s.seq h, by rw [r.length]; exact hi⟩
  yld := fun i H v H' Hf1 d s1 s2 y e => by
    obtain ⟨rfl, y⟩ := y
    have hv := y xs ((s1.trans s2).seq h)
    obtain ⟨v', hv', q⟩ := r.get e
    rw [hv] at hv'
    cases hv'
    exact ⟨Hf1, .refl s2, q.mono s1⟩
theorem wk_tup {K : PySem.W.Frag} {Hf : Hp} {a : Addr} {xs : List V} {ds : List D} (h : SqT K Hf a xs) (r : RpAll K Hf xs ds) : Wk K Hf (Itt K a) ds where
  go := fun i H s hi => ⟨xs, xs[i]'(by rw [r.length]; exact hi), Same.seqT s h, List.getElem?_eq_getElem _⟩
  stop := fun i H s hi => ⟨xs, Same.seqT s h, by rw [r.length]; exact hi⟩
  yld := fun i H v H' Hf1 d s1 s2 y e => by
    obtain ⟨rfl, y⟩ := y
    have hv := y xs (Same.seqT (s1.trans s2) h)
    obtain ⟨v', hv', q⟩ := r.get e
    rw [hv] at hv'
    cases hv'
    exact ⟨Hf1, .refl s2, q.mono s1⟩
def strD (z : Str) : List D := z.cps.toList.map fun c => .str ⟨#[c]⟩
theorem wk_str {K : PySem.W.Frag} {Hf : Hp} {z : Str} : Wk K Hf (Its z) (strD z) where
  go := fun i H s hi => by
    unfold strD at hi
    rw [List.length_map, Array.length_toList] at hi
    exact hi
  stop := fun i H s hi => by
    unfold strD at hi
    rw [List.length_map, Array.length_toList] at hi
    exact hi
  yld := fun i H v H' Hf1 d s1 s2 y e => by
    obtain ⟨rfl, c, hc, rfl⟩ := y
    unfold strD at e
    rw [List.getElem?_map, Array.getElem?_toList, hc] at e
    cases e
    exact ⟨Hf1, .refl s2, .str _⟩
def itemsOf : D → Option (List D)
  | .list ds => some ds
  | .tuple ds => some ds
  | .str z => some (strD z)
  | .dict [(.list ds, .none)] => some ds
  | _ => none
def gItems (g : En → Option D) : En → Option (List D) := fun ρ => (g ρ).bind itemsOf
/-- a list, a tuple or a text -/
theorem qi_seq {tg l : Expr} (h : PE X l (tPv X.K ga)) (hl : ∀ {t : TE}, PE X l t → PI X tg l (iStr t)) : PI X tg l (tPi X.K (gItems ga)) :=
  PI.weaken (PI.or (PI.or (pi_list h) (pi_tup h)) (hl h)) fun σ H R ⟨H0, ρ, Hf, ds, S, e, q⟩ => by
    obtain ⟨d, e1, e⟩ := Option.bind_eq_some_iff.mp e
    unfold itemsOf at e
    split at e
    · cases e
      refine .inl (.inl ⟨H0, ρ, Hf, _, S, e1, fun v Hf1 H1 x1 r1 => ?_⟩)
      obtain ⟨a, xs, rfl, h1, ra⟩ := r1.lst_inv
      exact ⟨a, rfl, ⟨xs, x1.sub.seq (.inl h1)⟩, q _ Hf1 H1 x1 (wk_list' (.inl h1) ra)⟩
    · cases e
      refine .inl (.inr ⟨H0, ρ, Hf, _, S, e1, fun v Hf1 H1 x1 r1 => ?_⟩)
      obtain ⟨a, xs, rfl, h1, ra⟩ := r1.tup_inv
      exact ⟨a, rfl, ⟨xs, Same.seqT x1.sub h1⟩, q _ Hf1 H1 x1 (wk_tup h1 ra)⟩
    · cases e
      exact .inr ⟨H0, ρ, Hf, _, S, e1, fun v Hf1 H1 x1 r1 => ⟨_, r1.str_inv, q _ Hf1 H1 x1 wk_str⟩⟩
    · cases e
      refine .inl (.inl ⟨H0, ρ, Hf, _, S, e1, fun v Hf1 H1 x1 r1 => ?_⟩)
      obtain ⟨a, xs, rfl, h1, ra⟩ := Rp.scr_inv r1 rfl
      exact ⟨a, rfl, ⟨xs, x1.sub.seq h1⟩, q _ Hf1 H1 x1 (wk_list' h1 ra)⟩
    · cases e
/-- a list or a tuple -/
def gItems2 (g : En → Option D) : En → Option (List D) := fun ρ => (g ρ).bind fun d => match d with
  | .list ds => some ds
  | .tuple ds => some ds
  | .dict [(.list ds, .none)] => some ds
  | _ => none
theorem qi_lt {tg l : Expr} (h : PE X l (tPv X.K ga)) : PI X tg l (tPi X.K (gItems2 ga)) :=
  PI.weaken (PI.or (pi_list h) (pi_tup h)) fun σ H R ⟨H0, ρ, Hf, ds, S, e, q⟩ => by
    obtain ⟨d, e1, e⟩ := Option.bind_eq_some_iff.mp e
    split at e
    · cases e
      refine .inl ⟨H0, ρ, Hf, _, S, e1, fun v Hf1 H1 x1 r1 => ?_⟩
      obtain ⟨a, xs, rfl, h1, ra⟩ := r1.lst_inv
      exact ⟨a, rfl, ⟨xs, x1.sub.seq (.inl h1)⟩, q _ Hf1 H1 x1 (wk_list' (.inl h1) ra)⟩
    · cases e
      refine .inr ⟨H0, ρ, Hf, _, S, e1, fun v Hf1 H1 x1 r1 => ?_⟩
      obtain ⟨a, xs, rfl, h1, ra⟩ := r1.tup_inv
      exact ⟨a, rfl, ⟨xs, Same.seqT x1.sub h1⟩, q _ Hf1 H1 x1 (wk_tup h1 ra)⟩
    · cases e
      refine .inl ⟨H0, ρ, Hf, _, S, e1, fun v Hf1 H1 x1 r1 => ?_⟩
      obtain ⟨a, xs, rfl, h1, ra⟩ := Rp.scr_inv r1 rfl
      exact ⟨a, rfl, ⟨xs, x1.sub.seq h1⟩, q _ Hf1 H1 x1 (wk_list' h1 ra)⟩
    · cases e
def rangeD (lo : Int) (n : Nat) (c : Int) : List D := (List.range n).map fun i : Nat => .int (lo + (i : Int) * c)
theorem wk_range {K : PySem.W.Frag} {Hf : Hp} {lo : Int} {n : Nat} : Wk K Hf (Itr lo n) (rangeD lo n 1) where
  go := fun i H s hi => by
    have : i < n := by simpa [rangeD] using hi
    exact this
  stop := fun i H s hi => by
    have : n ≤ i := by simpa [rangeD] using hi
    exact this
  yld := fun i H v H' Hf1 d s1 s2 y e => by
    obtain ⟨rfl, rfl⟩ := y
    unfold rangeD at e
    rw [List.getElem?_map] at e
    obtain ⟨j, hj, rfl⟩ := Option.map_eq_some_iff.mp e
    have : j = i := by
      rw [List.getElem?_range (by
        have := (List.getElem?_eq_some_iff.mp hj).1
        simpa using this)] at hj
      exact (Option.some.inj hj).symm
    subst this
    rw [Int.mul_one]
    exact ⟨Hf1, .refl s2, .int _⟩
def gRange1 (gs : En → Option (List D)) : En → Option (List D) := fun ρ => (gs ρ).bind fun ds => match ds with
  | [.int n] => if -(2 ^ 62) ≤ n ∧ n < 2 ^ 62 then some (rangeD 0 n.toNat 1) else none
  | _ => none
def gRange2 (gs : En → Option (List D)) : En → Option (List D) := fun ρ => (gs ρ).bind fun ds => match ds with
  | [.int m, .int n] => if -(2 ^ 62) ≤ m ∧ m < 2 ^ 62 ∧ -(2 ^ 62) ≤ n ∧ n < 2 ^ 62 then some (rangeD m (n - m).toNat 1) else none
  | _ => none
theorem qi_range1 {tg a : Expr} {p : Pos} {gs : En → Option (List D)} (hg : Gl X "range") (hm : X.mg "range" = none) (ha : PA X [a] (tPa X.K gs)) (hs : starEach [a] X.env = [(false, eval a X.env)] := by rfl) : PI X tg (.Call (.Name "range" p) [a] [] pos) (tPi X.K (gRange1 gs)) :=
  PI.weaken (pi_range1 hg hm ha hs) fun σ H R ⟨H0, ρ, Hf, ds, S, e, q⟩ => by
    obtain ⟨as, e1, e⟩ := Option.bind_eq_some_iff.mp e
    split at e
    · split at e
      · rename_i n hn
        cases e
        exact ⟨H0, ρ, Hf, _, S, e1, fun vs Hf1 H1 x1 r1 => ⟨n, RpAll.ints_inv (ns := [n]) r1, hn.1, hn.2, q _ Hf1 H1 x1 wk_range⟩⟩
      · cases e
    · cases e
theorem qi_range2 {tg a b : Expr} {p : Pos} {gs : En → Option (List D)} (hg : Gl X "range") (hm : X.mg "range" = none) (ha : PA X [a, b] (tPa X.K gs)) (hs : starEach [a, b] X.env = [(false, eval a X.env), (false, eval b X.env)] := by rfl) (hs2 : starEach [b] X.env = [(false, eval b X.env)] := by rfl) :
    PI X tg (.Call (.Name "range" p) [a, b] [] pos) (tPi X.K (gRange2 gs)) :=
  PI.weaken (pi_range2 hg hm ha hs hs2) fun σ H R ⟨H0, ρ, Hf, ds, S, e, q⟩ => by
    obtain ⟨as, e1, e⟩ := Option.bind_eq_some_iff.mp e
    split at e
    · split at e
      · rename_i m n hn
        cases e
        exact ⟨H0, ρ, Hf, _, S, e1, fun vs Hf1 H1 x1 r1 => ⟨m, n, RpAll.ints_inv (ns := [m, n]) r1, hn, q _ Hf1 H1 x1 wk_range⟩⟩
      · cases e
    · cases e
/-! ### loops -/
variable {st : Stmt} {sts rest : List Stmt} {R R1 R2 : En → Option Out}
def forL (b : D → En → Option En) (R : En → Option Out) : List D → En → Option Out
  | [], ρ => some (.nx ρ)
  | d :: ds, ρ => (b d ρ).bind fun ρ1 => (R ρ1).bind fun o => match o with
    | .nx ρ2 => forL b R ds ρ2
    | .ct ρ2 => forL b R ds ρ2
    | .bk ρ2 => some (.nx ρ2)
    | .rt d => some (.rt d)
def rFor (gi : En → Option (List D)) (b : D → En → Option En) (R : En → Option Out) : En → Option Out := fun ρ => (gi ρ).bind fun ds => forL b R ds ρ
theorem qs_for {tg iter : Expr} {body : List Stmt} {gi : En → Option (List D)} {b : D → En → Option En} {L : List Nat} (hp : PassesOwn (model X.prog X.w) X.A X.env X.xe) (hc : X.calm = true) (hi : PI X tg iter (tPi X.K gi)) (hg : PG X tg (tPg X.K b L)) (hb : PSs X body (tPs X.K R))
    (hs : ∀ x, foldedSetIterable iter X.env x = pure x := by intro _; rfl) : PS X (.For tg iter body [] pos) (tPs X.K (rFor gi b R)) :=
  PS.weaken (ps_for hp hc hi hg hb hs) fun D σ H ⟨Hf0, H0, ρ, Hf, o, F, e, p⟩ => by
    obtain ⟨ds, e1, e⟩ := Option.bind_eq_some_iff.mp e
    refine ⟨H0, ρ, Hf, ds, F.st, e1, fun J Hf1 H1 x1 w => ?_⟩
    refine ⟨fun i m σ H => m = ds.length - i ∧ i ≤ ds.length ∧ ∃ ρ Hf, Fr X.K Hf0 H0 ρ σ Hf H ∧ Same Hf1 Hf ∧ forL b R (ds.drop i) ρ = some o, ⟨_, rfl, Nat.zero_le _, ρ, Hf1, F.step x1, Same.refl _, e⟩, ?_⟩
    rintro i m σ2 H2 ⟨rfl, hi, ρ2, Hf2, F2, s2, e2⟩
    by_cases hlt : i < ds.length
    · rw [List.drop_eq_getElem_cons hlt] at e2
      obtain ⟨ρ3, e3, e2⟩ := Option.bind_eq_some_iff.mp e2
      obtain ⟨o3, e4, e2⟩ := Option.bind_eq_some_iff.mp e2
      refine .inr ⟨w.go i H2 (s2.trans F2.st.sub) hlt, fun σ H => i + 1 ≤ ds.length ∧ ∃ ρ Hf, Fr X.K Hf0 H0 ρ σ Hf H ∧ Same Hf1 Hf ∧ forL b R (ds.drop (i + 1)) ρ = some o, fun σ' H' n => ⟨ds.length - (i + 1), by omega, rfl, n.1, n.2⟩, fun x H' y => ?_⟩
      obtain ⟨Hf3, x3, r3⟩ := w.yld i H2 x H' Hf2 _ s2 F2.st.sub y (List.getElem?_eq_getElem hlt)
      refine ⟨H0, ρ2, ρ3, Hf3, _, F2.st.ext x3, r3, e3, fun σ4 S4 _ _ => ⟨Hf0, H0, ρ3, Hf3, o3, ⟨F2.ext.trans x3, S4⟩, e4, ?_⟩⟩
      cases o3 with
      | nx ρ5 => exact fun σ5 Hf5 H5 F5 s5 => ⟨hlt, ρ5, Hf5, F5, s2.trans (x3.fro.trans s5), e2⟩
      | ct ρ5 => exact fun σ5 Hf5 H5 F5 s5 => ⟨hlt, ρ5, Hf5, F5, s2.trans (x3.fro.trans s5), e2⟩
      | bk ρ5 => cases e2; exact fun σ5 Hf5 H5 F5 s5 => p σ5 Hf5 H5 F5 (x1.fro.trans (s2.trans (x3.fro.trans s5)))
      | rt d => cases e2; exact p
    · rw [List.drop_eq_nil_of_le (by omega)] at e2
      cases e2
      exact .inl ⟨w.stop i H2 (s2.trans F2.st.sub) (by omega), p σ2 Hf2 H2 F2 (x1.fro.trans s2)⟩
def whileL (c : En → Option Bool) (R : En → Option Out) : Nat → En → Option Out
  | 0, _ => none
  | n + 1, ρ => (c ρ).bind fun b => if b = true then (R ρ).bind fun o => match o with
    | .nx ρ2 => whileL c R n ρ2
    | .ct ρ2 => whileL c R n ρ2
    | .bk ρ2 => some (.nx ρ2)
    | .rt d => some (.rt d)
    else some (.nx ρ)
def rWhile (fuel : En → Nat) (c : En → Option Bool) (R : En → Option Out) : En → Option Out := fun ρ => whileL c R (fuel ρ) ρ
theorem qs_while {c : Expr} {body : List Stmt} {tc : En → Option Bool} (fuel : En → Nat) (hp : PassesOwn (model X.prog X.w) X.A X.env X.xe) (hc : PT X c (tPt X.K tc)) (hb : PSs X body (tPs X.K R)) : PS X (.While c body [] pos) (tPs X.K (rWhile fuel tc R)) :=
  PS.weaken (ps_while hp hc hb) fun D σ H ⟨Hf0, H0, ρ, Hf, o, F, e, p⟩ => by
    refine ⟨fun m σ H => ∃ ρ Hf1, Fr X.K Hf0 H0 ρ σ Hf1 H ∧ Same Hf Hf1 ∧ whileL tc R m ρ = some o, ⟨_, ρ, Hf, F, Same.refl _, e⟩, ?_⟩
    rintro m σ1 H1 ⟨ρ1, Hf1, F1, s1, e1⟩
    cases m with
    | zero => cases e1
    | succ m =>
      obtain ⟨k, e2, e1⟩ := Option.bind_eq_some_iff.mp e1
      refine ⟨H0, ρ1, Hf1, k, F1.st, e2, fun Hf2 H2 x2 => ?_⟩
      cases k with
      | true =>
        rw [if_pos rfl] at e1 ⊢
        obtain ⟨o3, e3, e1⟩ := Option.bind_eq_some_iff.mp e1
        refine ⟨fun σ H => ∃ ρ Hf1, Fr X.K Hf0 H0 ρ σ Hf1 H ∧ Same Hf Hf1 ∧ whileL tc R m ρ = some o, fun σ' H' n => ⟨m, Nat.lt_succ_self _, n⟩, Hf0, H0, ρ1, Hf2, o3, F1.step x2, e3, ?_⟩
        cases o3 with
        | nx ρ5 => exact fun σ5 Hf5 H5 F5 s5 => ⟨ρ5, Hf5, F5, s1.trans (x2.fro.trans s5), e1⟩
        | ct ρ5 => exact fun σ5 Hf5 H5 F5 s5 => ⟨ρ5, Hf5, F5, s1.trans (x2.fro.trans s5), e1⟩
        | bk ρ5 => cases e1; exact fun σ5 Hf5 H5 F5 s5 => p σ5 Hf5 H5 F5 (s1.trans (x2.fro.trans s5))
        | rt d => cases e1; exact p
      | false =>
        rw [if_neg Bool.false_ne_true] at e1 ⊢
        cases e1
        exact p σ1 Hf2 H2 (F1.step x2) (s1.trans x2.fro)
end
end Pu

namespace Pu
open PySem PySem.Spec PyProof.Rows L2
variable [FnTab]
section
variable {X : Cx} {e a b : Expr} {es : List Expr} {pos : Pos} {ga gb : En → Option D}
/-! ### zip, enumerate -/
def zipD : List D → List D → List D
  | x :: xs, y :: ys => .tuple [x, y] :: zipD xs ys
  | _, _ => []
theorem zipD_len : ∀ (xs ys : List D), (zipD xs ys).length = min xs.length ys.length
  | [], _ => by simp [zipD]
  | _ :: _, [] => by simp [zipD]
  | x :: xs, y :: ys => by simp only [zipD, List.length_cons, zipD_len xs ys]; omega
theorem zipD_get : ∀ (xs ys : List D) (i : Nat) (d : D), (zipD xs ys)[i]? = some d → ∃ x y, xs[i]? = some x ∧ ys[i]? = some y ∧ d = .tuple [x, y]
  | [], _, _, _, h => by simp [zipD] at h
  | _ :: _, [], _, _, h => by simp [zipD] at h
  | x :: xs, y :: ys, 0, d, h => by
    simp only [zipD, List.getElem?_cons_zero, Option.some.injEq] at h
    exact ⟨x, y, rfl, rfl, h.symm⟩
  | x :: xs, y :: ys, i + 1, d, h => by
    simp only [zipD, List.getElem?_cons_succ] at h
    obtain ⟨u, w, h1, h2, h3⟩ := zipD_get xs ys i d h
    exact ⟨u, w, by simpa using h1, by simpa using h2, h3⟩
theorem wk_zip {K : PySem.W.Frag} {Hf : Hp} {a b : Addr} {xs ys : List V} {ds es : List D} (h : SqL K Hf a xs) (r : RpAll K Hf xs ds) (h' : SqL K Hf b ys) (r' : RpAll K Hf ys es) : Wk K Hf (Itz K a b) (zipD ds es) where
  go := fun i H s hi => by
    rw [zipD_len] at hi
    have h1 : i < xs.length := by rw [r.length]; omega
    have h2 : i < ys.length := by rw [r'.length]; omega
    exact ⟨xs, ys, xs[i], ys[i], s.seq h, s.seq h', List.getElem?_eq_getElem h1, List.getElem?_eq_getElem h2⟩
  stop := fun i H s hi => by
    rw [zipD_len] at hi
    exact ⟨xs, ys, s.seq h, s.seq h', by rw [r.length, r'.length]; omega⟩
  yld := fun i H v H' Hf1 d s1 s2 y e => by
    obtain ⟨T, x, y, rfl, hT, rfl, f1, f2⟩ := y
    obtain ⟨dx, dy, e1, e2, rfl⟩ := zipD_get _ _ _ _ e
    obtain ⟨x', hx, qx⟩ := r.get e1
    obtain ⟨y', hy, qy⟩ := r'.get e2
    have gx := f1 xs ((s1.trans s2).seq h)
    have gy := f2 ys ((s1.trans s2).seq h')
    rw [gx] at hx
    rw [gy] at hy
    cases hx
    cases hy
    have nf := s2.free hT
    exact ⟨_, .fresh s2 hT, .tup (.of upd_same) (.cons (qx.mono (s1.trans (Same.new nf))) (.cons (qy.mono (s1.trans (Same.new nf))) .nil))⟩
def gZip (gs : En → Option (List D)) : En → Option (List D) := fun ρ => (gs ρ).bind fun ds => match ds with
  | [.list xs, .list ys] => some (zipD xs ys)
  | _ => none
theorem qi_zip {elts : List Expr} {kk : Nat} {tpos : Pos} {gs : En → Option (List D)} {l : Expr} (hpi : ∀ {t : TA}, PA X [a, b] t → PI X (.Tuple elts kk tpos) l (iZip X.K t)) (ha : PA X [a, b] (tPa X.K gs)) : PI X (.Tuple elts kk tpos) l (tPi X.K (gZip gs)) :=
  PI.weaken (hpi ha) fun σ H R ⟨H0, ρ, Hf, ds, S, e, q⟩ => by
    obtain ⟨as, e1, e⟩ := Option.bind_eq_some_iff.mp e
    split at e
    · cases e
      refine ⟨H0, ρ, Hf, _, S, e1, fun vs Hf1 H1 x1 r1 => ?_⟩
      cases r1 with
      | cons r1 r2 =>
        cases r2 with
        | cons r2 r3 =>
          cases r3
          obtain ⟨a1, xs, rfl, h1, ra⟩ := r1.lst_inv
          obtain ⟨a2, ys, rfl, h2, rb⟩ := r2.lst_inv
          exact ⟨a1, a2, xs, ys, rfl, x1.sub.seq (.inl h1), x1.sub.seq (.inl h2), q _ Hf1 H1 x1 (wk_zip (.inl h1) ra (.inl h2) rb)⟩
    · cases e
def enumD : Nat → List D → List D
  | _, [] => []
  | n, x :: xs => .tuple [.int n, x] :: enumD (n + 1) xs
theorem enumD_len : ∀ (n : Nat) (xs : List D), (enumD n xs).length = xs.length
  | _, [] => rfl
  | n, x :: xs => by simp only [enumD, List.length_cons, enumD_len (n + 1) xs]
theorem enumD_get : ∀ (n : Nat) (xs : List D) (i : Nat) (d : D), (enumD n xs)[i]? = some d → ∃ x, xs[i]? = some x ∧ d = .tuple [.int ((n + i : Nat) : Int), x]
  | _, [], _, _, h => by simp [enumD] at h
  | n, x :: xs, 0, d, h => by
    simp only [enumD, List.getElem?_cons_zero, Option.some.injEq] at h
    exact ⟨x, rfl, h.symm⟩
  | n, x :: xs, i + 1, d, h => by
    simp only [enumD, List.getElem?_cons_succ] at h
    obtain ⟨u, h1, h2⟩ := enumD_get (n + 1) xs i d h
    exact ⟨u, by simpa using h1, by rw [h2, show n + 1 + i = n + (i + 1) by omega]⟩
theorem wk_enum {K : PySem.W.Frag} {Hf : Hp} {a : Addr} {xs : List V} {ds : List D} (h : SqL K Hf a xs) (r : RpAll K Hf xs ds) : Wk K Hf (Ite K a) (enumD 0 ds) where
  go := fun i H s hi => by
    rw [enumD_len] at hi
    have h1 : i < xs.length := by rw [r.length]; omega
    exact ⟨xs, xs[i], s.seq h, List.getElem?_eq_getElem h1⟩
  stop := fun i H s hi => by
    rw [enumD_len] at hi
    exact ⟨xs, s.seq h, by rw [r.length]; omega⟩
  yld := fun i H v H' Hf1 d s1 s2 y e => by
    obtain ⟨T, x, rfl, hT, rfl, f1⟩ := y
    obtain ⟨dx, e1, rfl⟩ := enumD_get _ _ _ _ e
    obtain ⟨x', hx, qx⟩ := r.get e1
    have gx := f1 xs ((s1.trans s2).seq h)
    rw [gx] at hx
    cases hx
    have nf := s2.free hT
    refine ⟨_, .fresh s2 hT, .tup (.of upd_same) (.cons ?_ (.cons (qx.mono (s1.trans (Same.new nf))) .nil))⟩
    rw [Nat.zero_add]
    exact .int _
def gEnum (gs : En → Option (List D)) : En → Option (List D) := fun ρ => (gs ρ).bind fun ds => match ds with
  | [.list xs] => some (enumD 0 xs)
  | _ => none
theorem qi_enum {elts : List Expr} {kk : Nat} {tpos : Pos} {gs : En → Option (List D)} {l : Expr} (hpi : ∀ {t : TA}, PA X [a] t → PI X (.Tuple elts kk tpos) l (iEnum X.K t)) (ha : PA X [a] (tPa X.K gs)) : PI X (.Tuple elts kk tpos) l (tPi X.K (gEnum gs)) :=
  PI.weaken (hpi ha) fun σ H R ⟨H0, ρ, Hf, ds, S, e, q⟩ => by
    obtain ⟨as, e1, e⟩ := Option.bind_eq_some_iff.mp e
    split at e
    · cases e
      refine ⟨H0, ρ, Hf, _, S, e1, fun vs Hf1 H1 x1 r1 => ?_⟩
      cases r1 with
      | cons r1 r2 =>
        cases r2
        obtain ⟨a1, xs, rfl, h1, ra⟩ := r1.lst_inv
        exact ⟨a1, xs, rfl, x1.sub.seq (.inl h1), q _ Hf1 H1 x1 (wk_enum (.inl h1) ra)⟩
    · cases e
/-! ### comprehensions -/
def wipeE (ρ : En) : List Nat → En
  | [] => ρ
  | v :: vs => (wipeE ρ vs).set v .un
theorem wipe_get : ∀ (vs : List Nat) (σ : L2.St) (i : Nat), i ∉ vs → (wipe σ vs)[i]? = σ[i]?
  | [], _, _, _ => rfl
  | v :: vs, σ, i, h => by
    show ((wipe σ vs).set v none)[i]? = _
    rw [List.getElem?_set_ne (fun z => h (by simp [z])), wipe_get vs σ i fun z => h (List.mem_cons_of_mem _ z)]
theorem wipe_in : ∀ (vs : List Nat) (σ : L2.St) (i : Nat), i ∈ vs → i < σ.length → (wipe σ vs)[i]? = some none
  | [], _, _, h, _ => by cases h
  | v :: vs, σ, i, h, hl => by
    show ((wipe σ vs).set v none)[i]? = _
    by_cases e : i = v
    · subst e
      rw [List.getElem?_set_self (by rw [wipe_length]; exact hl)]
    · rw [List.getElem?_set_ne (Ne.symm e)]
      exact wipe_in vs σ i (by simpa [e] using h) hl
theorem wipe_eq {vs : List Nat} {σ σ' : L2.St} (hl : σ'.length = σ.length) (h : ∀ j : Nat, j ∉ vs → σ'[j]? = σ[j]?) : wipe σ' vs = wipe σ vs := by
  refine List.ext_getElem? fun i => ?_
  by_cases hi : i ∈ vs
  · by_cases hlt : i < σ.length
    · rw [wipe_in vs σ' i hi (by omega), wipe_in vs σ i hi hlt]
    · rw [List.getElem?_eq_none (by rw [wipe_length]; omega), List.getElem?_eq_none (by rw [wipe_length]; omega)]
  · rw [wipe_get vs σ' i hi, wipe_get vs σ i hi, h i hi]
theorem wipe_wipe (vs : List Nat) (σ : L2.St) : wipe (wipe σ vs) vs = wipe σ vs := wipe_eq (wipe_length _ _) fun j hj => wipe_get vs σ j hj
theorem StOk.un {K : PySem.W.Frag} {H0 Hf H : Hp} {ρ : En} {σ : L2.St} (S : StOk K H0 ρ σ Hf H) (i : Nat) (o : Option V) : StOk K H0 (ρ.set i .un) (σ.set i o) Hf H := by
  refine ⟨S.sub, fun j s e => ?_, fun j k ds es a ne e1 e2 f => ?_⟩
  · rcases set_get e with ⟨rfl, hl, rfl⟩ | ⟨ne, e⟩
    · exact ⟨o, List.getElem?_set_self (S.some_at hl), trivial⟩
    · obtain ⟨o, e1, h⟩ := S.at_ j s e
      exact ⟨o, by rw [List.getElem?_set_ne (Ne.symm ne)]; exact e1, h⟩
  · rcases set_get e1 with ⟨_, _, z⟩ | ⟨n1, e1⟩
    · cases z
    · rcases set_get e2 with ⟨_, _, z⟩ | ⟨n2, e2⟩
      · cases z
      · rw [List.getElem?_set_ne (Ne.symm n1)] at f
        rw [List.getElem?_set_ne (Ne.symm n2)]
        exact S.sep j k ds es a ne e1 e2 f
theorem StOk.wipe {K : PySem.W.Frag} {H0 Hf H : Hp} {ρ : En} {σ : L2.St} (S : StOk K H0 ρ σ Hf H) : ∀ (vs : List Nat), StOk K H0 (wipeE ρ vs) (L2.wipe σ vs) Hf H
  | [] => S
  | v :: vs => (StOk.wipe S vs).un v none
/-- an object that no slot owns is written -/
theorem StOk.other {K : PySem.W.Frag} {H0 Hf H : Hp} {ρ : En} {σ : L2.St} {p : Addr} {o : HO} (S : StOk K H0 ρ σ Hf H) (hf : Hf p = none) (ho : ∀ (i : Nat) (ds : List D), ρ[i]? = some (.own ds) → σ[i]? ≠ some (some (.ref p))) : StOk K H0 ρ σ Hf (L2.upd H p o) := by
  refine ⟨fun b u q => ?_, fun i s e => ?_, S.sep⟩
  · rw [upd_ne (ne_of_none q hf)]; exact S.sub b u q
  · obtain ⟨w, e1, h⟩ := S.at_ i s e
    refine ⟨w, e1, ?_⟩
    cases s with
    | un => trivial
    | val d => exact h
    | own ds =>
      obtain ⟨a, vs, rfl, g0, g1, g2, g3⟩ := h
      have ne : a ≠ p := fun z => ho i ds e (by rw [e1, z])
      exact ⟨a, vs, rfl, g0, by rw [upd_ne ne]; exact g1, g2, g3⟩
/-- tests of a comprehension -/
def gYes : En → Option Bool := fun _ => some true
theorem qt_yes : PTs X [] (tPt X.K gYes) := ⟨fun pins s σ H Q I h => (pts_nil (X := X)).run pins s σ H Q I (by
  obtain ⟨H0, ρ, Hf, b, S, e, q⟩ := h
  cases e
  exact q Hf H (.refl S.sub))⟩
/-- one comprehension turn after the other -/
def lcL (f : D → Option (List D)) : List D → Option (List D)
  | [] => some []
  | d :: ds => (f d).bind fun xs => (lcL f ds).map (xs ++ ·)
def lcF (b : D → En → Option En) (t : En → Option Bool) (g : En → Option D) (ρ : En) : D → Option (List D) := fun d => (b d ρ).bind fun ρ1 => (t ρ1).bind fun c => if c = true then (g ρ1).map fun y => [y] else some []
def gLc (gi : En → Option (List D)) (b : D → En → Option En) (t : En → Option Bool) (g : En → Option D) (L : List Nat) : En → Option Rs := fun ρ => (gi ρ).bind fun ds => (lcL (lcF b t g (wipeE ρ L)) ds).bind fun out => if out.length ≤ sizeLine then some (.new out) else none
structure LcS (K : PySem.W.Frag) (Hs Hfs : Hp) (H0 : Hp) (ρ : En) (σ : L2.St) (p : Addr) (acc : List D) (Hf H : Hp) : Prop where
  ext : Ext Hfs Hs Hf H
  st : StOk K H0 ρ σ Hf H
  own : ∃ vs, H p = some (.lst vs) ∧ RpAll K Hf vs acc
  fp : Hf p = none
theorem LcS.step {K : PySem.W.Frag} {Hs Hfs H0 Hf H Hf' H' : Hp} {ρ : En} {σ : L2.St} {p : Addr} {acc : List D} (F : LcS K Hs Hfs H0 ρ σ p acc Hf H) (x : Ext Hf H Hf' H') : LcS K Hs Hfs H0 ρ σ p acc Hf' H' :=
  ⟨F.ext.trans x, F.st.ext x, let ⟨vs, h, r⟩ := F.own; ⟨vs, x.all _ _ h, r.mono x.fro⟩, let ⟨vs, h, r⟩ := F.own; x.keep _ _ h F.fp⟩
theorem LcS.push {K : PySem.W.Frag} {Hs Hfs H0 Hf H : Hp} {ρ : En} {σ : L2.St} {p : Addr} {acc : List D} {y : V} {d : D} {vs : List V} (F : LcS K Hs Hfs H0 ρ σ p acc Hf H) (hs : Hs p = none) (ho : ∀ (i : Nat) (ds : List D), ρ[i]? = some (.own ds) → σ[i]? ≠ some (some (.ref p)))
    (h : H p = some (.lst vs)) (r : RpAll K Hf vs acc) (q : Rp K Hf y d) : LcS K Hs Hfs H0 ρ σ p (acc ++ [d]) Hf (L2.upd H p (.lst (vs ++ [y]))) := by
  have S := F.st.other (o := .lst (vs ++ [y])) F.fp ho
  refine ⟨⟨fun b u e => ?_, F.ext.fro, S.sub, F.ext.keep⟩, S, ⟨_, upd_same, r.append (.cons q .nil)⟩, F.fp⟩
  rw [upd_ne (ne_of_none e hs)]
  exact F.ext.all b u e
theorem tLc_pu {K : PySem.W.Frag} {gi : En → Option (List D)} {b : D → En → Option En} {t : En → Option Bool} {g : En → Option D} {L L1 : List Nat} (hL : ∀ j ∈ L1, j ∈ L) {σ : L2.St} {H : Hp} {Q : VK} (h : tPu K (gLc gi b t g L) σ H Q) :
    tLc (tPi K gi) (tPg K b L1) (tPt K t) (tPv K g) L σ H Q := by
  obtain ⟨H0, ρ, Hf, r, S, e, q⟩ := h
  obtain ⟨ds, e1, e⟩ := Option.bind_eq_some_iff.mp e
  obtain ⟨out, e2, e⟩ := Option.bind_eq_some_iff.mp e
  split at e
  · rename_i hsz
    cases e
    refine ⟨H0, ρ, Hf, ds, S, e1, fun J Hf1 H1 x1 w p hp => ?_⟩
    have S1 := (S.ext x1).wipe L
    have fp1 : Hf1 p = none := x1.sub.free hp
    have hsp : H p = none := x1.all.free hp
    have ho : ∀ (i : Nat) (ds : List D), (wipeE ρ L)[i]? = some (.own ds) → (L2.wipe σ L)[i]? ≠ some (some (.ref p)) := fun i ds ei z => by
      obtain ⟨o, f, a, vs, rfl, _, g1, _⟩ := S1.at_ i _ ei
      rw [f] at z
      cases z
      rw [hp] at g1
      cases g1
    have x2 : Ext Hf H Hf1 (L2.upd H1 p (.lst [])) := x1.trans (.loose x1.sub hp)
    refine ⟨fun i m H' => m = ds.length - i ∧ i ≤ ds.length ∧ ∃ Hf' acc rest, Same Hf1 Hf' ∧ LcS K H Hf H0 (wipeE ρ L) (L2.wipe σ L) p acc Hf' H' ∧ lcL (lcF b t g (wipeE ρ L)) (ds.drop i) = some rest ∧ acc ++ rest = out,
      ⟨_, rfl, Nat.zero_le _, Hf1, [], out, Same.refl _, ⟨x2, S1.other fp1 ho, ⟨[], upd_same, .nil⟩, fp1⟩, e2, rfl⟩, ?_⟩
    rintro i m H2 ⟨rfl, hi, Hf2, acc, rest, s2, F2, e3, e4⟩
    by_cases hlt : i < ds.length
    · rw [List.drop_eq_getElem_cons hlt] at e3
      obtain ⟨xs, e5, e3⟩ := Option.bind_eq_some_iff.mp e3
      obtain ⟨rest2, e6, e3⟩ := Option.map_eq_some_iff.mp e3
      obtain ⟨ρ1, e7, e5⟩ := Option.bind_eq_some_iff.mp e5
      obtain ⟨c, e8, e5⟩ := Option.bind_eq_some_iff.mp e5
      refine .inr ⟨w.go i H2 (s2.trans F2.st.sub) hlt, fun H' => i + 1 ≤ ds.length ∧ ∃ Hf' acc rest, Same Hf1 Hf' ∧ LcS K H Hf H0 (wipeE ρ L) (L2.wipe σ L) p acc Hf' H' ∧ lcL (lcF b t g (wipeE ρ L)) (ds.drop (i + 1)) = some rest ∧ acc ++ rest = out,
        fun H' n => ⟨ds.length - (i + 1), by omega, rfl, n.1, n.2⟩, fun x H3 y => ?_⟩
      obtain ⟨Hf3, x3, r3⟩ := w.yld i H2 x H3 Hf2 _ s2 F2.st.sub y (List.getElem?_eq_getElem hlt)
      have F3 := F2.step x3
      refine ⟨H0, wipeE ρ L, ρ1, Hf3, _, F3.st, r3, e7, fun σ4 S4 k4 l4 => ⟨?_, H0, ρ1, Hf3, c, S4, e8, fun Hf5 H5 x5 => ?_⟩⟩
      · rw [wipe_eq l4 fun j hj => k4 j fun z => hj (hL j z), wipe_wipe]
      · have F5 := F3.step x5
        cases c with
        | true =>
          rw [if_pos rfl] at e5
          obtain ⟨dy, e9, e5⟩ := Option.map_eq_some_iff.mp e5
          subst e5
          refine iteT ?_
          refine ⟨H0, ρ1, Hf5, dy, S4.ext x5, e9, fun yv Hf6 H6 x6 r6 => ?_⟩
          have F6 := F5.step x6
          obtain ⟨vs, hv, rv⟩ := F6.own
          refine ⟨vs, hv, ?_, hlt, Hf6, acc ++ [dy], rest2, s2.trans (x3.fro.trans (x5.fro.trans x6.fro)), F6.push hsp ho hv rv r6, e6, ?_⟩
          · have hz : (acc ++ rest).length ≤ sizeLine := by rw [e4]; exact hsz
            rw [← e3, List.length_append, List.length_append, List.length_singleton] at hz
            rw [rv.length]
            omega
          · rw [← e4, ← e3]
            simp
        | false =>
          rw [if_neg Bool.false_ne_true] at e5
          cases e5
          refine iteF ?_
          refine ⟨hlt, Hf5, acc, rest2, s2.trans (x3.fro.trans x5.fro), F5, e6, ?_⟩
          rw [← e4, ← e3]
          rfl
    · rw [List.drop_eq_nil_of_le (by omega)] at e3
      cases e3
      obtain ⟨vs, hv, rv⟩ := F2.own
      refine .inl ⟨w.stop i H2 (s2.trans F2.st.sub) (by omega), q _ Hf2 H2 F2.ext ⟨p, vs, rfl, hsp, hv, F2.fp, ?_⟩⟩
      rw [List.append_nil] at e4
      rw [← e4]
      exact rv
  · cases e
theorem pu_lc {elt tg iter : Expr} {ifs : List Expr} {scope : Scope} {own : List (Str × Nat)} {gi : En → Option (List D)} {b : D → En → Option En} {t : En → Option Bool} {g : En → Option D} {L1 : List Nat} (hc : X.calm = true) (hN : X.N.Nodup) (hi : PI X tg iter (tPi X.K gi)) (ok : BlkOk X.N X.env.scope scope own)
    (hg : ∀ (s : Shared) (H : Hp) (C : Addr) (cl : List (Str × Addr)) (fp : List Addr), PG (X.blk s H scope (compEnvC scope cl C X.env) fp) tg (tPg X.K b L1)) (ht : ∀ (s : Shared) (H : Hp) (C : Addr) (cl : List (Str × Addr)) (fp : List Addr), PTs (X.blk s H scope (compEnvC scope cl C X.env) fp) ifs (tPt X.K t))
    (he : ∀ (s : Shared) (H : Hp) (C : Addr) (cl : List (Str × Addr)) (fp : List Addr), PE (X.blk s H scope (compEnvC scope cl C X.env) fp) elt (tPv X.K g)) (hL : ∀ j ∈ L1, j ∈ own.map (·.2) := by decide) (hs : ∀ x, foldedSetIterable iter X.env x = pure x := by intro _; rfl) :
    PE X (.ListComp elt [⟨tg, iter, ifs, 0⟩] scope pos) (tPu X.K (gLc gi b t g (own.map (·.2)))) := PE.weaken (pe_lc hc hN hi ok hg ht he hs) fun _ _ _ h => tLc_pu hL h
theorem qt_one {X : Cx} {c : Expr} {t : En → Option Bool} (h : PT X c (tPt X.K t)) : PTs X [c] (tPt X.K t) := pts_one h
/-- y = [..] on one line -/
theorem qs_lcSet {i : Nat} {y : Str} {py spos : Pos} {elt tg iter : Expr} {ifs : List Expr} {scope : Scope} {own : List (Str × Nat)} {gi : En → Option (List D)} {b : D → En → Option En} {t : En → Option Bool} {g : En → Option D} {L1 : List Nat} (hc : X.calm = true) (hN : X.N.Nodup) (hy : X.N[i]? = some y) (hyl : X.env.scope.names.lookup y = some .local)
    (hsw : swapsWith (.ListComp elt [⟨tg, iter, ifs, 0⟩] scope pos) (some (.Name y py)) spos.line X.env = pure true) (hi : PI X tg iter (tPi X.K gi)) (ok : BlkOk X.N X.env.scope scope own)
    (hg : ∀ (s : Shared) (H : Hp) (C : Addr) (cl : List (Str × Addr)) (fp : List Addr), PG (X.blk s H scope (compEnvC scope cl C X.env) fp) tg (tPg X.K b L1)) (ht : ∀ (s : Shared) (H : Hp) (C : Addr) (cl : List (Str × Addr)) (fp : List Addr), PTs (X.blk s H scope (compEnvC scope cl C X.env) fp) ifs (tPt X.K t))
    (he : ∀ (s : Shared) (H : Hp) (C : Addr) (cl : List (Str × Addr)) (fp : List Addr), PE (X.blk s H scope (compEnvC scope cl C X.env) fp) elt (tPv X.K g)) (hL : ∀ j ∈ L1, j ∈ own.map (·.2) := by decide) (hs : ∀ x, foldedSetIterable iter X.env x = pure x := by intro _; rfl) :
    PS X (.Assign [.Name y py] (.ListComp elt [⟨tg, iter, ifs, 0⟩] scope pos) spos) (tPs X.K (rOwn i (gLc gi b t g (own.map (·.2))))) := PS.weaken (ps_setLc hc hN hy hyl hsw hi ok hg ht he hs) fun D σ H h => by
  obtain ⟨Hf0, H0, ρ, Hf, o, F, e, p⟩ := h
  exact tLc_pu hL (tOwn_ps ⟨Hf0, H0, ρ, Hf, o, F, e, p⟩)
end
/-! ### defs -/
section
variable {P : Program} {w : World} {K : PySem.W.Frag} {mg : Str → Option Value} {base : Heap}
def start0 (n : Nat) (ds : List D) : En := ds.map .val ++ List.replicate (n - ds.length) .un
def runDef (n : Nat) (R : En → Option Out) (ds : List D) : Option D := (R (start0 n ds)).bind fun o => match o with
  | .rt d => some d
  | .nx _ => some .none
  | _ => none
theorem start_ok {H0 Hf H : Hp} {N : List Str} {vs : List V} {ds : List D} (s : Same Hf H) (r : RpAll K Hf vs ds) : StOk K H0 (start0 N.length ds) (start N vs) Hf H := by
  have hl := r.length
  refine ⟨s, fun i sl e => ?_, fun i j es es' a ne e1 e2 f => ?_⟩
  · unfold start0 at e
    unfold L2.start
    by_cases hi : i < ds.length
    · rw [List.getElem?_append_left (by simpa using hi)] at e
      rw [List.getElem?_append_left (by simpa [hl] using hi)]
      rw [List.getElem?_map] at e ⊢
      obtain ⟨d, hd, rfl⟩ := Option.map_eq_some_iff.mp e
      obtain ⟨v, hv, q⟩ := r.get hd
      exact ⟨some v, by rw [hv]; rfl, v, rfl, q⟩
    · rw [List.getElem?_append_right (by simpa using hi)] at e
      rw [List.getElem?_append_right (by simpa [hl] using hi)]
      rw [List.getElem?_replicate] at e ⊢
      simp only [List.length_map] at e ⊢
      split at e
      · cases e
        rename_i h
        exact ⟨none, by rw [if_pos (by rw [hl]; omega)], trivial⟩
      · cases e
  · unfold start0 at e1
    by_cases hi : i < ds.length
    · rw [List.getElem?_append_left (by simpa using hi), List.getElem?_map] at e1
      obtain ⟨d, _, z⟩ := Option.map_eq_some_iff.mp e1
      cases z
    · rw [List.getElem?_append_right (by simpa using hi), List.getElem?_replicate] at e1
      split at e1 <;> cases e1
/-- THE RULE for a def: its body's reading, run at the parameters -/
theorem fn_pu {x qual : Str} {st : Stmt} {f : Addr} {fd : FuncData} {N ps : List Str} {k : Nat} {R : En → Option Out} (F : Fun K x qual st f fd) (S : FnScope N ps (defScope st))
    (hb : ∀ (cdv : Value) (A : Around) (outer : List Env) (s : Shared) (H : Hp) (E : XK), Rg k (A.deeper (envOfC qual (defScope st) s.heap.objs.size f cdv)) → PSs (cxOf CX0 P w K mg base N qual (defScope st) f cdv A outer s H E).nox (defBody st) (tPs K R)) :
    FnG P w K mg base CX0 (k + 1) f fd ps (spPu K ps.length (runDef N.length R)) := by
  refine okG F S (fun vs H Q E h => spPu_len h) (fun cdv A outer s H vs Q E hr h => ⟨_, hb cdv A outer s H E hr, ?_⟩)
  obtain ⟨Hf, ds, d, hl, sub, r, e, q⟩ := h
  obtain ⟨o, e1, e2⟩ := Option.bind_eq_some_iff.mp e
  refine ⟨Hf, H, _, Hf, o, ⟨.refl sub, start_ok sub r⟩, e1, ?_⟩
  cases o with
  | rt d' => cases e2; exact fun v Hf' H' x r' => q v Hf' H' x r'
  | nx ρ' => cases e2; exact fun σ' Hf' H' F' _ => q _ Hf' H' F'.ext .non
  | bk ρ' => cases e2
  | ct ρ' => cases e2
theorem spPu_imp {n : Nat} {φ φ' : List D → Option D} (h : ∀ ds d, φ' ds = some d → φ ds = some d) {vs : List V} {H : Hp} {Q : VK} {E : XK} (s : spPu K n φ' vs H Q E) : spPu K n φ vs H Q E := by
  obtain ⟨Hf, ds, d, hl, sub, r, e, q⟩ := s
  exact ⟨Hf, ds, d, hl, sub, r, h ds d e, q⟩
end
end Pu

namespace Pu
open PySem PySem.Spec PyProof.Rows L2
variable [FnTab]
/-- a def that stands at the name x and keeps φ -/
structure Fk (P : Program) (w : World) (K : PySem.W.Frag) (mg : Str → Option Value) (base : Heap) (k : Nat) (x : Str) (n : Nat) (φ : List D → Option D) : Prop where
  ex : ∃ f fd ps, FnG P w K mg base CX0 k f fd ps (spPu K n φ) ∧ mg x = some (.ref f) ∧ PySem.W.keepIn K (.ref f) = true ∧ Binds K fd ps []
theorem Fk.imp {P : Program} {w : World} {K : PySem.W.Frag} {mg : Str → Option Value} {base : Heap} {k n : Nat} {x : Str} {φ φ' : List D → Option D} (F : Fk P w K mg base k x n φ) (h : ∀ ds d, φ' ds = some d → φ ds = some d) : Fk P w K mg base k x n φ' := by
  obtain ⟨f, fd, ps, F1, F2, F3, F4⟩ := F.ex
  exact ⟨f, fd, ps, F1.imp fun vs H Q E s => spPu_imp h s, F2, F3, F4⟩
theorem Fk.lift {P : Program} {w : World} {K : PySem.W.Frag} {mg : Str → Option Value} {base : Heap} {j k n : Nat} {x : Str} {φ : List D → Option D} (F : Fk P w K mg base k x n φ) (h : k ≤ j) : Fk P w K mg base j x n φ := by
  obtain ⟨f, fd, ps, F1, F2, F3, F4⟩ := F.ex
  exact ⟨f, fd, ps, F1.lift h, F2, F3, F4⟩
section
variable {X : Cx} {e : Expr} {es : List Expr} {pos : Pos}
theorem pv_callF {k j n : Nat} {x : Str} {p : Pos} {φ : List D → Option D} {gs : En → Option (List D)} (F : Fk X.prog X.w X.K X.mg X.base k x n φ) (hr : Rg j X.A) (hk : k ≤ j) (hg : Gl X x) (ha : PA X (e :: es) (tPa X.K gs)) (hdb : (x == ("__debug__" : Str)) = false := by decide)
    (he : starEach (e :: es) X.env = (false, eval e X.env) :: starEach es X.env := by rfl) (hpl : (backTo pos (starEach es X.env)).any (·.1) = false := by rfl) : PE X (.Call (.Name x p) (e :: es) [] pos) (tPv X.K (gCall n φ gs)) := by
  obtain ⟨f, fd, ps, F1, F2, F3, F4⟩ := F.ex
  exact pv_call F1 (hr.mono hk) hg F2 F3 F4 pass0 ha hdb he hpl
/-- a module's constant -/
def Ck (K : PySem.W.Frag) (mg : Str → Option Value) (x : Str) (d : D) : Prop := ∃ (v : V) (u : Value), mg x = some u ∧ RelV v u ∧ ∀ H, Rp K H v d
theorem pv_glob {x : Str} {d : D} (c : Ck X.K X.mg x d) (hg : Gl X x) (hd : (x == ("__debug__" : Str)) = false := by decide) : PE X (.Name x pos) (tPv X.K (vC d)) := by
  obtain ⟨v, u, h1, h2, h3⟩ := c
  exact pv_c (pe_glob hg h1 h2 hd) h3
theorem Ck.int {K : PySem.W.Frag} {mg : Str → Option Value} {x : Str} {i : Int} (h : ∃ t, mg x = some (.int i t)) : Ck K mg x (.int i) := by
  obtain ⟨t, h⟩ := h
  exact ⟨.int i, _, h, ⟨t, rfl⟩, fun _ => .int i⟩
theorem Ck.str {K : PySem.W.Frag} {mg : Str → Option Value} {x : Str} {z : Str} (h : ∃ t, mg x = some (.str z t)) : Ck K mg x (.str z) := by
  obtain ⟨t, h⟩ := h
  exact ⟨.str z, _, h, ⟨t, rfl⟩, fun _ => .str z⟩
end
end Pu
namespace Pu
open PySem
variable [FnTab]
theorem bt_len : bootBuiltins "len" = some (.builtin "len") := by decide +kernel
theorem bt_sorted : bootBuiltins "sorted" = some (.builtin "sorted") := by decide +kernel
theorem bt_sum : bootBuiltins "sum" = some (.builtin "sum") := by decide +kernel
theorem bt_any : bootBuiltins "any" = some (.builtin "any") := by decide +kernel
theorem bt_all : bootBuiltins "all" = some (.builtin "all") := by decide +kernel
theorem bt_abs : bootBuiltins "abs" = some (.builtin "abs") := by decide +kernel
theorem bt_max : bootBuiltins "max" = some (.builtin "max") := by decide +kernel
theorem bt_min : bootBuiltins "min" = some (.builtin "min") := by decide +kernel
theorem bt_isinstance : bootBuiltins "isinstance" = some (.builtin "isinstance") := by decide +kernel
theorem bt_list : bootBuiltins "list" = some (.type "list") := by decide +kernel
theorem bt_int : bootBuiltins "int" = some (.type "int") := by decide +kernel
theorem bt_bool : bootBuiltins "bool" = some (.type "bool") := by decide +kernel
theorem bt_str : bootBuiltins "str" = some (.type "str") := by decide +kernel
theorem bt_tuple : bootBuiltins "tuple" = some (.type "tuple") := by decide +kernel
theorem bt_set : bootBuiltins "set" = some (.type "set") := by decide +kernel
end Pu

namespace Pu
open PySem PySem.Spec PyProof.Rows L2
variable [FnTab]
/-! ### comprehensions over two sources -/
def NoOwn (b : D → En → Option En) : Prop := ∀ d ρ ρ', b d ρ = some ρ' → ∀ (i : Nat) (ds : List D), ρ'[i]? = some (.own ds) → ρ[i]? = some (.own ds)
def NoOwns (b : List D → En → Option En) : Prop := ∀ d ρ ρ', b d ρ = some ρ' → ∀ (i : Nat) (ds : List D), ρ'[i]? = some (.own ds) → ρ[i]? = some (.own ds)
theorem nb_name {j : Nat} : NoOwn (bName j) := fun d ρ ρ' e i ds h => by
  cases (show some (ρ.set j (.val d)) = some ρ' from e)
  by_cases hj : i = j
  · subst hj
    by_cases hl : i < ρ.length
    · rw [List.getElem?_set_self hl] at h; cases h
    · rw [List.getElem?_eq_none (by simpa using hl)] at h; cases h
  · rwa [List.getElem?_set_ne (Ne.symm hj)] at h
theorem nb_nil : NoOwns bNil := fun d ρ ρ' e i ds h => by
  cases d with
  | nil => cases (show some ρ = some ρ' from e); exact h
  | cons _ _ => cases e
theorem nb_cons {b : D → En → Option En} {bs : List D → En → Option En} (h1 : NoOwn b) (h2 : NoOwns bs) : NoOwns (bCons b bs) := fun d ρ ρ' e i ds h => by
  cases d with
  | nil => cases e
  | cons x xs =>
    obtain ⟨ρ1, e1, e2⟩ := Option.bind_eq_some_iff.mp (show (b x ρ).bind (bs xs) = some ρ' from e)
    exact h1 _ _ _ e1 i ds (h2 _ _ _ e2 i ds h)
theorem nb_tup {n : Nat} {bs : List D → En → Option En} (h : NoOwns bs) : NoOwn (bTup n bs) := fun d ρ ρ' e i ds hi => by
  cases d with
  | tuple xs =>
    have e : (if xs.length = n then bs xs ρ else none) = some ρ' := e
    split at e
    · exact h _ _ _ e i ds hi
    · cases e
  | list xs =>
    have e : (if xs.length = n then bs xs ρ else none) = some ρ' := e
    split at e
    · exact h _ _ _ e i ds hi
    · cases e
  | _ => cases e
theorem wipeE_in : ∀ (vs : List Nat) (ρ : En) (i : Nat) (ds : List D), i ∈ vs → (wipeE ρ vs)[i]? ≠ some (.own ds)
  | [], _, _, _, h => by cases h
  | v :: vs, ρ, i, ds, h => fun z => by
    have z : ((wipeE ρ vs).set v .un)[i]? = some (.own ds) := z
    by_cases e : i = v
    · subst e
      by_cases hl : i < (wipeE ρ vs).length
      · rw [List.getElem?_set_self hl] at z; cases z
      · rw [List.getElem?_eq_none (by simpa using hl)] at z; cases z
    · rw [List.getElem?_set_ne (Ne.symm e)] at z
      exact wipeE_in vs ρ i ds (by simpa [e] using h) z
theorem wipeE_own : ∀ (vs : List Nat) (ρ : En) (i : Nat) (ds : List D), (wipeE ρ vs)[i]? = some (.own ds) → ρ[i]? = some (.own ds) ∧ i ∉ vs
  | [], _, _, _, h => ⟨h, by simp⟩
  | v :: vs, ρ, i, ds, h => by
    have h : ((wipeE ρ vs).set v .un)[i]? = some (.own ds) := h
    by_cases e : i = v
    · subst e
      by_cases hl : i < (wipeE ρ vs).length
      · rw [List.getElem?_set_self hl] at h; cases h
      · rw [List.getElem?_eq_none (by simpa using hl)] at h; cases h
    · rw [List.getElem?_set_ne (Ne.symm e)] at h
      obtain ⟨a, b⟩ := wipeE_own vs ρ i ds h
      exact ⟨a, by simp [e, b]⟩
def lcF2 (b : D → En → Option En) (t : En → Option Bool) (gi1 : En → Option (List D)) (b1 : D → En → Option En) (t1 : En → Option Bool) (g : En → Option D) (L1 : List Nat) (ρ : En) : D → Option (List D) :=
  fun d => (b d ρ).bind fun ρ1 => (t ρ1).bind fun c => if c = true then (gi1 ρ1).bind fun es => lcL (lcF b1 t1 g (wipeE ρ1 L1)) es else some []
def gLc2 (gi : En → Option (List D)) (b : D → En → Option En) (t : En → Option Bool) (gi1 : En → Option (List D)) (b1 : D → En → Option En) (t1 : En → Option Bool) (g : En → Option D) (L L1 : List Nat) : En → Option Rs :=
  fun ρ => (gi ρ).bind fun ds => (lcL (lcF2 b t gi1 b1 t1 g L1 (wipeE ρ L)) ds).bind fun out => if out.length ≤ sizeLine then some (.new out) else none
theorem tLc2_pu {K : PySem.W.Frag} {gi gi1 : En → Option (List D)} {b b1 : D → En → Option En} {t t1 : En → Option Bool} {g : En → Option D} {L L1 M M1 : List Nat} (hL : ∀ j ∈ M, j ∈ L) (hL1 : ∀ j ∈ M1, j ∈ L1) (hb : NoOwn b) {σ : L2.St} {H : Hp} {Q : VK}
    (h : tPu K (gLc2 gi b t gi1 b1 t1 g L L1) σ H Q) :
    tLc2 (tPi K gi) (tPg K b M) (tPt K t) (tPi K gi1) (tPg K b1 M1) (tPt K t1) (tPv K g) L L1 σ H Q := by
  obtain ⟨H0, ρ, Hf, r, S, e, q⟩ := h
  obtain ⟨ds, e1, e⟩ := Option.bind_eq_some_iff.mp e
  obtain ⟨out, e2, e⟩ := Option.bind_eq_some_iff.mp e
  split at e
  · rename_i hsz
    cases e
    refine ⟨H0, ρ, Hf, ds, S, e1, fun J Hf1 H1 x1 w p hp => ?_⟩
    have S1 := (S.ext x1).wipe L
    have fp1 : Hf1 p = none := x1.sub.free hp
    have hsp : H p = none := x1.all.free hp
    have ho : ∀ (i : Nat) (ds : List D), (wipeE ρ L)[i]? = some (.own ds) → (L2.wipe σ L)[i]? ≠ some (some (.ref p)) := fun i ds ei z => by
      obtain ⟨o, f, a, vs, rfl, _, g1, _⟩ := S1.at_ i _ ei
      rw [f] at z
      cases z
      rw [hp] at g1
      cases g1
    have x2 : Ext Hf H Hf1 (L2.upd H1 p (.lst [])) := x1.trans (.loose x1.sub hp)
    let f := lcF2 b t gi1 b1 t1 g L1 (wipeE ρ L)
    refine ⟨fun i m H' => m = ds.length - i ∧ i ≤ ds.length ∧ ∃ Hf' acc rest, Same Hf1 Hf' ∧ LcS K H Hf H0 (wipeE ρ L) (L2.wipe σ L) p acc Hf' H' ∧ lcL f (ds.drop i) = some rest ∧ acc ++ rest = out,
      ⟨_, rfl, Nat.zero_le _, Hf1, [], out, Same.refl _, ⟨x2, S1.other fp1 ho, ⟨[], upd_same, .nil⟩, fp1⟩, e2, rfl⟩, ?_⟩
    rintro i m H2 ⟨rfl, hi, Hf2, acc, rest, s2, F2, e3, e4⟩
    by_cases hlt : i < ds.length
    · rw [List.drop_eq_getElem_cons hlt] at e3
      obtain ⟨xs, e5, e3⟩ := Option.bind_eq_some_iff.mp e3
      obtain ⟨rest2, e6, e3⟩ := Option.map_eq_some_iff.mp e3
      obtain ⟨ρ1, e7, e5⟩ := Option.bind_eq_some_iff.mp e5
      obtain ⟨c, e8, e5⟩ := Option.bind_eq_some_iff.mp e5
      refine .inr ⟨w.go i H2 (s2.trans F2.st.sub) hlt, fun H' => i + 1 ≤ ds.length ∧ ∃ Hf' acc rest, Same Hf1 Hf' ∧ LcS K H Hf H0 (wipeE ρ L) (L2.wipe σ L) p acc Hf' H' ∧ lcL f (ds.drop (i + 1)) = some rest ∧ acc ++ rest = out,
        fun H' n => ⟨ds.length - (i + 1), by omega, rfl, n.1, n.2⟩, fun x H3 y => ?_⟩
      obtain ⟨Hf3, x3, r3⟩ := w.yld i H2 x H3 Hf2 _ s2 F2.st.sub y (List.getElem?_eq_getElem hlt)
      have F3 := F2.step x3
      refine ⟨H0, wipeE ρ L, ρ1, Hf3, _, F3.st, r3, e7, fun σ4 S4 k4 l4 => ⟨?_, H0, ρ1, Hf3, c, S4, e8, fun Hf5 H5 x5 => ?_⟩⟩
      · rw [wipe_eq l4 fun j hj => k4 j fun z => hj (hL j z), wipe_wipe]
      · have F5 := F3.step x5
        have ho4 : ∀ (i : Nat) (ds : List D), (wipeE ρ1 L1)[i]? = some (.own ds) → (L2.wipe σ4 L1)[i]? ≠ some (some (.ref p)) := fun j es ej z => by
          obtain ⟨ej, hj1⟩ := wipeE_own L1 ρ1 j es ej
          have ej0 := hb _ _ _ e7 j es ej
          obtain ⟨_, hj⟩ := wipeE_own L ρ j es ej0
          rw [wipe_get L1 σ4 j hj1, k4 j fun z => hj (hL j z)] at z
          exact ho j es ej0 z
        cases c with
        | true =>
          rw [if_pos rfl] at e5
          obtain ⟨es, e9, e5⟩ := Option.bind_eq_some_iff.mp e5
          refine iteT ?_
          refine ⟨H0, ρ1, Hf5, es, S4.ext x5, e9, fun J1 Hf6 H6 x6 w1 => ?_⟩
          have F6 := F5.step x6
          have S6 := ((S4.ext x5).ext x6).wipe L1
          refine ⟨fun j k H' => k = es.length - j ∧ j ≤ es.length ∧ ∃ Hf' acc' rest', Same Hf6 Hf' ∧ LcS K H Hf H0 (wipeE ρ L) (L2.wipe σ L) p acc' Hf' H' ∧ StOk K H0 (wipeE ρ1 L1) (L2.wipe σ4 L1) Hf' H' ∧ lcL (lcF b1 t1 g (wipeE ρ1 L1)) (es.drop j) = some rest' ∧ acc' ++ rest' = acc ++ xs,
            ⟨_, rfl, Nat.zero_le _, Hf6, acc, xs, Same.refl _, F6, S6, e5, rfl⟩, ?_⟩
          rintro j k H7 ⟨rfl, hj, Hf7, acc7, rest7, s7, F7, S7, e10, e11⟩
          have s17 : Same Hf1 Hf7 := s2.trans (x3.fro.trans (x5.fro.trans (x6.fro.trans s7)))
          by_cases hlt1 : j < es.length
          · rw [List.drop_eq_getElem_cons hlt1] at e10
            obtain ⟨xs1, e12, e10⟩ := Option.bind_eq_some_iff.mp e10
            obtain ⟨rest3, e13, e10⟩ := Option.map_eq_some_iff.mp e10
            obtain ⟨ρ2, e14, e12⟩ := Option.bind_eq_some_iff.mp e12
            obtain ⟨c1, e15, e12⟩ := Option.bind_eq_some_iff.mp e12
            refine .inr ⟨w1.go j H7 (s7.trans F7.st.sub) hlt1, fun H' => j + 1 ≤ es.length ∧ ∃ Hf' acc' rest', Same Hf6 Hf' ∧ LcS K H Hf H0 (wipeE ρ L) (L2.wipe σ L) p acc' Hf' H' ∧ StOk K H0 (wipeE ρ1 L1) (L2.wipe σ4 L1) Hf' H' ∧ lcL (lcF b1 t1 g (wipeE ρ1 L1)) (es.drop (j + 1)) = some rest' ∧ acc' ++ rest' = acc ++ xs,
              fun H' n => ⟨es.length - (j + 1), by omega, rfl, n.1, n.2⟩, fun x H8 y => ?_⟩
            obtain ⟨Hf8, x8, r8⟩ := w1.yld j H7 x H8 Hf7 _ s7 F7.st.sub y (List.getElem?_eq_getElem hlt1)
            have F8 := F7.step x8
            have S8 := S7.ext x8
            refine ⟨H0, wipeE ρ1 L1, ρ2, Hf8, _, S8, r8, e14, fun σ9 S9 k9 l9 => ⟨?_, H0, ρ2, Hf8, c1, S9, e15, fun Hf10 H10 x10 => ?_⟩⟩
            · rw [wipe_eq l9 fun j hj => k9 j fun z => hj (hL1 j z), wipe_wipe]
            · have F10 := F8.step x10
              have S10 := S8.ext x10
              cases c1 with
              | true =>
                rw [if_pos rfl] at e12
                obtain ⟨dy, e16, e12⟩ := Option.map_eq_some_iff.mp e12
                subst e12
                refine iteT ?_
                refine ⟨H0, ρ2, Hf10, dy, S9.ext x10, e16, fun yv Hf11 H11 x11 r11 => ?_⟩
                have F11 := F10.step x11
                have S11 := S10.ext x11
                obtain ⟨vs, hv, rv⟩ := F11.own
                refine ⟨vs, hv, ?_, hlt1, Hf11, acc7 ++ [dy], rest3, s7.trans (x8.fro.trans (x10.fro.trans x11.fro)), F11.push hsp ho hv rv r11, S11.other F11.fp ho4, e13, ?_⟩
                · have hz : (acc ++ rest).length ≤ sizeLine := by rw [e4]; exact hsz
                  rw [← e3] at hz
                  have hz2 : (acc7 ++ rest7).length = (acc ++ xs).length := by rw [e11]
                  rw [← e10] at hz2
                  simp only [List.length_append, List.length_singleton] at hz hz2
                  rw [rv.length]
                  omega
                · rw [← e11, ← e10]
                  simp
              | false =>
                rw [if_neg Bool.false_ne_true] at e12
                cases e12
                refine iteF ?_
                refine ⟨hlt1, Hf10, acc7, rest3, s7.trans (x8.fro.trans x10.fro), F10, S10, e13, ?_⟩
                rw [← e11, ← e10]
                rfl
          · rw [List.drop_eq_nil_of_le (by omega)] at e10
            cases e10
            rw [List.append_nil] at e11
            subst e11
            refine .inl ⟨w1.stop j H7 (s7.trans F7.st.sub) (by omega), hlt, Hf7, acc ++ xs, rest2, s17, F7, e6, ?_⟩
            rw [← e4, ← e3, List.append_assoc]
        | false =>
          rw [if_neg Bool.false_ne_true] at e5
          cases e5
          refine iteF ?_
          refine ⟨hlt, Hf5, acc, rest2, s2.trans (x3.fro.trans x5.fro), F5, e6, ?_⟩
          rw [← e4, ← e3]
          rfl
    · rw [List.drop_eq_nil_of_le (by omega)] at e3
      cases e3
      obtain ⟨vs, hv, rv⟩ := F2.own
      refine .inl ⟨w.stop i H2 (s2.trans F2.st.sub) (by omega), q _ Hf2 H2 F2.ext ⟨p, vs, rfl, hsp, hv, F2.fp, ?_⟩⟩
      rw [List.append_nil] at e4
      rw [← e4]
      exact rv
  · cases e
section
variable {X : Cx} {pos : Pos}
theorem pu_lc2 {elt tg iter tg1 iter1 : Expr} {ifs ifs1 : List Expr} {scope : Scope} {own : List (Str × Nat)} {vs1 : List Nat} {gi gi1 : En → Option (List D)} {b b1 : D → En → Option En} {t t1 : En → Option Bool} {g : En → Option D} {M M1 : List Nat} (hc : X.calm = true) (hN : X.N.Nodup) (hi : PI X tg iter (tPi X.K gi)) (ok : BlkOk X.N X.env.scope scope own)
    (hg : ∀ (s : Shared) (H : Hp) (C : Addr) (cl : List (Str × Addr)) (fp : List Addr), PG (X.blk s H scope (compEnvC scope cl C X.env) fp) tg (tPg X.K b M)) (ht : ∀ (s : Shared) (H : Hp) (C : Addr) (cl : List (Str × Addr)) (fp : List Addr), PTs (X.blk s H scope (compEnvC scope cl C X.env) fp) ifs (tPt X.K t))
    (hi1 : ∀ (s : Shared) (H : Hp) (C : Addr) (cl : List (Str × Addr)) (fp : List Addr), PI (X.blk s H scope (compEnvC scope cl C X.env) fp) tg1 iter1 (tPi X.K gi1))
    (hg1 : ∀ (s : Shared) (H : Hp) (C : Addr) (cl : List (Str × Addr)) (fp : List Addr), PG (X.blk s H scope (compEnvC scope cl C X.env) fp) tg1 (tPg X.K b1 M1)) (ht1 : ∀ (s : Shared) (H : Hp) (C : Addr) (cl : List (Str × Addr)) (fp : List Addr), PTs (X.blk s H scope (compEnvC scope cl C X.env) fp) ifs1 (tPt X.K t1))
    (he : ∀ (s : Shared) (H : Hp) (C : Addr) (cl : List (Str × Addr)) (fp : List Addr), PE (X.blk s H scope (compEnvC scope cl C X.env) fp) elt (tPv X.K g)) (hb : NoOwn b) (hL : ∀ j ∈ M, j ∈ own.map (·.2) := by decide) (hL1 : ∀ j ∈ M1, j ∈ vs1 := by decide) (hv : ∀ i ∈ vs1, i ∈ own.map (·.2) := by decide)
    (hs : ∀ x, foldedSetIterable iter X.env x = pure x := by intro _; rfl) (hs1 : ∀ env x, foldedSetIterable iter1 env x = pure x := by intro _ _; rfl) :
    PE X (.ListComp elt [⟨tg, iter, ifs, 0⟩, ⟨tg1, iter1, ifs1, 0⟩] scope pos) (tPu X.K (gLc2 gi b t gi1 b1 t1 g (own.map (·.2)) vs1)) :=
  PE.weaken (pe_lc2 hc hN hi ok hv hg ht hi1 hg1 ht1 he hs hs1) fun _ _ _ h => tLc2_pu hL hL1 hb h
end
end Pu

namespace Pu
open PySem PySem.Spec PyProof PyProof.Rows L2
variable [FnTab]
/-! ### sorted(set(ints)) -/
section
variable {P : Program} {w : World} {A : Around} {E : Value → Shared → Prop} {s : Shared}
abbrev set0 (w : World) : Obj := { cls := .type "set", dict := none, data := .set #[] 0 (.fresh 0 0 (!w.params.followText "set-order")) }
/-- what stands in the heap afterwards -/
def Grown (w : World) (S : Addr) (ns : List Int) (s s' : Shared) : Prop := ∃ (h' : Heap) (tk c : Nat), s' = { s with heap := h', toks := tk } ∧ SetR w h' S (fun j => decide (j ∈ ns)) c ∧ c ≤ ns.length ∧ ∀ b o, b ≠ S → s.heap.get? b = some o → h'.get? b = some o
theorem set_fill {S l : Addr} {xs : Array Value} {ns : List Int} {Q : PySem.Fin → Shared → Prop} (hh : A.handled = none) (sl : S ≠ l) (so : s.heap.get? S = some (set0 w)) (lo : s.heap.IsList l xs) (ii : IntsAre xs.toList ns) (room : ns.length + 1 < scanBound)
    (k : ∀ s', Grown w S ns s s' → Q (.done (.ret .none)) s') :
    wpAny (model P w) A (Builtin.«set.__init__» ⟨[.ref S, .ref l], []⟩) Q E s := by
  have len : xs.size = ns.length := by simpa using IntsAre.length ii
  obtain ⟨⟨cl, di, da, sls⟩, go, ec, n, ed⟩ := id lo
  simp only at ec ed
  subst ec ed
  have tS : s.TypeIs (.ref S) "set" := ⟨_, so, rfl⟩
  unfold Builtin.«set.__init__» noKeywords Builtin.Frozenset.updateFrom
  have n1 := F.sub_list_set
  have n2 := F.sub_list_frozenset
  have n3 : (Value.type "list" == Value.type "dict") = false := by decide
  generalize hPI : pyIter = PI
  wp_walk
  subst hPI
  have ltl := Heap.lt_size go
  have ltS := Heap.lt_size so
  have ne1 : l ≠ s.heap.objs.size := Nat.ne_of_lt ltl
  have ne2 : S ≠ s.heap.objs.size := Nat.ne_of_lt ltS
  have at_ : ∀ (i : Nat) (v : Value), xs[i]? = some v → ∃ k t, ns[i]? = some k ∧ v = .int k t := fun i v hv => by
    have q := hv
    rw [← Array.getElem?_toList] at q
    obtain ⟨t, e⟩ := IntsAre.int_at ii i v q
    have lt : i < ns.length := len ▸ (Array.getElem?_eq_some_iff.mp hv).1
    exact ⟨ns[i], t, by simp [lt], by rw [e]; simp [List.getD, lt]⟩
  refine wpAny_pyIter_list lo (wpAny_bind (wpAny_runValue ?_))
  refine set_update_ints ((Walks.list (by simp [hh]) _ l ne1 xs).toS) S (by simp [sl, ne2]) ns len room at_ _ 0 _ rfl (Nat.zero_le _) ?st ?s0 ?fin
  case st => exact ⟨⟨_, Heap.get?_push_size _ rfl, rfl, rfl⟩, lo.push _⟩
  case s0 => exact ⟨0, Nat.le_refl _, setR_new_at (Heap.get?_push_of_some _ so)⟩
  case fin =>
    rintro ⟨h2, g2, d2, t2, o2⟩ c m hc hS
    obtain rfl : g2 = s.gens := m.gens
    obtain rfl : d2 = s.drawn := m.drawn
    obtain rfl : o2 = s.os := m.os
    refine wpAny_pure (wpAny_pure (k _ ⟨h2, t2, c, rfl, hS, by omega, fun b o nb e => ?_⟩))
    have lb := Heap.lt_size e
    exact m.heap b o (by simp [nb, Nat.ne_of_lt lb]) (Heap.get?_push_of_some _ e)
theorem set_call {l : Addr} {xs : Array Value} {ns : List Int} {Q : Value → Shared → Prop} (hh : A.handled = none) (lo : s.heap.IsList l xs) (ii : IntsAre xs.toList ns) (room : ns.length + 1 < scanBound)
    (k : ∀ s', Grown w s.heap.objs.size ns { s with heap := s.heap.push (set0 w) } s' → Q (.ref s.heap.objs.size) s') :
    wpAny (model P w) A (call (.type "set") [.ref l]) Q E s := by
  have ⟨_, _, mro⟩ := F.called_set.mro
  have ms := F.called_set.made
  have ss := F.called_set.sub
  have nt := F.called_set.notType
  have cc := F.called_set.canCreate
  have tc := F.typeCall_set_1 (.ref l)
  have new : (s.heap.push (set0 w)).get? s.heap.objs.size = some (set0 w) := Heap.get?_push_size _ rfl
  have tS : Shared.TypeIs { s with heap := s.heap.push (set0 w) } (.ref s.heap.objs.size) "set" := ⟨_, new, rfl⟩
  have il := F.called_set.init.lookup
  have ib := F.called_set.init.bind (.ref s.heap.objs.size)
  have nel : s.heap.objs.size ≠ l := by
    obtain ⟨o, go, _⟩ := lo
    exact Nat.ne_of_gt (Heap.lt_size go)
  refine wpAny_call (codeAny_of_tree (wpAny_pure ⟨Code.quiet_builtin _ (by decide +kernel), codeAny_builtin F.entry_type_call ?_⟩))
  rw [Around.under_plain (weight_type_call_type "set" [.ref l] []) rfl]
  repeat (any_goals (first | assumption | wp_step))
  refine codeAny_mono (code_set_led1 (.ref l) (E := E) (Q₁ := fun v s' => v = .ref s.heap.objs.size ∧ s' = { s with heap := s.heap.push (set0 w) }) ⟨rfl, rfl⟩) fun r s' hr => ?_
  cases r with
  | error e => exact hr
  | ok f =>
    cases f with
    | ret v =>
      obtain ⟨rfl, rfl⟩ := hr
      repeat (any_goals (first | assumption | wp_step))
      refine codeAny_call_builtin F.called_set.init.plain F.entry_set_init (check_set_init_1 tS (set_fill (by simp [hh]) nel new (lo.push _) ii room fun s2 g => ?_))
      show wpAny _ _ _ _ _ _
      repeat (any_goals (first | assumption | wp_step))
      exact k s2 g
    | _ => exact hr.elim
theorem set_sorted {a : Addr} {S : Int → Bool} {n : Nat} {Q : Value → Shared → Prop} (hh : A.handled = none) (R : SetR w s.heap a S n) (hn : n ≤ sizeLine)
    (k : ∀ s' p (out : Array Value) (c : Nat) (ns : List Int), (∀ b o, s.heap.get? b = some o → s'.heap.get? b = some o) → s'.gens = s.gens → s'.os = s.os → s.heap.objs.size ≤ p → s'.heap.get? p = some (seqObj "list" out c) →
      IntsAre out.toList ns → ns.Pairwise (· < ·) → (∀ z, z ∈ ns ↔ S z = true) → ns.length = n → Q (.ref p) s') :
    wpAny (model P w) A (call (.builtin "sorted") [.ref a]) Q E s := by
  obtain ⟨o, es, ep, t, go, ⟨oc, _⟩, od, good, nod, mem, big, fit, siz, ris, led⟩ := R
  refine Calls.call_function_entry kind_sorted plain_sorted entry_sorted (args_sorted1 _) ?_
  unfold Builtin.«sorted»
  refine wpAny_bind (m := checkCount "sorted" 1 1 _) (wpAny_pure (wpAny_bind (collect_set (A := A.in1) hh ⟨o, go, oc, od⟩ fit big ris led fun s1 vs kept grew gg oo pm => ?_)))
  have lv : vs.length = n := by rw [pm.length_eq]; simpa using siz
  have iv : IntsAre vs (vs.map Builtin.Re.reRawOf) := ints_of vs fun v hv => by
    obtain ⟨e, he, rfl⟩ := List.mem_map.mp (pm.mem_iff.mp hv)
    obtain ⟨z, tk, e1, _⟩ := good e he
    exact ⟨z, tk, e1⟩
  have pk : (vs.map Builtin.Re.reRawOf).Perm (es.toList.map keyOf) := (pm.map Builtin.Re.reRawOf).trans (by rw [List.map_map]; exact .refl _)
  have ob : (s1.heap.push (seqObj "list" vs.toArray 0)).get? s1.heap.objs.size = some (seqObj "list" vs.toArray 0) := Heap.get?_push_size _ rfl
  refine wpAny_bind (wpAny_newList ?_ (by rw [lv]; exact hn))
  refine wpAny_bind (wpAny_holding (wpAny_call_entry slot_list_sort ⟨_, ob, rfl⟩ entry_list_sort (list_sort_treeAny ob iv (by rw [lv]; exact hn) fun out ms i2 pm2 asc => ⟨_, rfl, ?_⟩) (args_list_sort _)))
  obtain ⟨c, hc⟩ := sortedHeap_at (vs := vs) (out := out) ob
  have pa : ms.Perm (es.toList.map keyOf) := pm2.trans pk
  refine wpAny_pure ⟨_, rfl, k _ s1.heap.objs.size out c ms (fun b u e => ?_) gg oo grew hc i2 (lt_of_le_nodup ms asc (pa.nodup_iff.mpr nod)) (fun z => by rw [pa.mem_iff, ← mem z]) (by rw [pa.length_eq]; simpa using siz)⟩
  have lb := Heap.lt_size (kept b u e)
  exact (sortedHeap_old (Nat.ne_of_lt lb) (by rw [size_push']; exact Nat.lt_succ_of_lt lb)).trans (Heap.get?_push_of_some _ (kept b u e))
end
section
variable {X : Cx} {e : Expr} {pos : Pos}
def rSetL (X : Cx) : List V → Hp → VK → Prop := fun xs H Q => ∃ (l : Addr) (ns : List Int), xs = [V.ref l] ∧ SqL X.K H l (ns.map V.int) ∧ ns.length + 1 < scanBound ∧ ∀ p c, H p = none → c ≤ ns.length → Q (.ref p) (upd H p (SetO X.w p (fun j => decide (j ∈ ns)) c))
theorem cr_setL (hc : X.calm = true) : CallR X (.type "set") (rSetL X) := by
  intro pins s σ H xs us Q I r h
  obtain ⟨l, ns, rfl, hq, room, q⟩ := h
  rw [Vals.ref1 r]
  obtain ⟨its, rv, hl, hz⟩ := I.list hq
  refine set_call (I.ok.hd hc) hl.isList (ints_of_vals rv) room fun s' ⟨h', tk, c, e1, R, hc, kp⟩ => ?_
  subst e1
  have new : H s.heap.objs.size = none := I.hok.fresh (Nat.le_refl _)
  exact ⟨.ref _, _, I.laid (t' := tk) (fun b o e => kp b o (Nat.ne_of_lt (Heap.lt_size e)) (Heap.get?_push_of_some _ e)) (Nat.le_refl _) (setO_new R), rfl, q _ c new hc⟩
def rSortS (X : Cx) : List V → Hp → VK → Prop := fun xs H Q => ∃ (a : Addr) (S : Int → Bool) (n : Nat), xs = [V.ref a] ∧ H a = some (SetO X.w a S n) ∧ n ≤ sizeLine ∧
  ∀ (ns : List Int) (p : Addr), ns.Pairwise (· < ·) → (∀ z, z ∈ ns ↔ S z = true) → ns.length = n → H p = none → Q (.ref p) (upd H p (.lst (ns.map V.int)))
theorem cr_sortS (hc : X.calm = true) : CallR X (.builtin "sorted") (rSortS X) := by
  intro pins s σ H xs us Q I r h
  obtain ⟨a, S, n, rfl, ha, hn, q⟩ := h
  rw [Vals.ref1 r]
  refine set_sorted (I.ok.hd hc) (setO_get I ha) hn fun s' p out c ns kp gg oo hp hg ii asc mem len => ?_
  have new : H p = none := I.hok.fresh hp
  have ok : Inv X pins σ (upd H p (.lst (ns.map V.int))) { s with heap := s'.heap, gens := s'.gens, drawn := s'.drawn, toks := s'.toks } :=
    I.call (ch := []) (Un.laid kp hp new) (I.hok.laid kp hp ⟨by rw [List.length_map, len]; exact hn, out.toList, c, vals_of_ints ii, hg⟩) (by rw [gg]; exact I.bare) (fun _ z => by cases z)
  have se : s' = { s with heap := s'.heap, gens := s'.gens, drawn := s'.drawn, toks := s'.toks } := by
    obtain ⟨_, _, _, _, _⟩ := s'
    obtain ⟨_, _, _, _, _⟩ := s
    simp only at oo
    subst oo
    rfl
  rw [se]
  exact ⟨.ref p, _, ok, rfl, q ns p asc mem len new⟩
/-- ascending, each once -/
def dd : List Int → List Int
  | [] => []
  | [x] => [x]
  | x :: y :: r => if x = y then dd (y :: r) else x :: dd (y :: r)
theorem mem_dd : ∀ {l : List Int} {z : Int}, z ∈ dd l ↔ z ∈ l
  | [], _ => Iff.rfl
  | [x], _ => Iff.rfl
  | x :: y :: r, z => by
    unfold dd
    by_cases h : x = y
    · rw [if_pos h, mem_dd, h]
      simp
    · rw [if_neg h, List.mem_cons, mem_dd, List.mem_cons, List.mem_cons, List.mem_cons]
theorem dd_sorted : ∀ {l : List Int}, l.Pairwise (· ≤ ·) → (dd l).Pairwise (· < ·)
  | [], _ => .nil
  | [x], _ => by simp [dd]
  | x :: y :: r, h => by
    obtain ⟨h1, h2⟩ := List.pairwise_cons.mp h
    have ih := dd_sorted h2
    unfold dd
    by_cases e : x = y
    · rw [if_pos e]; exact ih
    · rw [if_neg e]
      refine List.pairwise_cons.mpr ⟨fun z hz => ?_, ih⟩
      have hz := mem_dd.mp hz
      have a := h1 y (by simp)
      rcases List.mem_cons.mp hz with rfl | hz
      · omega
      · have b := (List.pairwise_cons.mp h2).1 z hz
        omega
def sortU (ns : List Int) : List Int := dd (sortI ns)
theorem mem_sortU {ns : List Int} {z : Int} : z ∈ sortU ns ↔ z ∈ ns := mem_dd.trans (sortI_perm ns).mem_iff
theorem sortU_sorted (ns : List Int) : (sortU ns).Pairwise (· < ·) := dd_sorted (sortI_sorted ns)
theorem asc_uniq : ∀ {l m : List Int}, l.Pairwise (· < ·) → m.Pairwise (· < ·) → (∀ z, z ∈ l ↔ z ∈ m) → l = m
  | [], [], _, _, _ => rfl
  | [], y :: m, _, _, h => by have := (h y).mpr (by simp); cases this
  | x :: l, [], _, _, h => by have := (h x).mp (by simp); cases this
  | x :: l, y :: m, h1, h2, h => by
    obtain ⟨a1, a2⟩ := List.pairwise_cons.mp h1
    obtain ⟨b1, b2⟩ := List.pairwise_cons.mp h2
    have e : x = y := by
      rcases List.mem_cons.mp ((h x).mp (by simp)) with e | e
      · exact e
      · rcases List.mem_cons.mp ((h y).mpr (by simp)) with e' | e'
        · exact e'.symm
        · have := b1 x e
          have := a1 y e'
          omega
    subst e
    rw [asc_uniq a2 b2 fun z => ?_]
    have hz := h z
    rw [List.mem_cons, List.mem_cons] at hz
    constructor
    · intro q
      have := a1 z q
      exact (hz.mp (.inr q)).elim (fun e => by omega) id
    · intro q
      have := b1 z q
      exact (hz.mpr (.inr q)).elim (fun e => by omega) id
theorem dd_len : ∀ (l : List Int), (dd l).length ≤ l.length
  | [] => Nat.le_refl _
  | [x] => Nat.le_refl _
  | x :: y :: r => by
    have := dd_len (y :: r)
    unfold dd
    split
    · simp only [List.length_cons] at *; omega
    · simp only [List.length_cons] at *; omega
theorem sortU_len (ns : List Int) : (sortU ns).length ≤ ns.length := Nat.le_trans (dd_len _) (Nat.le_of_eq (sortI_perm ns).length_eq)
def dSortSet (r : Rs) : Option Rs := (lstOf r).bind fun ds => (allOf asInt ds).bind fun ns => if ns.length < 4000 then some (.new ((sortU ns).map .int)) else none
theorem pu_sortSet {e : Expr} {x y : Str} {p p2 pos2 : Pos} {g : En → Option Rs} (hc : X.calm = true) (hg : Gl X x) (hm : X.mg x = none) (hv : bootBuiltins x = some (.builtin "sorted")) (hg2 : Gl X y) (hm2 : X.mg y = none) (hv2 : bootBuiltins y = some (.type "set")) (ha : PE X e (tPu X.K g)) (hn : x ≠ "__name__" := by decide) (hn2 : y ≠ "__name__" := by decide)
    (hdb : (x == ("__debug__" : Str)) = false := by decide) (hdb2 : (y == ("__debug__" : Str)) = false := by decide) (he : starEach [e] X.env = (false, eval e X.env) :: starEach [] X.env := by rfl) (hpl : (backTo pos2 (starEach [] X.env)).any (·.1) = false := by rfl)
    (he2 : starEach [.Call (.Name y p2) [e] [] pos2] X.env = (false, eval (.Call (.Name y p2) [e] [] pos2) X.env) :: starEach [] X.env := by rfl) (hpl2 : (backTo pos (starEach [] X.env)).any (·.1) = false := by rfl) :
    PE X (.Call (.Name x p) [.Call (.Name y p2) [e] [] pos2] [] pos) (tPu X.K (gR1 dSortSet g)) := by
  refine PE.weaken (pe_callB (cr_sortS hc) hg hm hv (pa_cons (pe_callTy (cr_setL hc) hg2 hm2 hv2 (pa_cons ha pa_nil he) hn2 hdb2 he hpl) pa_nil he2) hn hdb he2 hpl2) fun σ H Q h => ?_
  obtain ⟨H0, ρ, Hf, r, S, e1, q⟩ := h
  obtain ⟨r1, e2, e1⟩ := Option.bind_eq_some_iff.mp e1
  obtain ⟨ds, e3, e1⟩ := Option.bind_eq_some_iff.mp e1
  obtain ⟨ns, e4, e1⟩ := Option.bind_eq_some_iff.mp e1
  split at e1
  · rename_i small
    cases e1
    refine ⟨H0, ρ, Hf, r1, S, e2, fun v Hf1 H1 x1 ro => ?_⟩
    obtain ⟨a, xs, rfl, h1, ra⟩ := lst_of ro x1.sub e3
    rw [allOf_some (g := PyData.int) asInt_inv e4] at ra
    rw [ra.ints_inv] at h1
    refine ⟨a, ns, rfl, h1, by unfold scanBound; omega, fun p c hp hc => ?_⟩
    refine ⟨p, _, c, rfl, upd_same, Nat.le_trans hc (Nat.le_trans (Nat.le_of_lt small) (by decide)), fun ms b asc mem len hb => ?_⟩
    obtain rfl : ms = sortU ns := asc_uniq asc (sortU_sorted ns) fun z => by rw [mem z, mem_sortU, decide_eq_true_eq]
    have x2 : Ext Hf H Hf1 (upd H1 p (SetO X.w p (fun j => decide (j ∈ ns)) c)) := x1.trans (.loose x1.sub hp)
    have x3 := x2.trans (.loose (o := .lst ((sortU ns).map V.int)) x2.sub hb)
    exact q _ Hf1 _ x3 ⟨b, _, rfl, x2.all.free hb, upd_same, x2.sub.free hb, .ints _⟩
  · cases e1
end
section
variable {X : Cx} {pos : Pos}
theorem wk_rangeC {K : PySem.W.Frag} {Hf : Hp} {lo c : Int} {n : Nat} : Wk K Hf (Itc lo c n) (rangeD lo n c) where
  go := fun i H s hi => by
    have : i < n := by simpa [rangeD] using hi
    exact this
  stop := fun i H s hi => by
    have : n ≤ i := by simpa [rangeD] using hi
    exact this
  yld := fun i H v H' Hf1 d s1 s2 y e => by
    obtain ⟨rfl, rfl⟩ := y
    unfold rangeD at e
    rw [List.getElem?_map] at e
    obtain ⟨j, hj, rfl⟩ := Option.map_eq_some_iff.mp e
    have hl := (List.getElem?_eq_some_iff.mp hj).1
    rw [List.length_range] at hl
    rw [List.getElem?_range hl] at hj
    cases hj
    exact ⟨Hf1, .refl s2, .int _⟩
def gRange3 (gs : En → Option (List D)) : En → Option (List D) := fun ρ => (gs ρ).bind fun ds => match ds with
  | [.int a, .int b, .int c] => if c ≠ 0 ∧ c.natAbs < 1073741824 ∧ Builtin.Range.small a b c = true ∧ 0 ≤ Builtin.Range.rangeSize a b c then some (rangeD a (Builtin.Range.rangeSize a b c).toNat c) else none
  | _ => none
theorem qi_range3 {tg a b c : Expr} {p : Pos} {gs : En → Option (List D)} (hg : Gl X "range") (hm : X.mg "range" = none) (ha : PA X [a, b, c] (tPa X.K gs)) (hs : starEach [a, b, c] X.env = (false, eval a X.env) :: starEach [b, c] X.env := by rfl) (hpl : (backTo pos (starEach [b, c] X.env)).any (·.1) = false := by rfl) :
    PI X tg (.Call (.Name "range" p) [a, b, c] [] pos) (tPi X.K (gRange3 gs)) :=
  PI.weaken (pi_range3 hg hm ha hs hpl) fun σ H R ⟨H0, ρ, Hf, ds, S, e, q⟩ => by
    obtain ⟨as, e1, e⟩ := Option.bind_eq_some_iff.mp e
    split at e
    · split at e
      · rename_i i j k hn
        cases e
        exact ⟨H0, ρ, Hf, _, S, e1, fun vs Hf1 H1 x1 r1 => ⟨i, j, k, _, RpAll.ints_inv (ns := [i, j, k]) r1, ⟨hn.1, hn.2.1, hn.2.2.1, (Int.toNat_of_nonneg hn.2.2.2).symm⟩, q _ Hf1 H1 x1 wk_rangeC⟩⟩
      · cases e
    · cases e
end
/-! ### a module's tuple of numbers and truth values -/
theorem sz1000 {n : Nat} (h : n ≤ 1000) : n ≤ sizeLine := Nat.le_trans h (by decide)
theorem Ck.tup {K : PySem.W.Frag} {mg : Str → Option Value} {x : Str} {a : Addr} {o : Obj} {its : Array Value} {n : Nat} {vs : List V} {ds : List D} (h : mg x = some (.ref a)) (lk : K.lookup a = some o) (oc : o.cls = .type "tuple") (od : o.data = .seq its n) (hz : its.size ≤ sizeLine) (hv : Vals vs its.toList) (hd : ∀ H, RpAll K H vs ds) :
    Ck K mg x (.tuple ds) := ⟨.ref a, .ref a, h, rfl, fun H => .tup (.inr ⟨o, its, n, lk, oc, od, hz, hv⟩) (hd H)⟩
end Pu

namespace Pu
open PySem PySem.Spec PyProof.Rows PyProof.Rows.G L2
variable [FnTab]
/-! ### sorted(rows): tuples of numbers and texts -/
abbrev It0 := Int ⊕ List Nat
def itKey (sh : Nat → Bool) : Nat → List D → Option (List It0)
  | _, [] => some []
  | i, .int n :: r => if sh i = true then none else (itKey sh (i + 1) r).map (Sum.inl n :: ·)
  | i, .str x :: r => if sh i = true then (itKey sh (i + 1) r).map (Sum.inr x.cps.toList :: ·) else none
  | _, _ :: _ => none
def dKey (sh : Nat → Bool) : D → Option (List It0)
  | .tuple (d :: ds) => itKey sh 0 (d :: ds)
  | _ => none
def shOf : D → Nat → Bool
  | .tuple ds => fun i => match ds[i]? with
    | some (.str _) => true
    | _ => false
  | _ => fun _ => false
theorem itKey_inj {sh : Nat → Bool} : ∀ {i : Nat} {ds es : List D} {l : List It0}, itKey sh i ds = some l → itKey sh i es = some l → ds = es
  | i, [], [], _, _, _ => rfl
  | i, [], e :: es, l, h1, h2 => by
    cases h1
    cases e <;> simp only [itKey] at h2 <;> first | cases h2 | skip
    · split at h2
      · cases h2
      · obtain ⟨_, _, z⟩ := Option.map_eq_some_iff.mp h2; cases z
    · split at h2
      · obtain ⟨_, _, z⟩ := Option.map_eq_some_iff.mp h2; cases z
      · cases h2
  | i, d :: ds, [], l, h1, h2 => by
    cases h2
    cases d <;> simp only [itKey] at h1 <;> first | cases h1 | skip
    · split at h1
      · cases h1
      · obtain ⟨_, _, z⟩ := Option.map_eq_some_iff.mp h1; cases z
    · split at h1
      · obtain ⟨_, _, z⟩ := Option.map_eq_some_iff.mp h1; cases z
      · cases h1
  | i, d :: ds, e :: es, l, h1, h2 => by
    cases d <;> simp only [itKey] at h1 <;> first | cases h1 | skip
    · split at h1
      · cases h1
      · rename_i hs
        obtain ⟨l1, h3, rfl⟩ := Option.map_eq_some_iff.mp h1
        cases e <;> simp only [itKey] at h2 <;> first | cases h2 | skip
        · rw [if_neg hs] at h2
          obtain ⟨l2, h4, z⟩ := Option.map_eq_some_iff.mp h2
          injection z with z1 z2
          injection z1 with z1
          subst z1 z2
          rw [itKey_inj h3 h4]
        · rw [if_neg hs] at h2; cases h2
    · split at h1
      · rename_i hs
        obtain ⟨l1, h3, rfl⟩ := Option.map_eq_some_iff.mp h1
        cases e <;> simp only [itKey] at h2 <;> first | cases h2 | skip
        · rw [if_pos hs] at h2; cases h2
        · rename_i x y
          rw [if_pos hs] at h2
          obtain ⟨l2, h4, z⟩ := Option.map_eq_some_iff.mp h2
          injection z with z1 z2
          injection z1 with z1
          subst z2
          have : x = y := by
            cases x
            cases y
            simp only [Str.mk.injEq]
            exact (Array.toList_inj.mp z1).symm
          rw [this, itKey_inj h3 h4]
      · cases h1
theorem dKey_inj {sh : Nat → Bool} {d e : D} {l : List It0} (h1 : dKey sh d = some l) (h2 : dKey sh e = some l) : d = e := by
  unfold dKey at h1 h2
  split at h1
  · split at h2
    · rw [itKey_inj h1 h2]
    · cases h2
  · cases h1
abbrev ordT : KeyOrd := listOrd itemOrd
def leT (sh : Nat → Bool) (a b : D) : Bool := !ordT.blt ((dKey sh b).getD []) ((dKey sh a).getD [])
def sortT (sh : Nat → Bool) (ds : List D) : List D := ds.mergeSort (leT sh)
theorem sortT_perm (sh : Nat → Bool) (ds : List D) : (sortT sh ds).Perm ds := List.mergeSort_perm _ _
theorem leT_trans (sh : Nat → Bool) (a b c : D) (h1 : leT sh a b = true) (h2 : leT sh b c = true) : leT sh a c = true := by
  unfold leT at *
  rw [Bool.not_eq_true'] at *
  cases h : ordT.blt ((dKey sh c).getD []) ((dKey sh a).getD []) with
  | false => rfl
  | true =>
    rcases ordT.negTrans _ ((dKey sh b).getD []) _ h with k | k
    · rw [h2] at k; cases k
    · rw [h1] at k; cases k
theorem leT_total (sh : Nat → Bool) (a b : D) : (leT sh a b || leT sh b a) = true := by
  unfold leT
  cases h : ordT.blt ((dKey sh b).getD []) ((dKey sh a).getD []) with
  | false => rfl
  | true =>
    cases h2 : ordT.blt ((dKey sh a).getD []) ((dKey sh b).getD []) with
    | false => rfl
    | true =>
      have := ordT.trans _ _ _ h h2
      rw [ordT.irrefl] at this
      cases this
theorem sortT_sorted (sh : Nat → Bool) (ds : List D) : (sortT sh ds).Pairwise fun a b => leT sh a b = true := List.pairwise_mergeSort (leT_trans sh) (leT_total sh) ds
theorem sortT_uniq {sh : Nat → Bool} {ds es : List D} (hk : ∀ d ∈ ds, ∃ l, dKey sh d = some l) (p : es.Perm ds) (h : es.Pairwise fun a b => leT sh a b = true) : es = sortT sh ds :=
  List.Perm.eq_of_pairwise (le := fun a b => leT sh a b = true) (fun a b ha hb h1 h2 => by
    obtain ⟨la, ea⟩ := hk a (p.mem_iff.mp ha)
    obtain ⟨lb, eb⟩ := hk b ((sortT_perm sh ds).mem_iff.mp hb)
    unfold leT at h1 h2
    rw [ea, eb, Bool.not_eq_true'] at h1 h2
    have := ordT.total _ _ h2 h1
    simp only [Option.getD_some] at this
    subst this
    exact dKey_inj ea eb) h (sortT_sorted sh ds) (p.trans (sortT_perm sh ds).symm)
theorem perm_rp {K : PySem.W.Frag} {H : Hp} {xs ys : List V} (p : ys.Perm xs) : ∀ {ds : List D}, RpAll K H xs ds → ∃ es, es.Perm ds ∧ RpAll K H ys es := by
  induction p with
  | nil => intro ds r; cases r; exact ⟨[], .nil, .nil⟩
  | cons x p ih =>
    intro ds r
    cases r with
    | cons a b =>
      obtain ⟨es, e1, e2⟩ := ih b
      exact ⟨_, .cons _ e1, .cons a e2⟩
  | swap x y l =>
    intro ds r
    cases r with
    | cons a b =>
      cases b with
      | cons b c => exact ⟨_, .swap _ _ _, .cons b (.cons a c)⟩
  | trans p q ih1 ih2 =>
    intro ds r
    obtain ⟨es, e1, e2⟩ := ih2 r
    obtain ⟨fs, f1, f2⟩ := ih1 e2
    exact ⟨fs, f1.trans e1, f2⟩
theorem items_key {K : PySem.W.Frag} {H : Hp} {sh : Nat → Bool} : ∀ {i : Nat} {ds : List D} {xs : List V} {us : List Value} {l : List It0}, RpAll K H xs ds → Vals xs us → itKey sh i ds = some l → tupItems sh i us = some l
  | i, [], xs, us, l, ra, rv, h => by
    cases ra
    cases rv
    exact h
  | i, d :: ds, xs, us, l, ra, rv, h => by
    cases ra with
    | cons r ra =>
      cases rv with
      | cons u rv =>
        cases d <;> simp only [itKey] at h <;> first | cases h | skip
        · rw [r.int_inv] at u
          obtain ⟨tk, rfl⟩ := u
          split at h
          · cases h
          · rename_i hs
            obtain ⟨l1, h1, rfl⟩ := Option.map_eq_some_iff.mp h
            rw [tupItems, if_neg hs, items_key ra rv h1]; rfl
        · rw [r.str_inv] at u
          obtain ⟨tk, rfl⟩ := u
          split at h
          · rename_i hs
            obtain ⟨l1, h1, rfl⟩ := Option.map_eq_some_iff.mp h
            rw [tupItems, if_pos hs, items_key ra rv h1]; rfl
          · cases h
section
variable {X : Cx}
theorem key_heap {pins : List (Addr × Obj)} {σ : L2.St} {H Hf : Hp} {s : Shared} {sh : Nat → Bool} {v : V} {u : Value} {d : D} {l : List It0} (I : Inv X pins σ H s) (sub : Same Hf H) (r : Rp X.K Hf v d) (ru : RelV v u) (hk : dKey sh d = some l) :
    tupKeyC s.heap sh u = some l ∧ ∃ f, TupOf s.heap sh u f := by
  unfold dKey at hk
  split at hk
  · rename_i d0 ds
    obtain ⟨a, xs, rfl, h1, ra⟩ := r.tup_inv
    obtain ⟨its, rv, ⟨o, ho, hc, n, hd⟩, _⟩ := I.tuple (Same.seqT sub h1)
    cases ru
    have key := items_key ra rv hk
    have q : isTupObj s.heap (.ref a) = true := by unfold isTupObj; simp only [ho, hc]; rfl
    constructor
    · unfold tupKeyC
      rw [if_pos q]
      unfold tupKey
      simp only [ho, hd]
      exact key
    · cases ra with
      | cons r0 ra =>
        cases rv with
        | cons u0 rv =>
          rename_i b1 _
          refine ⟨b1, a, o, _, n, rfl, ho, hc, hd, by simp, fun hs => ?_, fun hs => ?_⟩
          · cases d0 <;> simp only [itKey] at hk <;> first | cases hk | skip
            · rw [r0.int_inv] at u0
              obtain ⟨tk, rfl⟩ := u0
              exact ⟨_, _, rfl⟩
            · rw [if_neg (by rw [hs]; decide)] at hk; cases hk
          · cases d0 <;> simp only [itKey] at hk <;> first | cases hk | skip
            · rw [if_pos hs] at hk; cases hk
            · rw [r0.str_inv] at u0
              obtain ⟨tk, rfl⟩ := u0
              exact ⟨_, _, rfl⟩
  · cases hk
theorem all_heap {pins : List (Addr × Obj)} {σ : L2.St} {H Hf : Hp} {s : Shared} {sh : Nat → Bool} (I : Inv X pins σ H s) (sub : Same Hf H) : ∀ {ds : List D} {xs : List V} {us : List Value}, RpAll X.K Hf xs ds → Vals xs us → (∀ d ∈ ds, ∃ l, dKey sh d = some l) →
    (∃ fs, TupsOf s.heap sh us fs) ∧ (∀ u ∈ us, ∃ l, tupKeyC s.heap sh u = some l) ∧ ∀ x ∈ xs, ∃ a, x = V.ref a
  | [], xs, us, ra, rv, hk => by
    cases ra
    cases rv
    exact ⟨⟨[], .nil⟩, by simp, by simp⟩
  | d :: ds, xs, us, ra, rv, hk => by
    cases ra with
    | cons r ra =>
      cases rv with
      | cons u rv =>
        obtain ⟨l, hl⟩ := hk d (by simp)
        obtain ⟨k1, f, k2⟩ := key_heap I sub r u hl
        obtain ⟨⟨fs, a1⟩, a2, a3⟩ := all_heap I sub ra rv fun e he => hk e (List.mem_cons_of_mem _ he)
        rename_i v1 _ _ _
        have ref : ∃ a, v1 = V.ref a := by
          unfold dKey at hl
          split at hl
          · obtain ⟨a, _, e, _⟩ := r.tup_inv
            exact ⟨a, e⟩
          · cases hl
        refine ⟨⟨f :: fs, .cons k2 a1⟩, fun w hw => ?_, fun w hw => ?_⟩
        · rcases List.mem_cons.mp hw with rfl | hw
          · exact ⟨l, k1⟩
          · exact a2 w hw
        · rcases List.mem_cons.mp hw with rfl | hw
          · exact ref
          · exact a3 w hw
/-- keys that rise along rows of data -/
theorem rise {pins : List (Addr × Obj)} {σ : L2.St} {H Hf : Hp} {s : Shared} {sh : Nat → Bool} (I : Inv X pins σ H s) (sub : Same Hf H) : ∀ {ds : List D} {xs : List V} {us : List Value}, RpAll X.K Hf xs ds → Vals xs us → (∀ d ∈ ds, ∃ l, dKey sh d = some l) →
    us.Pairwise (fun u w => ordT.blt ((tupKeyC s.heap sh w).getD []) ((tupKeyC s.heap sh u).getD []) = false) → ds.Pairwise fun a b => leT sh a b = true
  | [], _, _, _, _, _, _ => .nil
  | d :: ds, xs, us, ra, rv, hk, hp => by
    cases ra with
    | cons r ra =>
      cases rv with
      | cons u rv =>
        obtain ⟨h1, h2⟩ := List.pairwise_cons.mp hp
        obtain ⟨l, hl⟩ := hk d (by simp)
        have k1 := (key_heap I sub r u hl).1
        refine List.pairwise_cons.mpr ⟨fun e he => ?_, rise I sub ra rv (fun e he => hk e (List.mem_cons_of_mem _ he)) h2⟩
        obtain ⟨i, hi, rfl⟩ := List.mem_iff_getElem.mp he
        obtain ⟨m, hm⟩ := hk ds[i] (List.mem_cons_of_mem _ he)
        obtain ⟨y, hy, ry⟩ := ra.get (List.getElem?_eq_getElem hi)
        obtain ⟨w, hw, ru⟩ := Vals.get rv hy
        have k2 := (key_heap I sub ry ru hm).1
        have := h1 w (List.mem_of_getElem? hw)
        rw [k1, k2] at this
        unfold leT
        rw [hl, hm]
        simp only [Option.getD_some] at this ⊢
        rw [this]; rfl
theorem cr_sortedT {sh : Nat → Bool} : CallR X (.builtin "sorted") (fun vs H Q => ∃ Hf a xs ds, vs = [V.ref a] ∧ SqL X.K H a xs ∧ Same Hf H ∧ RpAll X.K Hf xs ds ∧ (∀ d ∈ ds, ∃ l, dKey sh d = some l) ∧
    ∀ ys p, RpAll X.K Hf ys (sortT sh ds) → H p = none → Q (.ref p) (upd H p (.lst ys))) := by
  intro pins s σ H vs us Q I rr h
  obtain ⟨Hf, a, xs, ds, rfl, h1, sub, ra, hk, q⟩ := h
  obtain ⟨its, rv, pl, hz⟩ := I.list h1
  rw [Vals.ref1 rr]
  obtain ⟨⟨fs, t1⟩, t2, t3⟩ := all_heap I sub ra rv hk
  obtain ⟨b1, b2⟩ := refs_back rv t3
  refine sorted_tups pl.isList t1 t2 (by rw [← rv.length]; exact hz) fun st' s1 s2 _ => ?_
  generalize hA : arrOf st' = A at *
  have same : ∀ p ∈ A.toList, p.1 = p.2 ∧ p.2 ∈ its := fun p hp => by
    have hm : p ∈ (pairsOf its).toList := (Array.perm_iff_toList_perm.mp s1).mem_iff.mp hp
    rw [pairsOf_toList] at hm
    obtain ⟨e, m⟩ := mem_zip_self hm
    have e' : p.1 = p.2 := by rw [e]
    exact ⟨e', e' ▸ m⟩
  have perm : (A.map (·.2)).toList.Perm its := by
    have h2 := (Array.perm_iff_toList_perm.mp s1).map (·.2)
    rw [pairsOf_toList, List.map_snd_zip (Nat.le_refl _)] at h2
    simpa using h2
  have rise0 : (A.map (·.2)).toList.Pairwise fun u w => ordT.blt ((tupKeyC s.heap sh w).getD []) ((tupKeyC s.heap sh u).getD []) = false := by
    refine List.pairwise_iff_getElem.mpr fun i j hi hj hij => ?_
    have hi' : i < A.size := by simpa using hi
    have hj' : j < A.size := by simpa using hj
    have sz : A.size = (pairsOf its).size := s1.size_eq
    have := s2 i j (Nat.le_of_lt hij) (by rw [← sz]; exact hj')
    unfold KK at this
    rw [Array.getElem?_eq_getElem hi', Array.getElem?_eq_getElem hj'] at this
    have e1 := (same A[i] (by simp)).1
    have e2 := (same A[j] (by simp)).1
    simp only [Array.getElem_toList, Array.getElem_map]
    rw [← e1, ← e2]
    exact this
  generalize hO : A.map (·.2) = out at *
  have b3 : ∀ u ∈ out.toList, ∃ a, u = Value.ref a := fun u hu => b2 u (perm.mem_iff.mp hu)
  have pm : (out.toList.map backV).Perm xs := by rw [b1]; exact perm.map backV
  obtain ⟨es, p1, p2⟩ := perm_rp pm ra
  have hk2 : ∀ d ∈ es, ∃ l, dKey sh d = some l := fun d hd => hk d (p1.mem_iff.mp hd)
  have vb := vals_back b3
  have srt := rise I sub p2 vb hk2 rise0
  obtain rfl := sortT_uniq hk p1 srt
  obtain ⟨ep, he⟩ := PyProof.Rows.sortedAll_at s.heap its out
  have hlen : (out.toList.map backV).length ≤ sizeLine := by rw [pm.length_eq]; exact hz
  exact ⟨.ref _, upd H (s.heap.objs.size + 1) (.lst (out.toList.map backV)), I.laid (t' := s.toks) (fun _ _ => PyProof.Rows.sortedAll_old) (Nat.le_succ _) ⟨hlen, out.toList, ep, vb, he⟩, rfl, q _ _ p2 (I.hok.fresh (Nat.le_succ _))⟩
end
def dSortX (r : Rs) : Option Rs := match dSorted r with
  | some x => some x
  | none => (lstOf r).bind fun ds => match ds with
    | [] => none
    | d0 :: es => if (d0 :: es).all (fun d => (dKey (shOf d0) d).isSome) = true then some (.new (sortT (shOf d0) (d0 :: es))) else none
theorem cl_sortX {X : Cx} : CallR X (.builtin "sorted") (rR1 X.K dSortX) := by
  intro pins s σ H vs us Q I rr h
  obtain ⟨H0, Hf, v, r, d, e, sub, ro, ef, q⟩ := h
  unfold dSortX at ef
  cases hx : dSorted r with
  | some x =>
    rw [hx] at ef
    cases ef
    exact cl_sorted pins s σ H vs us Q I rr ⟨H0, Hf, v, r, _, e, sub, ro, hx, q⟩
  | none =>
    rw [hx] at ef
    obtain ⟨ds, hl, ef⟩ := Option.bind_eq_some_iff.mp ef
    split at ef
    · cases ef
    · rename_i d0 es
      split at ef
      · rename_i hk
        cases ef
        subst e
        obtain ⟨a, xs, rfl, h1, ra⟩ := lst_of ro sub hl
        refine cr_sortedT pins s σ H _ us Q I rr ⟨Hf, a, xs, d0 :: es, rfl, h1, sub, ra, fun d hd => Option.isSome_iff_exists.mp (List.all_eq_true.mp hk d hd), fun ys p ry hp => ?_⟩
        exact q _ Hf _ (.loose sub hp) ⟨p, _, rfl, hp, upd_same, sub.free hp, ry⟩
      · cases ef
end Pu

namespace Pu
open PySem PySem.Spec PyProof PyProof.Rows L2 PpSet
variable [FnTab]
/-! ### {e for a in x if .. for b in y if ..}, e a number -/
section
variable {P : Program} {w : World} {A : Around} {R : Result → Shared → Prop} {s : Shared} {e ta ia tb ib : Expr} {fa fb : List Expr} {sc : Scope} {pos : Pos} {it acc : Value} {env : Env}
/-- the comprehension itself -/
abbrev sc2 (e ta ia tb ib : Expr) (fa fb : List Expr) (sc : Scope) (pos : Pos) : Expr := .SetComp e [⟨ta, ia, fa, 0⟩, ⟨tb, ib, fb, 0⟩] sc pos
/-- the tests of a clause -/
abbrev tests (fs : List Expr) (env : Env) : Sem Bool := forIn fs true fun c r => if r = true then do let ok ← isTrue c env (eval c env); pure (ForInStep.yield ok) else pure (ForInStep.yield r)
/-- what an error does on its way out -/
abbrev noted (P : Program) (w : World) (A : Around) (env : Env) (R : Result → Shared → Prop) : Value → Shared → Prop := notedBy (model P w) A env fun x s' => R (.error x) s'
theorem turnA : compTurn (sc2 e ta ia tb ib fa fb sc pos) 0 it acc env = (do
    standAt ia.pos
    match ← pyNext it with
    | none => pure (.done .next)
    | some v =>
      letOwnedTupleGo ta it v
      assign ta env v
      let ok ← tests fa env
      if ok then
        let x ← eval ib env
        standAt ib.pos
        let x ← foldedSetIterable ib env x
        let _ ← runOwn (.compStart (sc2 e ta ia tb ib fa fb sc pos) 1 (← holding [x] (pyIter x)) acc env) env
      again (.compLoop (sc2 e ta ia tb ib fa fb sc pos) 0 it acc env)) := by rfl
theorem turnB : compTurn (sc2 e ta ia tb ib fa fb sc pos) 1 it acc env = (do
    standAt ib.pos
    match ← pyNext it with
    | none => pure (.done .next)
    | some v =>
      letOwnedTupleGo tb it v
      assign tb env v
      let ok ← tests fb env
      if ok then
        (do let v ← eval e env; standAt e.pos; let _ ← call (.builtin "set.add") [acc, v])
      again (.compLoop (sc2 e ta ia tb ib fa fb sc pos) 1 it acc env)) := by rfl
theorem loopA (hs : ∀ x, foldedSetIterable ib env x = pure x) (I : Nat → Shared → Prop)
    (turn : ∀ n s, I n s → wpAny (model P w) A (pyNext it) (fun r s1 => match r with
      | none => R (.ok .next) s1
      | some v => wpAny (model P w) A (letOwnedTupleGo ta it v) (fun _ s2 => wpAny (model P w) A (assign ta env v) (fun _ s3 => wpAny (model P w) A (tests fa env) (fun ok s4 =>
          if ok = true then wpAny (model P w) A (eval ib env) (fun x s5 => wpAny (model P w) A (pyIter x) (fun j s6 => codeAny (model P w) A (.compStart (sc2 e ta ia tb ib fa fb sc pos) 1 j acc env) (fun r s' => match r with
            | .ok _ => ∃ m, m < n ∧ I m s'
            | .error _ => False) s6) (noted P w A env R) s5) (noted P w A env R) s4
          else ∃ m, m < n ∧ I m s4) (noted P w A env R) s3) (noted P w A env R) s2) (noted P w A env R) s1) (noted P w A env R) s) (n : Nat) (h : I n s) :
    codeAny (model P w) A (.compLoop (sc2 e ta ia tb ib fa fb sc pos) 0 it acc env) R s := by
  refine codeAny_loop rfl I (fun n s hI => ?_) n h
  show wpAny _ A ((compTurn (sc2 e ta ia tb ib fa fb sc pos) 0 it acc env).onRaise (fun x => do noteFrame x env; theTreesLotGoes x)) _ _ s
  rw [turnA]
  refine wpAny_noted (wpAny_bind (wpAny_standAt (wpAny_bind (wpAny_mono (turn n s hI) (fun r s1 h1 => ?_) fun _ _ z => z))))
  cases r with
  | none => exact wpAny_pure h1
  | some v =>
    refine wpAny_bind (wpAny_mono h1 (fun _ s2 h2 => wpAny_bind (wpAny_mono h2 (fun _ s3 h3 => wpAny_bind (wpAny_mono h3 (fun ok s4 h4 => ?_) fun _ _ z => z)) fun _ _ z => z)) fun _ _ z => z)
    cases ok with
    | false => exact wpAny_pure ⟨rfl, h4⟩
    | true =>
      refine wpAny_bind (wpAny_mono h4 (fun x s5 h5 => ?_) fun _ _ z => z)
      refine wpAny_bind (wpAny_standAt (wpAny_bind (wpAny_of_eq (hs x) (wpAny_bind (wpAny_holding (wpAny_mono h5 (fun j s6 h6 => ?_) fun _ _ z => z))))))
      refine wpAny_bind (wpAny_runOwn ?_)
      rw [Around.mark_none]
      refine codeAny_mono h6 fun r s' hr => ?_
      cases r with
      | error x => exact hr.elim
      | ok _ =>
        first
          | exact wpAny_pure ⟨rfl, hr⟩
          | exact wpAny_bind (wpAny_pure (wpAny_pure ⟨rfl, hr⟩))
theorem loopB (I : Nat → Shared → Prop)
    (turn : ∀ n s, I n s → wpAny (model P w) A (pyNext it) (fun r s1 => match r with
      | none => R (.ok .next) s1
      | some v => wpAny (model P w) A (letOwnedTupleGo tb it v) (fun _ s2 => wpAny (model P w) A (assign tb env v) (fun _ s3 => wpAny (model P w) A (tests fb env) (fun ok s4 =>
          if ok = true then wpAny (model P w) A (eval e env) (fun x s5 => wpAny (model P w) A (call (.builtin "set.add") [acc, x]) (fun _ s6 => ∃ m, m < n ∧ I m s6) (noted P w A env R) s5) (noted P w A env R) s4
          else ∃ m, m < n ∧ I m s4) (noted P w A env R) s3) (noted P w A env R) s2) (noted P w A env R) s1) (noted P w A env R) s) (n : Nat) (h : I n s) :
    codeAny (model P w) A (.compLoop (sc2 e ta ia tb ib fa fb sc pos) 1 it acc env) R s := by
  refine codeAny_loop rfl I (fun n s hI => ?_) n h
  show wpAny _ A ((compTurn (sc2 e ta ia tb ib fa fb sc pos) 1 it acc env).onRaise (fun x => do noteFrame x env; theTreesLotGoes x)) _ _ s
  rw [turnB]
  refine wpAny_noted (wpAny_bind (wpAny_standAt (wpAny_bind (wpAny_mono (turn n s hI) (fun r s1 h1 => ?_) fun _ _ z => z))))
  cases r with
  | none => exact wpAny_pure h1
  | some v =>
    refine wpAny_bind (wpAny_mono h1 (fun _ s2 h2 => wpAny_bind (wpAny_mono h2 (fun _ s3 h3 => wpAny_bind (wpAny_mono h3 (fun ok s4 h4 => ?_) fun _ _ z => z)) fun _ _ z => z)) fun _ _ z => z)
    cases ok with
    | false => exact wpAny_pure ⟨rfl, h4⟩
    | true => exact wpAny_bind (wpAny_bind (wpAny_mono h4 (fun x s5 h5 => wpAny_bind (wpAny_standAt (wpAny_bind (wpAny_mono h5 (fun _ s6 h6 => wpAny_pure (wpAny_pure ⟨rfl, h6⟩)) fun _ _ z => z)))) fun _ _ z => z))
theorem startB (h0 : codeAny (model P w) A (.compLoop (sc2 e ta ia tb ib fa fb sc pos) 1 it acc env) R s)
    (h : wpAny (model P w) A (pyIter it) (fun j s' => codeAny (model P w) A (.compLoop (sc2 e ta ia tb ib fa fb sc pos) 1 j acc env) R s') (noted P w A env R) s) :
    codeAny (model P w) A (.compStart (sc2 e ta ia tb ib fa fb sc pos) 1 it acc env) R s := by
  refine codeAny_of_tree ?_
  show wpAny _ _ ((compStart (sc2 e ta ia tb ib fa fb sc pos) 1 it acc env).onRaise (fun x => do noteFrame x env; standAt theWindowsPlace)) _ _ s
  refine wpAny_notedAt ?_
  unfold compStart
  show wpAny _ _ (ask >>= _) _ _ s
  refine wpAny_bind (wpAny_askSetting (wpAny_ite ?_))
  split
  · first
      | exact wpAny_bind (wpAny_pure (wpAny_pure ⟨rfl, h0⟩))
      | exact wpAny_pure ⟨rfl, h0⟩
  · refine wpAny_bind (wpAny_rule ?_)
    first
      | exact wpAny_bind (wpAny_standAt (wpAny_bind (wpAny_mono h (fun _ _ z => wpAny_pure ⟨rfl, z⟩) fun _ _ z => z)))
      | (show wpAny _ _ (standAt ib.pos >>= _) _ _ s; exact wpAny_bind (wpAny_standAt (wpAny_bind (wpAny_mono h (fun _ _ z => wpAny_pure ⟨rfl, z⟩) fun _ _ z => z))))
end
section
variable {X : Cx}
theorem add_int {pins : List (Addr × Obj)} {σ : L2.St} {H : Hp} {s : Shared} {E : Value → Shared → Prop} {d : Addr} {S : Int → Bool} {n : Nat} {y : Int} {tk : Tok} {Q : Value → Shared → Prop} (I : Inv X pins σ H s) (hd : H d = some (SetO X.w d S n)) (room : n + 1 < scanBound)
    (k : ∀ s', Inv X pins σ (upd H d (SetO X.w d (fun j => S j || decide (j = y)) (if S y = true then n else n + 1))) s' → Q .none s') : wpAny (model X.prog X.w) X.A (call (.builtin "set.add") [.ref d, .int y tk]) Q E s := by
  refine setR_add (setO_get I hd) room fun h' sb new => k _ ?_
  have ⟨o, _, _, _, ho, _⟩ := new
  exact I.write (e := d) (t' := s.toks + 1) (by rw [hd]; trivial) (.inl rfl) (fun b u hb hu => (sb.2 b hb).trans hu) ⟨o, ho⟩ (setO_new new)
def tSc2 (w : World) (wa : TI) (ga : TG) (qa : TT) (wb : TI) (gb : TG) (qb : TT) (te : TE) (vs v1 : List Nat) : TE := fun σ H Q => wa σ H fun J H1 => ∀ d, H1 d = none → ∃ W : Nat → Nat → Hp → Prop, (∃ m, W 0 m (upd H1 d (SetO w d (fun _ => false) 0))) ∧ ∀ i m H, W i m H →
  (J.stop i H ∧ Q (.ref d) H) ∨ (J.go i H ∧ ∃ Nx : Hp → Prop, (∀ H', Nx H' → ∃ m', m' < m ∧ W (i + 1) m' H') ∧ ∀ x H', J.yld i H x H' → ga x (wipe σ vs) H' fun σ2 H2 => wipe σ2 vs = wipe σ vs ∧ qa σ2 H2 fun b H3 =>
    if b = true then wb σ2 H3 fun J1 H4 => ∃ W1 : Nat → Nat → Hp → Prop, (∃ m, W1 0 m H4) ∧ ∀ j k H, W1 j k H →
      (J1.stop j H ∧ Nx H) ∨ (J1.go j H ∧ ∃ Nx1 : Hp → Prop, (∀ H', Nx1 H' → ∃ k', k' < k ∧ W1 (j + 1) k' H') ∧ ∀ x H', J1.yld j H x H' → gb x (wipe σ2 v1) H' fun σ3 H5 => wipe σ3 v1 = wipe σ2 v1 ∧ qb σ3 H5 fun b H6 =>
        if b = true then te σ3 H6 fun y H7 => ∃ (c : Int) (S : Int → Bool) (n : Nat), y = .int c ∧ H7 d = some (SetO w d S n) ∧ n + 1 < scanBound ∧ Nx1 (upd H7 d (SetO w d (fun j => S j || decide (j = c)) (if S c = true then n else n + 1))) else Nx1 H6)
    else Nx H3)
variable {e ta ia tb ib : Expr} {fa fb : List Expr} {scope : Scope} {own : List (PySem.Str × Nat)} {v1 : List Nat} {pos pos' : Pos} {wa wb : TI} {ga gb : TG} {qa qb : TT} {te : TE}
theorem sc2_core {pins : List (Addr × Obj)} {s : Shared} {σ : L2.St} {H : Hp} {Q : VK} {use : Option (Value → Sem Unit)} {Qf : Value → Shared → Prop} (hc : X.calm = true) (hN : X.N.Nodup) (I : Inv X pins σ H s) (hi : PI X ta ia wa) (ok : BlkOk X.N X.env.scope scope own) (hv : ∀ i ∈ v1, i ∈ own.map (·.2))
    (hga : ∀ (s : Shared) (H : Hp) (C : Addr) (cl : List (PySem.Str × Addr)) (fp : List Addr), PG (X.blk s H scope (compEnvC scope cl C X.env) fp) ta ga) (hqa : ∀ (s : Shared) (H : Hp) (C : Addr) (cl : List (PySem.Str × Addr)) (fp : List Addr), PTs (X.blk s H scope (compEnvC scope cl C X.env) fp) fa qa)
    (hib : ∀ (s : Shared) (H : Hp) (C : Addr) (cl : List (PySem.Str × Addr)) (fp : List Addr), PI (X.blk s H scope (compEnvC scope cl C X.env) fp) tb ib wb) (hgb : ∀ (s : Shared) (H : Hp) (C : Addr) (cl : List (PySem.Str × Addr)) (fp : List Addr), PG (X.blk s H scope (compEnvC scope cl C X.env) fp) tb gb)
    (hqb : ∀ (s : Shared) (H : Hp) (C : Addr) (cl : List (PySem.Str × Addr)) (fp : List Addr), PTs (X.blk s H scope (compEnvC scope cl C X.env) fp) fb qb) (he : ∀ (s : Shared) (H : Hp) (C : Addr) (cl : List (PySem.Str × Addr)) (fp : List Addr), PE (X.blk s H scope (compEnvC scope cl C X.env) fp) e te)
    (hs : ∀ x, foldedSetIterable ia X.env x = pure x) (hs1 : ∀ env x, foldedSetIterable ib env x = pure x) (h : tSc2 X.w wa ga qa wb gb qb te (own.map (·.2)) v1 σ H Q)
    (out : ∀ D C s' m H', Inv X pins σ H' s' → Q (.ref D) H' → s'.heap.Ns C m → FpOk X pins H' C → compPost (model X.prog X.w) X.A X.xe use Qf (.ref D) C (.ok .next) s') :
    wpAny (model X.prog X.w) X.A (comprehension (sc2 e ta ia tb ib fa fb scope pos) scope X.env pos' (newSet (.type "set")) false (eval ia X.env) use) Qf X.xe s := by
  have fr : ∀ y ∈ scope.names, y.2 = .free → ∃ c, X.env.cells.lookup y.1 = some c := fun y hy z => (ok.free y hy z).elim (fun k => I.ok.has _ (.inl k)) (fun k => I.ok.has _ (.inr k))
  refine wpAny_comprehension_free (use := use) rfl hs (closure_ok fr) ok.kind (fun y hy z => by rw [ok.uniq y hy, z]) (thn (hi.run pins s σ H _ I h) fun xv s1 hx => thn hx fun _ s2 ⟨it, fp, tn, J, H2, z, I2, T, st2, f2, q⟩ => ?_)
  subst z
  refine newSet_ok (newEnv_comp ?_)
  generalize hD : s2.heap.objs.size = D
  have freshD : H2 D = none := I2.hok.fresh (Nat.le_of_eq hD)
  obtain ⟨W, ⟨m0, w0⟩, turn⟩ := q D freshD
  generalize e3 : ({ s2 with heap := s2.heap.push (set0 X.w) } : Shared) = s3
  have h3 : s3.heap = s2.heap.push (set0 X.w) := by rw [← e3]
  have new0 : SetO X.w D (fun _ => false) 0 = SetO X.w s2.heap.objs.size (fun _ => false) 0 := by rw [hD]
  have I3 : Inv X pins σ (upd H2 D (SetO X.w D (fun _ => false) 0)) s3 := by
    rw [← e3, new0, ← hD]
    exact I2.laid (t' := s2.toks) (fun b o z => Heap.get?_push_of_some _ z) (Nat.le_refl _) (setO_new (setR_fresh X.w))
  have low : ∀ b ∈ fp, b < s2.heap.objs.size := fun b hb => let ⟨o, z, _⟩ := T.obj _ _ st2 b hb; Heap.lt_size z
  have f3 : ∀ b ∈ fp, FpOk X pins (upd H2 D (SetO X.w D (fun _ => false) 0)) b ∧ b < s3.heap.objs.size := fun b hb =>
    ⟨⟨by rw [upd_ne (by rw [← hD]; exact Nat.ne_of_lt (low b hb))]; exact (f2 b hb).1, (f2 b hb).2⟩, by rw [h3, Heap.size_push]; exact Nat.lt_succ_of_lt (low b hb)⟩
  have st3 : tn 0 s3.heap := T.keep _ _ _ st2 fun b _ o z => by rw [h3]; exact Heap.get?_push_of_some _ z
  have I4 := block_start I3 ok hN f3
  generalize hcl : cellsFrom (s3.heap.objs.size + 1) scope.names (cloFrom X.env.cells scope.names []) = cl at I4
  have pa := hga s3 (upd H2 D (SetO X.w D (fun _ => false) 0)) s3.heap.objs.size cl fp
  have pq := hqa s3 (upd H2 D (SetO X.w D (fun _ => false) 0)) s3.heap.objs.size cl fp
  have pb := hib s3 (upd H2 D (SetO X.w D (fun _ => false) 0)) s3.heap.objs.size cl fp
  have pgb := hgb s3 (upd H2 D (SetO X.w D (fun _ => false) 0)) s3.heap.objs.size cl fp
  have pqb := hqb s3 (upd H2 D (SetO X.w D (fun _ => false) 0)) s3.heap.objs.size cl fp
  have pe := he s3 (upd H2 D (SetO X.w D (fun _ => false) 0)) s3.heap.objs.size cl fp
  show codeAny _ _ (.compStart (sc2 e ta ia tb ib fa fb scope pos) 0 (.ref it) (.ref D) (compEnvC scope cl s3.heap.objs.size X.env)) (compPost (model X.prog X.w) X.A X.xe use Qf (.ref D) s3.heap.objs.size) { s3 with heap := pushCells (s3.heap.push { cls := .type "dict", data := .dict #[] }) scope.names }
  have nf : ∀ b ∈ fp, (upd H2 D (SetO X.w D (fun _ => false) 0)) b = none := fun b hb => (f3 b hb).1.1
  generalize hce : compEnvC scope cl s3.heap.objs.size X.env = ce at I4 pa pq pb pgb pqb pe ⊢
  have cL : ce.locals = s3.heap.objs.size := by rw [← hce]; rfl
  generalize upd H2 D (SetO X.w D (fun _ => false) 0) = H3 at I3 I4 pa pq pb pgb pqb pe w0 nf f3
  generalize hs4 : ({ s3 with heap := pushCells (s3.heap.push { cls := .type "dict", data := .dict #[] }) scope.names } : Shared) = s4 at I4 ⊢
  have st4 : tn 0 s4.heap := T.keep _ _ _ st3 fun b _ o z => by rw [← hs4]; exact pushCells_keeps _ _ _ _ (Heap.get?_push_of_some _ z)
  let B := X.blk s3 H3 scope ce fp
  let vs := own.map (·.2)
  let Is : Nat → Nat → Hp → Shared → Prop := fun i n H' s' => Inv B [] (wipe σ vs) H' s' ∧ tn i s'.heap ∧ (∀ b ∈ fp, H' b = none) ∧ W i n H'
  have stay : ∀ {σ' : L2.St} {H' : Hp} {s' : Shared}, Inv B [] σ' H' s' → (∀ b ∈ fp, H' b = none) → ∀ b ∈ fp, FpOk B [] H' b := fun {σ' H' s'} I' hn b hb =>
    ⟨hn b hb, (I'.ok.exf b hb).1, I'.ok.exfs b hb, .inl hb, fun x c z => (I'.ok.exf b hb).2 x c z, fun p hp => absurd (show p ∈ ([] : List (Addr × Obj)) ++ [] from hp) (by simp)⟩
  have all : codeAny (model X.prog X.w) X.A (.compLoop (sc2 e ta ia tb ib fa fb scope pos) 0 (.ref it) (.ref D) ce) (compPost (model X.prog X.w) X.A X.xe use Qf (.ref D) s3.heap.objs.size) s4 := by
    refine loopA (hs1 ce) (fun n s' => ∃ i H', Is i n H' s') ?_ m0 ⟨0, H3, I4, st4, nf, w0⟩
    rintro n s5 ⟨i, H5, I5, st5, n5, w5⟩
    rcases turn i n H5 w5 with ⟨stop, qq⟩ | ⟨go, Nx, hNx, step⟩
    · refine thnF (T.done B rfl rfl rfl hc i [] s5 _ H5 (fun _ _ => False) I5 (stay I5 n5) st5 stop) fun r s6 ⟨hr, I6⟩ => ?_
      subst hr
      have back : Inv X pins σ H5 s6 := I3.call' (ch := fp) I6.os I6.base I6.hok I6.bare fun b hb => let ⟨_, c1, c2, c3, c4, c5⟩ := (f3 b hb).1; ⟨c3, c1, c4, c5⟩
      have nC : H5 s3.heap.objs.size = none := cL ▸ (show H5 ce.locals = none from I6.free)
      obtain ⟨m, hn, _⟩ := I6.loc
      have hn : s6.heap.Ns s3.heap.objs.size m := cL ▸ (show s6.heap.Ns ce.locals m from hn)
      exact out D s3.heap.objs.size s6 m H5 back qq hn (I3.fpOk (Nat.le_refl _) nC)
    · refine thnF (T.item B rfl rfl rfl hc i [] s5 _ H5 (fun _ _ => False) I5 (stay I5 n5) st5 go) fun r s6 ⟨u, hr, h6⟩ => ?_
      subst hr
      refine thnF h6 fun _ s7 ⟨x, H7, I7, r7, y7, st7, n7⟩ => ?_
      refine thnF (pa.run _ s7 _ H7 x u _ (I7.pinned (stay I7 n7) (T.obj _ _ st7)) r7 (step x H7 y7)) fun _ s8 ⟨σ8, H8, I8, hw8, q8⟩ => ?_
      refine thnF (pq.run _ s8 σ8 H8 _ I8 q8) fun b s9 ⟨H9, I9, q9⟩ => ?_
      have l8 : (wipe σ vs).length = σ8.length := by rw [← hw8, wipe_length]
      have k8 : ∀ (j : Nat) v, (wipe σ vs)[j]? = some (some v) → σ8[j]? = some (some v) := fun j v z => (wipe_some (by rw [← hw8] at z; exact z)).1
      have k9 : ∀ (j : Nat) v, (wipe σ vs)[j]? = some (some v) → (wipe σ8 v1)[j]? = some (some v) := fun j v z => by
        rw [← hw8] at z
        obtain ⟨z1, z2⟩ := wipe_some z
        rw [wipe_out fun m => z2 (hv j m)]
        exact z1
      have fin : ∀ {σ9 : L2.St} {s' : Shared} {H' : Hp}, Inv B ([] ++ pinsAt fp s7.heap) σ9 H' s' → (wipe σ vs).length = σ9.length → (∀ (j : Nat) v, (wipe σ vs)[j]? = some (some v) → σ9[j]? = some (some v)) → Nx H' → ∃ m, m < n ∧ ∃ i H', Is i m H' s' := fun {σ9 s' H'} I' hl hk nx => by
        obtain ⟨m', hm, w'⟩ := hNx H' nx
        have pin : ∀ b ∈ fp, ∀ o, s7.heap.get? b = some o → s'.heap.get? b = some o ∧ H' b = none := fun b hb o z => let y := I'.pin (b, o) (List.mem_append_right _ (List.mem_append_right _ (mem_pinsAt hb z))); ⟨y.1, y.2.1⟩
        exact ⟨m', hm, i + 1, H', (I'.unpinned (pins := [])).weak hl hk, T.keep _ _ _ st7 fun b hb o z => (pin b hb o z).1, fun b hb => let ⟨o, z, _⟩ := T.obj _ _ st7 b hb; (pin b hb o z).2, w'⟩
      cases b with
      | false =>
        simp only [Bool.false_eq_true, if_false] at q9 ⊢
        exact fin I9 l8 k8 q9
      | true =>
        simp only [if_true] at q9 ⊢
        refine thnF (pb.run _ s9 σ8 H9 _ I9 q9) fun xv s10 hx => thnF hx fun _ s11 ⟨it1, fp1, tn1, J1, H11, z1, I11, T1, st11, f11, W1, ⟨m1, w1⟩, turn1⟩ => ?_
        subst z1
        have stay1 : ∀ {H' : Hp}, (∀ b ∈ fp1, H' b = none) → ∀ b ∈ fp1, FpOk B ([] ++ pinsAt fp s7.heap) H' b := fun hn b hb => ⟨hn b hb, (f11 b hb).2⟩
        let Js : Nat → Nat → Hp → Shared → Prop := fun j k H' s' => Inv B ([] ++ pinsAt fp s7.heap) (wipe σ8 v1) H' s' ∧ tn1 j s'.heap ∧ (∀ b ∈ fp1, H' b = none) ∧ W1 j k H'
        have inner : codeAny (model X.prog X.w) X.A (.compLoop (sc2 e ta ia tb ib fa fb scope pos) 1 (.ref it1) (.ref D) ce) (fun r s' => match r with
            | .ok _ => ∃ m, m < n ∧ ∃ i H', Is i m H' s'
            | .error _ => False) s11 := by
          refine loopB (fun k s' => ∃ j H', Js j k H' s') ?_ m1 ⟨0, H11, I11.weak (wipe_length _ _) (fun j v z => (wipe_some z).1), st11, fun b hb => (f11 b hb).1, w1⟩
          rintro k s12 ⟨j, H12, I12, st12, n12, w12⟩
          rcases turn1 j k H12 w12 with ⟨stop1, nx1⟩ | ⟨go1, Nx1, hNx1, step1⟩
          · refine thnF (T1.done B rfl rfl rfl hc j _ s12 (wipe σ8 v1) H12 (fun _ _ => False) I12 (stay1 n12) st12 stop1) fun r s13 ⟨hr, I13⟩ => ?_
            subst hr
            exact fin I13 (l8.trans (wipe_length σ8 v1).symm) k9 nx1
          · refine thnF (T1.item B rfl rfl rfl hc j _ s12 (wipe σ8 v1) H12 (fun _ _ => False) I12 (stay1 n12) st12 go1) fun r s13 ⟨u1, hr, h13⟩ => ?_
            subst hr
            refine thnF h13 fun _ s14 ⟨x1, H14, I14, r14, y14, st14, n14⟩ => ?_
            refine thnF (pgb.run _ s14 (wipe σ8 v1) H14 x1 u1 _ (I14.pinned (stay1 n14) (T1.obj _ _ st14)) r14 (step1 x1 H14 y14)) fun _ s15 ⟨σ15, H15, I15, hw15, q15⟩ => ?_
            refine thnF (pqb.run _ s15 σ15 H15 _ I15 q15) fun b1 s16 ⟨H16, I16, q16⟩ => ?_
            have fin1 : ∀ {s' : Shared} {H' : Hp}, Inv B (([] ++ pinsAt fp s7.heap) ++ pinsAt fp1 s14.heap) σ15 H' s' → Nx1 H' → ∃ m, m < k ∧ ∃ j H', Js j m H' s' := fun {s' H'} I' nx => by
              obtain ⟨m', hm, w'⟩ := hNx1 H' nx
              have pin : ∀ b ∈ fp1, ∀ o, s14.heap.get? b = some o → s'.heap.get? b = some o ∧ H' b = none := fun b hb o z => let y := I'.pin (b, o) (List.mem_append_right _ (List.mem_append_right _ (mem_pinsAt hb z))); ⟨y.1, y.2.1⟩
              exact ⟨m', hm, j + 1, H', I'.unpinned.weak (by rw [← hw15, wipe_length]) (fun j v z => (wipe_some (by rw [← hw15] at z; exact z)).1), T1.keep _ _ _ st14 fun b hb o z => (pin b hb o z).1, fun b hb => let ⟨o, z, _⟩ := T1.obj _ _ st14 b hb; (pin b hb o z).2, w'⟩
            cases b1 with
            | false =>
              simp only [Bool.false_eq_true, if_false] at q16 ⊢
              exact fin1 I16 q16
            | true =>
              simp only [if_true] at q16 ⊢
              refine thnF (pe.run _ s16 σ15 H16 _ I16 q16) fun z s17 ⟨yv, H17, I17, r17, c, S, n0, ey, hd17, room, nx⟩ => ?_
              subst ey
              obtain ⟨tk, rfl⟩ := r17
              exact add_int (X := B) I17 hd17 room fun s18 I18 => fin1 I18 nx
        exact startB inner (T1.self X.A 0 _ _ _ st11 inner)
  exact codeAny_compStart_set all (T.self X.A 0 _ _ _ st4 all)
theorem pe_sc2 (hc : X.calm = true) (hN : X.N.Nodup) (hi : PI X ta ia wa) (ok : BlkOk X.N X.env.scope scope own) (hv : ∀ i ∈ v1, i ∈ own.map (·.2))
    (hga : ∀ (s : Shared) (H : Hp) (C : Addr) (cl : List (PySem.Str × Addr)) (fp : List Addr), PG (X.blk s H scope (compEnvC scope cl C X.env) fp) ta ga) (hqa : ∀ (s : Shared) (H : Hp) (C : Addr) (cl : List (PySem.Str × Addr)) (fp : List Addr), PTs (X.blk s H scope (compEnvC scope cl C X.env) fp) fa qa)
    (hib : ∀ (s : Shared) (H : Hp) (C : Addr) (cl : List (PySem.Str × Addr)) (fp : List Addr), PI (X.blk s H scope (compEnvC scope cl C X.env) fp) tb ib wb) (hgb : ∀ (s : Shared) (H : Hp) (C : Addr) (cl : List (PySem.Str × Addr)) (fp : List Addr), PG (X.blk s H scope (compEnvC scope cl C X.env) fp) tb gb)
    (hqb : ∀ (s : Shared) (H : Hp) (C : Addr) (cl : List (PySem.Str × Addr)) (fp : List Addr), PTs (X.blk s H scope (compEnvC scope cl C X.env) fp) fb qb) (he : ∀ (s : Shared) (H : Hp) (C : Addr) (cl : List (PySem.Str × Addr)) (fp : List Addr), PE (X.blk s H scope (compEnvC scope cl C X.env) fp) e te)
    (hs : ∀ x, foldedSetIterable ia X.env x = pure x) (hs1 : ∀ env x, foldedSetIterable ib env x = pure x) : PE X (sc2 e ta ia tb ib fa fb scope pos) (tSc2 X.w wa ga qa wb gb qb te (own.map (·.2)) v1) := by
  refine ⟨fun pins s σ H Q I h => ?_⟩
  rw [eval_SetComp]
  refine sc2_core hc hN I hi ok hv hga hqa hib hgb hqb he hs hs1 h fun D C s' m H' I' q hn ⟨f0, f1, f2, f3, f4, f5⟩ => ⟨m, hn, fun h'' sb => ?_⟩
  exact ⟨.ref D, H', I'.turned (t' := s'.toks) (fun b o hb z => (sb.2 b hb).trans z) f0 f1 f3 f4 f5, rfl, q⟩
end
/-! ### sorted of it, read purely -/
structure ScS (K : PySem.W.Frag) (w : World) (Hs Hfs : Hp) (H0 : Hp) (ρ : En) (σ : L2.St) (p : Addr) (acc : List Int) (Hf H : Hp) : Prop where
  ext : Ext Hfs Hs Hf H
  st : StOk K H0 ρ σ Hf H
  own : ∃ (S : Int → Bool) (c : Nat), H p = some (SetO w p S c) ∧ (∀ k, S k = true ↔ k ∈ acc) ∧ c ≤ acc.length
  fp : Hf p = none
theorem ScS.step {K : PySem.W.Frag} {w : World} {Hs Hfs H0 Hf H Hf' H' : Hp} {ρ : En} {σ : L2.St} {p : Addr} {acc : List Int} (F : ScS K w Hs Hfs H0 ρ σ p acc Hf H) (x : Ext Hf H Hf' H') : ScS K w Hs Hfs H0 ρ σ p acc Hf' H' :=
  ⟨F.ext.trans x, F.st.ext x, let ⟨S, c, h, r⟩ := F.own; ⟨S, c, x.all _ _ h, r⟩, let ⟨_, _, h, _⟩ := F.own; x.keep _ _ h F.fp⟩
theorem ScS.push {K : PySem.W.Frag} {w : World} {Hs Hfs H0 Hf H : Hp} {ρ : En} {σ : L2.St} {p : Addr} {acc : List Int} {y : Int} {S : Int → Bool} {c : Nat} (F : ScS K w Hs Hfs H0 ρ σ p acc Hf H) (hs : Hs p = none) (ho : ∀ (i : Nat) (ds : List D), ρ[i]? = some (.own ds) → σ[i]? ≠ some (some (.ref p)))
    (hm : ∀ k, S k = true ↔ k ∈ acc) (hc : c ≤ acc.length) : ScS K w Hs Hfs H0 ρ σ p (acc ++ [y]) Hf (L2.upd H p (SetO w p (fun j => S j || decide (j = y)) (if S y = true then c else c + 1))) := by
  have T := F.st.other (o := SetO w p (fun j => S j || decide (j = y)) (if S y = true then c else c + 1)) F.fp ho
  refine ⟨⟨fun b u e => ?_, F.ext.fro, T.sub, F.ext.keep⟩, T, ⟨_, _, upd_same, fun k => ?_, ?_⟩, F.fp⟩
  · rw [upd_ne (ne_of_none e hs)]
    exact F.ext.all b u e
  · rw [Bool.or_eq_true, hm, decide_eq_true_eq, List.mem_append, List.mem_singleton]
  · rw [List.length_append, List.length_singleton]
    split <;> omega
def gSc2 (gi : En → Option (List D)) (b : D → En → Option En) (t : En → Option Bool) (gi1 : En → Option (List D)) (b1 : D → En → Option En) (t1 : En → Option Bool) (g : En → Option D) (L L1 : List Nat) : En → Option Rs :=
  fun ρ => (gi ρ).bind fun ds => (lcL (lcF2 b t gi1 b1 t1 g L1 (wipeE ρ L)) ds).bind fun out => (allOf asInt out).bind fun ns => if ns.length < 4000 then some (.new ((sortU ns).map .int)) else none
theorem lcL_ints {f : D → Option (List D)} {d : D} {ds out : List D} {ns : List Int} (h : lcL f (d :: ds) = some out) (hn : allOf asInt out = some ns) : ∃ xs rest ms ks, f d = some xs ∧ lcL f ds = some rest ∧ allOf asInt xs = some ms ∧ allOf asInt rest = some ks ∧ ns = ms ++ ks := by
  obtain ⟨xs, h1, h2⟩ := Option.bind_eq_some_iff.mp h
  obtain ⟨rest, h3, rfl⟩ := Option.map_eq_some_iff.mp h2
  have split : ∀ (xs rest : List D) (ns : List Int), allOf asInt (xs ++ rest) = some ns → ∃ ms ks, allOf asInt xs = some ms ∧ allOf asInt rest = some ks ∧ ns = ms ++ ks := by
    intro xs
    induction xs with
    | nil => intro rest ns h; exact ⟨[], ns, rfl, h, rfl⟩
    | cons x xs ih =>
      intro rest ns h
      obtain ⟨k, e1, e2⟩ := Option.bind_eq_some_iff.mp (show (asInt x).bind _ = some ns from h)
      obtain ⟨ns2, e3, rfl⟩ := Option.map_eq_some_iff.mp e2
      obtain ⟨ms, ks, e4, e5, rfl⟩ := ih rest ns2 e3
      exact ⟨k :: ms, ks, by rw [allOf, e1, Option.bind_some, e4]; rfl, e5, rfl⟩
  obtain ⟨ms, ks, a, b, c⟩ := split xs rest ns hn
  exact ⟨xs, rest, ms, ks, h1, h3, a, b, c⟩
theorem tSc2_pu {K : PySem.W.Frag} {w0 : World} {gi gi1 : En → Option (List D)} {b b1 : D → En → Option En} {t t1 : En → Option Bool} {g : En → Option D} {L L1 M M1 : List Nat} (hL : ∀ j ∈ M, j ∈ L) (hL1 : ∀ j ∈ M1, j ∈ L1) (hb : NoOwn b) {σ : L2.St} {H : Hp} {Q : VK}
    (h : ∃ H0 ρ Hf ds out ns, StOk K H0 ρ σ Hf H ∧ gi ρ = some ds ∧ lcL (lcF2 b t gi1 b1 t1 g L1 (wipeE ρ L)) ds = some out ∧ allOf asInt out = some ns ∧ ns.length < 4000 ∧
      ∀ p S c Hf' H', Ext Hf H Hf' H' → H p = none → H' p = some (SetO w0 p S c) → Hf' p = none → (∀ k, S k = true ↔ k ∈ ns) → c ≤ ns.length → Q (.ref p) H') :
    tSc2 w0 (tPi K gi) (tPg K b M) (tPt K t) (tPi K gi1) (tPg K b1 M1) (tPt K t1) (tPv K g) L L1 σ H Q := by
  obtain ⟨H0, ρ, Hf, ds, out, ns, S, e1, e2, en, small, q⟩ := h
  refine ⟨H0, ρ, Hf, ds, S, e1, fun J Hf1 H1 x1 w p hp => ?_⟩
  have S1 := (S.ext x1).wipe L
  have fp1 : Hf1 p = none := x1.sub.free hp
  have hsp : H p = none := x1.all.free hp
  have ho : ∀ (i : Nat) (ds : List D), (wipeE ρ L)[i]? = some (.own ds) → (L2.wipe σ L)[i]? ≠ some (some (.ref p)) := fun i ds ei z => by
    obtain ⟨o, f, a, vs, rfl, _, g1, _⟩ := S1.at_ i _ ei
    rw [f] at z
    cases z
    rw [hp] at g1
    cases g1
  have x2 : Ext Hf H Hf1 (L2.upd H1 p (SetO w0 p (fun _ => false) 0)) := x1.trans (.loose x1.sub hp)
  let f := lcF2 b t gi1 b1 t1 g L1 (wipeE ρ L)
  refine ⟨fun i m H' => m = ds.length - i ∧ i ≤ ds.length ∧ ∃ Hf' acc rest ks, Same Hf1 Hf' ∧ ScS K w0 H Hf H0 (wipeE ρ L) (L2.wipe σ L) p acc Hf' H' ∧ lcL f (ds.drop i) = some rest ∧ allOf asInt rest = some ks ∧ acc ++ ks = ns,
    ⟨_, rfl, Nat.zero_le _, Hf1, [], out, ns, Same.refl _, ⟨x2, S1.other fp1 ho, ⟨_, 0, upd_same, by simp, Nat.le_refl _⟩, fp1⟩, e2, en, rfl⟩, ?_⟩
  rintro i m H2 ⟨rfl, hi, Hf2, acc, rest, ks, s2, F2, e3, e3n, e4⟩
  by_cases hlt : i < ds.length
  · rw [List.drop_eq_getElem_cons hlt] at e3
    obtain ⟨xs, rest2, ms, ks2, e5, e6, e5n, e6n, rfl⟩ := lcL_ints e3 e3n
    obtain ⟨ρ1, e7, e5⟩ := Option.bind_eq_some_iff.mp e5
    obtain ⟨c, e8, e5⟩ := Option.bind_eq_some_iff.mp e5
    refine .inr ⟨w.go i H2 (s2.trans F2.st.sub) hlt, fun H' => i + 1 ≤ ds.length ∧ ∃ Hf' acc rest ks, Same Hf1 Hf' ∧ ScS K w0 H Hf H0 (wipeE ρ L) (L2.wipe σ L) p acc Hf' H' ∧ lcL f (ds.drop (i + 1)) = some rest ∧ allOf asInt rest = some ks ∧ acc ++ ks = ns,
      fun H' n => ⟨ds.length - (i + 1), by omega, rfl, n.1, n.2⟩, fun x H3 y => ?_⟩
    obtain ⟨Hf3, x3, r3⟩ := w.yld i H2 x H3 Hf2 _ s2 F2.st.sub y (List.getElem?_eq_getElem hlt)
    have F3 := F2.step x3
    refine ⟨H0, wipeE ρ L, ρ1, Hf3, _, F3.st, r3, e7, fun σ4 S4 k4 l4 => ⟨?_, H0, ρ1, Hf3, c, S4, e8, fun Hf5 H5 x5 => ?_⟩⟩
    · rw [wipe_eq l4 fun j hj => k4 j fun z => hj (hL j z), wipe_wipe]
    · have F5 := F3.step x5
      have ho4 : ∀ (i : Nat) (ds : List D), (wipeE ρ1 L1)[i]? = some (.own ds) → (L2.wipe σ4 L1)[i]? ≠ some (some (.ref p)) := fun j es ej z => by
        obtain ⟨ej, hj1⟩ := wipeE_own L1 ρ1 j es ej
        have ej0 := hb _ _ _ e7 j es ej
        obtain ⟨_, hj⟩ := wipeE_own L ρ j es ej0
        rw [wipe_get L1 σ4 j hj1, k4 j fun z => hj (hL j z)] at z
        exact ho j es ej0 z
      cases c with
      | true =>
        rw [if_pos rfl] at e5
        obtain ⟨es, e9, e5⟩ := Option.bind_eq_some_iff.mp e5
        refine iteT ?_
        refine ⟨H0, ρ1, Hf5, es, S4.ext x5, e9, fun J1 Hf6 H6 x6 w1 => ?_⟩
        have F6 := F5.step x6
        have S6 := ((S4.ext x5).ext x6).wipe L1
        refine ⟨fun j k H' => k = es.length - j ∧ j ≤ es.length ∧ ∃ Hf' acc' rest' ks', Same Hf6 Hf' ∧ ScS K w0 H Hf H0 (wipeE ρ L) (L2.wipe σ L) p acc' Hf' H' ∧ StOk K H0 (wipeE ρ1 L1) (L2.wipe σ4 L1) Hf' H' ∧ lcL (lcF b1 t1 g (wipeE ρ1 L1)) (es.drop j) = some rest' ∧ allOf asInt rest' = some ks' ∧ acc' ++ ks' = acc ++ ms,
          ⟨_, rfl, Nat.zero_le _, Hf6, acc, xs, ms, Same.refl _, F6, S6, e5, e5n, rfl⟩, ?_⟩
        rintro j k H7 ⟨rfl, hj, Hf7, acc7, rest7, ks7, s7, F7, S7, e10, e10n, e11⟩
        have s17 : Same Hf1 Hf7 := s2.trans (x3.fro.trans (x5.fro.trans (x6.fro.trans s7)))
        by_cases hlt1 : j < es.length
        · rw [List.drop_eq_getElem_cons hlt1] at e10
          obtain ⟨xs1, rest3, ms1, ks3, e12, e13, e12n, e13n, rfl⟩ := lcL_ints e10 e10n
          obtain ⟨ρ2, e14, e12⟩ := Option.bind_eq_some_iff.mp e12
          obtain ⟨c1, e15, e12⟩ := Option.bind_eq_some_iff.mp e12
          refine .inr ⟨w1.go j H7 (s7.trans F7.st.sub) hlt1, fun H' => j + 1 ≤ es.length ∧ ∃ Hf' acc' rest' ks', Same Hf6 Hf' ∧ ScS K w0 H Hf H0 (wipeE ρ L) (L2.wipe σ L) p acc' Hf' H' ∧ StOk K H0 (wipeE ρ1 L1) (L2.wipe σ4 L1) Hf' H' ∧ lcL (lcF b1 t1 g (wipeE ρ1 L1)) (es.drop (j + 1)) = some rest' ∧ allOf asInt rest' = some ks' ∧ acc' ++ ks' = acc ++ ms,
            fun H' n => ⟨es.length - (j + 1), by omega, rfl, n.1, n.2⟩, fun x H8 y => ?_⟩
          obtain ⟨Hf8, x8, r8⟩ := w1.yld j H7 x H8 Hf7 _ s7 F7.st.sub y (List.getElem?_eq_getElem hlt1)
          have F8 := F7.step x8
          have S8 := S7.ext x8
          refine ⟨H0, wipeE ρ1 L1, ρ2, Hf8, _, S8, r8, e14, fun σ9 S9 k9 l9 => ⟨?_, H0, ρ2, Hf8, c1, S9, e15, fun Hf10 H10 x10 => ?_⟩⟩
          · rw [wipe_eq l9 fun j hj => k9 j fun z => hj (hL1 j z), wipe_wipe]
          · have F10 := F8.step x10
            have S10 := S8.ext x10
            cases c1 with
            | true =>
              rw [if_pos rfl] at e12
              obtain ⟨dy, e16, e12⟩ := Option.map_eq_some_iff.mp e12
              subst e12
              obtain ⟨yi, e17, e18⟩ := Option.bind_eq_some_iff.mp (show (asInt dy).bind _ = some ms1 from e12n)
              cases e18
              have e19 := asInt_inv _ _ e17
              subst e19
              refine iteT ?_
              refine ⟨H0, ρ2, Hf10, .int yi, S9.ext x10, e16, fun yv Hf11 H11 x11 r11 => ?_⟩
              have F11 := F10.step x11
              have S11 := S10.ext x11
              obtain ⟨T, c, hv, hm, hc⟩ := F11.own
              have hz : (acc ++ (ms ++ ks2)).length < 4000 := by rw [e4]; exact small
              have hz2 : (acc7 ++ ([yi] ++ ks3)).length = (acc ++ ms).length := by rw [e11]
              simp only [List.length_append, List.length_singleton] at hz hz2
              refine ⟨yi, T, c, r11.int_inv, hv, by unfold scanBound; omega, hlt1, Hf11, acc7 ++ [yi], rest3, ks3, s7.trans (x8.fro.trans (x10.fro.trans x11.fro)), F11.push hsp ho hm hc, S11.other F11.fp ho4, e13, e13n, ?_⟩
              rw [← e11]
              simp
            | false =>
              rw [if_neg Bool.false_ne_true] at e12
              cases e12
              cases e12n
              refine iteF ?_
              exact ⟨hlt1, Hf10, acc7, rest3, ks3, s7.trans (x8.fro.trans x10.fro), F10, S10, e13, e13n, e11⟩
        · rw [List.drop_eq_nil_of_le (by omega)] at e10
          cases e10
          cases e10n
          rw [List.append_nil] at e11
          subst e11
          refine .inl ⟨w1.stop j H7 (s7.trans F7.st.sub) (by omega), hlt, Hf7, acc ++ ms, rest2, ks2, s17, F7, e6, e6n, ?_⟩
          rw [← e4, List.append_assoc]
      | false =>
        rw [if_neg Bool.false_ne_true] at e5
        cases e5
        cases e5n
        refine iteF ?_
        exact ⟨hlt, Hf5, acc, rest2, ks2, s2.trans (x3.fro.trans x5.fro), F5, e6, e6n, e4⟩
  · rw [List.drop_eq_nil_of_le (by omega)] at e3
    cases e3
    cases e3n
    obtain ⟨T, c, hv, hm, hc⟩ := F2.own
    rw [List.append_nil] at e4
    subst e4
    exact .inl ⟨w.stop i H2 (s2.trans F2.st.sub) (by omega), q p T c Hf2 H2 F2.ext hsp hv F2.fp hm hc⟩
section
variable {X : Cx} {pos : Pos}
theorem pu_sortSc2 {elt tg iter tg1 iter1 : Expr} {ifs ifs1 : List Expr} {x : Str} {p pos2 : Pos} {scope : Scope} {own : List (PySem.Str × Nat)} {vs1 : List Nat} {gi gi1 : En → Option (List D)} {b b1 : D → En → Option En} {t t1 : En → Option Bool} {g : En → Option D} {M M1 : List Nat}
    (hc : X.calm = true) (hgl : Gl X x) (hm : X.mg x = none) (hv0 : bootBuiltins x = some (.builtin "sorted")) (hN : X.N.Nodup) (hi : PI X tg iter (tPi X.K gi)) (ok : BlkOk X.N X.env.scope scope own)
    (hg : ∀ (s : Shared) (H : Hp) (C : Addr) (cl : List (PySem.Str × Addr)) (fp : List Addr), PG (X.blk s H scope (compEnvC scope cl C X.env) fp) tg (tPg X.K b M)) (ht : ∀ (s : Shared) (H : Hp) (C : Addr) (cl : List (PySem.Str × Addr)) (fp : List Addr), PTs (X.blk s H scope (compEnvC scope cl C X.env) fp) ifs (tPt X.K t))
    (hi1 : ∀ (s : Shared) (H : Hp) (C : Addr) (cl : List (PySem.Str × Addr)) (fp : List Addr), PI (X.blk s H scope (compEnvC scope cl C X.env) fp) tg1 iter1 (tPi X.K gi1))
    (hg1 : ∀ (s : Shared) (H : Hp) (C : Addr) (cl : List (PySem.Str × Addr)) (fp : List Addr), PG (X.blk s H scope (compEnvC scope cl C X.env) fp) tg1 (tPg X.K b1 M1)) (ht1 : ∀ (s : Shared) (H : Hp) (C : Addr) (cl : List (PySem.Str × Addr)) (fp : List Addr), PTs (X.blk s H scope (compEnvC scope cl C X.env) fp) ifs1 (tPt X.K t1))
    (he : ∀ (s : Shared) (H : Hp) (C : Addr) (cl : List (PySem.Str × Addr)) (fp : List Addr), PE (X.blk s H scope (compEnvC scope cl C X.env) fp) elt (tPv X.K g)) (hb : NoOwn b) (hL : ∀ j ∈ M, j ∈ own.map (·.2) := by decide) (hL1 : ∀ j ∈ M1, j ∈ vs1 := by decide) (hv : ∀ i ∈ vs1, i ∈ own.map (·.2) := by decide)
    (hs : ∀ x, foldedSetIterable iter X.env x = pure x := by intro _; rfl) (hs1 : ∀ env x, foldedSetIterable iter1 env x = pure x := by intro _ _; rfl) (hn : x ≠ "__name__" := by decide) (hdb : (x == ("__debug__" : Str)) = false := by decide)
    (he2 : starEach [sc2 elt tg iter tg1 iter1 ifs ifs1 scope pos2] X.env = (false, eval (sc2 elt tg iter tg1 iter1 ifs ifs1 scope pos2) X.env) :: starEach [] X.env := by rfl) (hpl2 : (backTo pos (starEach [] X.env)).any (·.1) = false := by rfl) :
    PE X (.Call (.Name x p) [sc2 elt tg iter tg1 iter1 ifs ifs1 scope pos2] [] pos) (tPu X.K (gSc2 gi b t gi1 b1 t1 g (own.map (·.2)) vs1)) := by
  refine PE.weaken (pe_callB (cr_sortS hc) hgl hm hv0 (pa_cons (pe_sc2 hc hN hi ok hv hg ht hi1 hg1 ht1 he hs hs1) pa_nil he2) hn hdb he2 hpl2) fun σ H Q h => ?_
  obtain ⟨H0, ρ, Hf, r, S, e1, q⟩ := h
  obtain ⟨ds, e2, e1⟩ := Option.bind_eq_some_iff.mp e1
  obtain ⟨out, e3, e1⟩ := Option.bind_eq_some_iff.mp e1
  obtain ⟨ns, e4, e1⟩ := Option.bind_eq_some_iff.mp e1
  split at e1
  · rename_i small
    cases e1
    show tSc2 X.w (tPi X.K gi) (tPg X.K b M) (tPt X.K t) (tPi X.K gi1) (tPg X.K b1 M1) (tPt X.K t1) (tPv X.K g) (own.map (·.2)) vs1 σ H (fun v H1 => rSortS X [v] H1 Q)
    refine tSc2_pu hL hL1 hb ⟨H0, ρ, Hf, ds, out, ns, S, e2, e3, e4, small, fun d T c Hf' H' x1 hd hd' fd hm hc => ?_⟩
    refine ⟨d, T, c, rfl, hd', Nat.le_trans hc (Nat.le_trans (Nat.le_of_lt small) (by decide)), fun ms y asc mem len hy => ?_⟩
    obtain rfl : ms = sortU ns := asc_uniq asc (sortU_sorted ns) fun z => by rw [mem z, mem_sortU, hm z]
    exact q _ Hf' _ (x1.trans (.loose (o := .lst ((sortU ns).map V.int)) x1.sub hy)) ⟨y, _, rfl, x1.all.free hy, upd_same, x1.sub.free hy, .ints _⟩
  · cases e1
end
end Pu

namespace Pu
open PySem PySem.Spec PyProof PyProof.Rows L2
variable [FnTab]
/-! ### defs as values -/
theorem Ck.fn {K : PySem.W.Frag} {mg : Str → Option Value} {x : Str} {k : Nat} {a : Addr} (h : mg x = some (.ref a)) (ht : FnTab.tab k = some a) : Ck K mg x (fnD k) := ⟨.ref a, .ref a, h, rfl, fun H => .fn ht⟩
def asFn : D → Option Nat
  | .dict [(.list [.int k], .int 0)] => if 0 ≤ k then some k.toNat else none
  | _ => none
theorem asFn_inv {d : D} {k : Nat} (h : asFn d = some k) : d = fnD k := by
  unfold asFn at h
  split at h
  · split at h
    · cases h
      unfold fnD
      rw [Int.toNat_of_nonneg (by assumption)]
    · cases h
  · cases h
abbrev FnS := Nat → Option (Nat × (List D → Option D))
def gCallV (i : Nat) (F : FnS) (gs : En → Option (List D)) : En → Option D := fun ρ => (vVar i ρ).bind fun d => (asFn d).bind fun k => (F k).bind fun p => gCall p.1 p.2 gs ρ
/-- what is known of the defs of the table -/
def FnA (P : Program) (w : World) (K : PySem.W.Frag) (mg : Str → Option Value) (base : Heap) (lev : Nat) (F : FnS) : Prop :=
  ∀ k n φ, F k = some (n, φ) → ∃ f fd ps, FnTab.tab k = some f ∧ FnG P w K mg base CX0 lev f fd ps (spPu K n φ) ∧ PySem.W.keepIn K (.ref f) = true ∧ Binds K fd ps []
omit [FnTab] in
theorem pe_callLG {X : Cx} {e : Expr} {es : List Expr} {pos : Pos} {CX : CXT} {k i : Nat} {f : Addr} {fd : FuncData} {ps : List Str} {sp : Sp} {dvs : List V} {ds : List Value} {E : XK} {x : Str} {p : Pos} {t : TA}
    (F : FnG X.prog X.w X.K X.mg X.base CX k f fd ps sp) (hr : Rg k X.A) (hN : X.N[i]? = some x) (hv : Vis X.env.scope x) (hk : PySem.W.keepIn X.K (.ref f) = true) (hb : Binds X.K fd ps ds) (hd : Vals dvs ds) (hx : Passes CX X E) (ha : PA X (e :: es) t)
    (hdb : (x == ("__debug__" : Str)) = false := by decide) (hcd : (x == ("__classdict__" : Str)) = false := by decide) (he : starEach (e :: es) X.env = (false, eval e X.env) :: starEach es X.env := by rfl)
    (hpl : (backTo pos (starEach es X.env)).any (·.1) = false := by rfl) : PE X (.Call (.Name x p) (e :: es) [] pos) (tCallL i f sp dvs E t) where
  run pins s σ H Q I h := by
    obtain ⟨hs, ht⟩ := h
    refine wpAny_Call_Name_kw (thn ((pe_var hN hv hdb hcd).run pins s σ H (fun v H1 => v = .ref f ∧ H1 = H) I ⟨_, hs, rfl, rfl⟩) ?_)
    rintro u s1 ⟨v, H1, I1, r1, rfl, rfl⟩
    cases r1
    exact PySem.W.callWith_K I.ok.mod.kin hk (thn (ha.run pos pins s1 σ _ (fun vs H1 => sp (vs ++ dvs) H1 Q E) I1 ht) fun us s2 ⟨vs, H2, I2, r, q⟩ => ⟨I2.kIn, run_fnG F hr hb hd hx I2 r q⟩) he hpl
section
variable {X : Cx} {e : Expr} {es : List Expr} {pos : Pos}
theorem pv_callS {i lev j : Nat} {x : Str} {p : Pos} {F : FnS} {gs : En → Option (List D)} (A : FnA X.prog X.w X.K X.mg X.base lev F) (hr : Rg j X.A) (hk : lev ≤ j) (hN : X.N[i]? = some x) (hv : Vis X.env.scope x) (ha : PA X (e :: es) (tPa X.K gs))
    (hdb : (x == ("__debug__" : Str)) = false := by decide) (hcd : (x == ("__classdict__" : Str)) = false := by decide)
    (he : starEach (e :: es) X.env = (false, eval e X.env) :: starEach es X.env := by rfl) (hpl : (backTo pos (starEach es X.env)).any (·.1) = false := by rfl) : PE X (.Call (.Name x p) (e :: es) [] pos) (tPv X.K (gCallV i F gs)) := by
  refine ⟨fun pins s σ H Q I h => ?_⟩
  obtain ⟨H0, ρ, Hf, d, S, e1, q⟩ := h
  obtain ⟨fv, e2, e5⟩ := Option.bind_eq_some_iff.mp e1
  obtain ⟨k, e3, e6⟩ := Option.bind_eq_some_iff.mp e5
  obtain ⟨⟨n, φ⟩, e4, e7⟩ := Option.bind_eq_some_iff.mp e6
  obtain rfl := asFn_inv e3
  obtain ⟨f, fd, ps, ht, Fo, hkp, hb⟩ := A k n φ e4
  have hs : σ[i]? = some (some (.ref f)) := by
    unfold vVar at e2
    split at e2
    · rename_i d hd
      cases e2
      obtain ⟨o, eo, v, ev, r⟩ := S.at_ i _ hd
      obtain ⟨a, rfl, ta⟩ := r.fn_inv
      rw [ht] at ta
      cases ta
      rw [eo, ev]
    · cases e2
  have z := tCall_pv (E := fun _ _ _ => False) (show tPv X.K (gCall n φ gs) σ H Q from ⟨H0, ρ, Hf, d, S, e7, q⟩)
  exact (pe_callLG (i := i) (f := f) (dvs := []) (E := fun _ _ _ => False) Fo (hr.mono hk) hN hv hkp hb .nil (fun _ _ _ _ _ _ _ z => z.elim) ha hdb hcd he hpl).run pins s σ H Q I ⟨hs, z⟩
end
abbrev tabOf (K : PySem.W.Frag) (names : List Str) : FnTab := ⟨fun k => match names[k]? with
  | some x => match PySem.W.nsIn K mainGlobals x with
    | some (some (.ref g)) => some g
    | _ => none
  | none => none⟩
theorem tabOf_at {K : PySem.W.Frag} {names : List Str} {k : Nat} {x : Str} {g : Addr} (h : names[k]? = some x) (h2 : PySem.W.nsIn K mainGlobals x = some (some (.ref g))) : (tabOf K names).tab k = some g := by
  unfold tabOf
  simp only [h, h2]
theorem Fk.one {P : Program} {w : World} {K : PySem.W.Frag} {mg : Str → Option Value} {base : Heap} {lev n i : Nat} {x : Str} {φ : List D → Option D} {g : Addr} (F : Fk P w K mg base lev x n φ) (h : mg x = some (.ref g)) (t : FnTab.tab i = some g) :
    ∃ f fd ps, FnTab.tab i = some f ∧ FnG P w K mg base CX0 lev f fd ps (spPu K n φ) ∧ PySem.W.keepIn K (.ref f) = true ∧ Binds K fd ps [] := by
  obtain ⟨f, fd, ps, F1, F2, F3, F4⟩ := F.ex
  rw [h] at F2
  cases F2
  exact ⟨g, fd, ps, t, F1, F3, F4⟩
omit [FnTab] in
theorem pu_walk {l : PySem.W.OpenLaw} {n k : Nat} {q : Program} {loose : List Str} {XP : (Str → Option Value) → Heap → Prop} {YP : World → Heap → Prop} {d : DefRec} {K : Params → PySem.W.Frag} (names : List Str) (φ : List D → Option D)
    (hn : l.most = some n) (hn2 : n ≤ sizeLine) (hdf : d.params.defaults = []) (hr : Rg k callerA) (hY : ∀ (w : World) (h : Heap), YP w h → (K w.params).In h)
    (F : ∀ (w : World) (mg : Str → Option Value) (fa : Addr) (h : Heap), (K w.params).In h → h.Ns mainGlobals mg → mg d.name = some (.ref fa) →
      ∃ fd : FuncData, (∀ (s : Shared) (u : Value), BindsTo s fd ⟨[u], []⟩ [("script", u)]) ∧
        ∀ base : Heap, (K w.params).In base → base.Ns mainGlobals mg → FnG l.prog w (K w.params) mg base CX0 k fa fd ["script"] (@spPu (tabOf (K w.params) names) (K w.params) 1 φ))
    (ht : ∀ ns : List Int, ns.length ≤ n → (∀ z ∈ ns, Builtin.Int.intBits z ≤ 1048576) → φ [scrD (ns.map PyData.int)] = some (.bool true)) : PySem.W.WalkO q loose XP YP l.row.toRowW d [] (fun f vs => PySem.call f vs) :=
  walk_ofG (sp := fun w => @spPu (tabOf (K w.params) names) (K w.params) 1 φ) (CX := fun _ => CX0) hn hn2 hdf hr hY F
    (fun w H a ns hl hb _ hS => letI := tabOf (K w.params) names; ⟨H, [scrD (ns.map PyData.int)], .bool true, rfl, Same.refl _, .cons (.scr hS (RpAll.ints ns)) .nil, ht ns hl hb, fun v _ _ _ r => r.bl_inv⟩) (fun _ _ _ _ _ h => h)
/-- nothing can be asked of a def without calls -/
theorem fn_none {P : Program} {w : World} {K : PySem.W.Frag} {mg : Str → Option Value} {base : Heap} {f : Addr} {fd : FuncData} {ps : List Str} {k n : Nat} : FnG P w K mg base CX0 k f fd ps (spPu K n fun _ => none) := by
  have no : ∀ vs H Q E, ¬ spPu K n (fun _ => none) vs H Q E := fun vs H Q E h => by
    obtain ⟨Hf, ds, d, _, _, _, h1, _⟩ := h
    cases h1
  exact ⟨fun vs H Q E h => absurd h (no vs H Q E), fun A outer s H args us vs Q E _ _ _ _ h => absurd h (no vs H Q E)⟩
end Pu

namespace Pu
open PySem PySem.Spec PyProof PyProof.Rows L2
variable [FnTab]
section
variable {X : Cx} {e a b : Expr} {es : List Expr} {pos : Pos} {ga gb : En → Option D}
/-! ### repr -/
def isSeq : D → Bool
  | .list _ => true
  | .tuple _ => true
  | _ => false
def asD (r : Rs) : Option D := match lstOf r with
  | some ds => some (.list ds)
  | none => match r with
    | .val d => some d
    | _ => none
def dRepr (r : Rs) : Option Rs := (asD r).bind fun d => if noDict d = true ∧ isSeq d = true ∧ d.showable = true ∧ d.hasDict = false ∧ d.depth ≤ 150 ∧ d.shown.length ≤ sizeLine then some (.val (.str d.shown)) else none
theorem asD_rp {K : PySem.W.Frag} {H0 Hf H : Hp} {v : V} {r : Rs} {d : D} (h : RsOk K H0 Hf H v r) (s : Same Hf H) (e : asD r = some d) (n : noDict d = true) : Dp K H v d := by
  unfold asD at e
  split at e
  · rename_i ds hl
    cases e
    obtain ⟨a, xs, rfl, h1, q⟩ := lst_of h s hl
    exact .lst h1 ((RpAll.mono s q).dp (by simpa [noDict] using n))
  · split at e
    · cases e
      exact (Rp.mono s h).dp n
    · cases e
theorem cl_repr {j : Nat} (hr : Rg j X.A) : CallR X (.builtin "repr") (rR1 X.K dRepr) := fun pins s σ H xs us Q I rs ⟨H0, Hf, v, r, d, e, sm, ro, ef, q⟩ => by
  subst e
  obtain ⟨u, e1, e2⟩ := Option.bind_eq_some_iff.mp ef
  split at e2
  · rename_i hc
    obtain ⟨h1, h2, h3, h4, h5, h6⟩ := hc
    cases e2
    have hd := asD_rp ro sm e1 h1
    cases rs with
    | cons rv nl =>
      cases nl
      obtain ⟨as, R⟩ := Dp.reads I u v _ hd rv
      have ru := hr.r.un
      have ref : ∃ a, v = .ref a := by
        cases hd with
        | lst => exact ⟨_, rfl⟩
        | tup => exact ⟨_, rfl⟩
        | _ => cases h2
      obtain ⟨a, rfl⟩ := ref
      cases rv
      exact repr_of_reads' R h3 (by rw [h4]; exact fun z => nomatch z) hr.g (by omega) (fun _ _ z => z) (fun h' t tk k => ⟨.str u.shown, H, I.kept k, ⟨t, rfl⟩, q _ Hf H (.refl sm) (.str _)⟩) h6
  · cases e2
/-! ### texts -/
def strsOf : List D → Option (List Str)
  | [] => some []
  | .str a :: r => (strsOf r).map (a :: ·)
  | _ => none
theorem strsOf_eq : ∀ {ds : List D} {ys : List Str}, strsOf ds = some ys → ds = ys.map PyData.str
  | [], ys, h => by cases h; rfl
  | d :: r, ys, h => by
    cases d <;> first | (simp only [strsOf] at h; cases h) | skip
    rename_i a
    obtain ⟨zs, h1, rfl⟩ := Option.map_eq_some_iff.mp h
    rw [strsOf_eq h1]
    rfl
theorem strsOf_map : ∀ ys : List Str, strsOf (ys.map PyData.str) = some ys
  | [] => rfl
  | y :: ys => by simp [strsOf, strsOf_map ys]
def isIn (j i : Str) : Bool := !(Builtin.Str.occurrences j i 0 j.length 1).isEmpty
/-- x in y: texts, lists at any depth, tuples of texts -/
def dIn : D → D → Option D
  | .str i, .str j => some (.bool (isIn j i))
  | d, .list ds => if SeqAt.shaped d = true ∧ SeqAt.shaped (.list ds) = true then some (.bool (ds.any fun z => PyData.eqv z d)) else none
  | .str i, .tuple ds => (strsOf ds).map fun ys => .bool (ys.any fun y => y == i)
  | _, _ => none
theorem inV_strs (i : Str) : ∀ ys : List Str, inV (.str i) (ys.map V.str) = ys.any fun y => y == i
  | [] => rfl
  | y :: ys => by
    have h := inV_strs i ys
    unfold inV at h ⊢
    rw [List.map_cons, List.any_cons, List.any_cons, h]
    rfl
theorem flat_strs : ∀ ys : List Str, (ys.map V.str).all flatV = true
  | [] => rfl
  | y :: ys => by rw [List.map_cons, List.all_cons, flat_strs ys]; rfl
theorem or_in {j : Nat} (hr : Rg j X.A) : OpR X (compareOp .In) (rPv2 X.K dIn) := OpR.weaken ((op_in_str.or (op_inD hr.wide)).or op_in_seq) fun x y H Q ⟨Hf, a, b, d, s, ra, rb, e, q⟩ => by
  unfold dIn at e
  split at e
  · cases e
    exact .inl (.inl ⟨_, _, ra.str_inv, rb.str_inv, q _ Hf H (.refl s) (.bl _)⟩)
  · split at e
    · rename_i h
      cases e
      exact .inl (.inr ⟨_, _, dp_of (ra.mono s) h.1, dp_of (rb.mono s) h.2, h.1, h.2, q _ Hf H (.refl s) (.bl _)⟩)
    · cases e
  · obtain ⟨ys, h, rfl⟩ := Option.map_eq_some_iff.mp e
    obtain rfl := strsOf_eq h
    obtain ⟨l, xs, rfl, h1, r⟩ := rb.tup_inv
    obtain rfl := r.strs_inv
    obtain rfl := ra.str_inv
    refine .inr ⟨l, _, rfl, .inr (Same.seqT s h1), rfl, flat_strs ys, ?_⟩
    rw [inV_strs]
    exact q _ Hf H (.refl s) (.bl _)
  · cases e
def dNotIn (a b : D) : Option D := match dIn a b with
  | some (.bool k) => some (.bool (!k))
  | _ => none
theorem or_notIn {j : Nat} (hr : Rg j X.A) : OpR X (compareOp .NotIn) (rPv2 X.K dNotIn) := OpR.weaken ((op_notIn_str.or (op_notInD hr.wide)).or op_notIn_seq) fun x y H Q ⟨Hf, a, b, d, s, ra, rb, e, q⟩ => by
  unfold dNotIn at e
  split at e
  · rename_i k ek
    cases e
    unfold dIn at ek
    split at ek
    · cases ek
      exact .inl (.inl ⟨_, _, ra.str_inv, rb.str_inv, q _ Hf H (.refl s) (.bl _)⟩)
    · split at ek
      · rename_i h
        cases ek
        exact .inl (.inr ⟨_, _, dp_of (ra.mono s) h.1, dp_of (rb.mono s) h.2, h.1, h.2, q _ Hf H (.refl s) (.bl _)⟩)
      · cases ek
    · obtain ⟨ys, h, hk⟩ := Option.map_eq_some_iff.mp ek
      cases hk
      obtain rfl := strsOf_eq h
      obtain ⟨l, xs, rfl, h1, r⟩ := rb.tup_inv
      obtain rfl := r.strs_inv
      obtain rfl := ra.str_inv
      refine .inr ⟨l, _, rfl, .inr (Same.seqT s h1), rfl, flat_strs ys, ?_⟩
      simp only [if_true]
      rw [inV_strs]
      exact q _ Hf H (.refl s) (.bl _)
    · cases ek
  · cases e
/-! methods of texts -/
theorem MtR.weaken {id : String} {r r' : V → List V → Hp → VK → Prop} (h : MtR X id r) (w : ∀ x xs H Q, r' x xs H Q → r x xs H Q) : MtR X id r' := fun pins s σ H x xs v us Q I rv rs q => h pins s σ H x xs v us Q I rv rs (w _ _ _ _ q)
/-- the answer is a value -/
def rMs (K : PySem.W.Frag) (f : Str → List D → Option D) : V → List V → Hp → VK → Prop := fun x xs H Q => ∃ Hf a ds d, Same Hf H ∧ x = .str a ∧ RpAll K Hf xs ds ∧ f a ds = some d ∧ ∀ v Hf' H', Ext Hf H Hf' H' → Rp K Hf' v d → Q v H'
/-- the answer is a new list of texts -/
def rMl (K : PySem.W.Frag) (f : Str → List D → Option (List Str)) : V → List V → Hp → VK → Prop := fun x xs H Q => ∃ Hf a ds ys, Same Hf H ∧ x = .str a ∧ RpAll K Hf xs ds ∧ f a ds = some ys ∧ ∀ p, H p = none → Q (.ref p) (upd H p (.lst (ys.map V.str)))
def gMs (f : Str → List D → Option D) (g : En → Option D) (gs : En → Option (List D)) : En → Option D := fun ρ => (g ρ).bind fun d => (gs ρ).bind fun ds => match d with
  | .str a => f a ds
  | _ => none
def gMl (f : Str → List D → Option (List Str)) (g : En → Option D) (gs : En → Option (List D)) : En → Option Rs := fun ρ => (g ρ).bind fun d => (gs ρ).bind fun ds => match d with
  | .str a => (f a ds).map fun ys => .new (ys.map PyData.str)
  | _ => none
theorem RpAll.strs {K : PySem.W.Frag} {H : Hp} : ∀ ys : List Str, RpAll K H (ys.map V.str) (ys.map PyData.str)
  | [] => .nil
  | y :: ys => .cons (.str y) (RpAll.strs ys)
section
variable {o : Expr} {name : Str} {apos cpos : Pos} {id : String} {gs : En → Option (List D)}
theorem pv_ms {f : Str → List D → Option D} (sl : Slot "str" name id) (ty : typeOf (.builtin id) = pure (.type "method_descriptor")) (m : MtR X id (rMs X.K f)) (ho : PE X o (tPv X.K ga)) (ha : PA X (e :: es) (tPa X.K gs))
    (h1 : attributeBase o name X.env (eval o X.env) = eval o X.env := by rfl) (h2 : (((backTo cpos (starEach (e :: es) X.env)).all fun x => !x.1) && (backToKw cpos (keywordEach [] X.env)).all (fun x => x.1.isSome) && decide ((e :: es).length + ([] : List Keyword).length + (if ([] : List Keyword).isEmpty then 0 else 1) < 30)) = true := by rfl)
    (h3 : (apos.endLine == cpos.line) = true := by rfl) (h4 : starEach (e :: es) X.env = (false, eval e X.env) :: starEach es X.env := by rfl) (h5 : (backTo cpos (starEach es X.env)).any (·.1) = false := by rfl) :
    PE X (.Call (.Attribute o name apos) (e :: es) [] cpos) (tPv X.K (gMs f ga gs)) :=
  PE.weaken (pe_bm PySem.F.plainAttrs_str sl ty m ho ha h1 h2 h3 h4 h5) fun σ H Q ⟨H0, ρ, Hf, d, S, e, q⟩ => by
    obtain ⟨u, e1, e⟩ := Option.bind_eq_some_iff.mp e
    obtain ⟨ds, e2, e⟩ := Option.bind_eq_some_iff.mp e
    obtain ⟨a, rfl⟩ : ∃ a, u = PyData.str a := by cases u <;> first | exact ⟨_, rfl⟩ | cases e
    refine ⟨H0, ρ, Hf, _, S, e1, fun v Hf1 H1 x1 r1 => ?_⟩
    obtain rfl := r1.str_inv
    exact ⟨rfl, H0, ρ, Hf1, ds, S.ext x1, e2, fun vs Hf2 H2 x2 r2 => ⟨Hf2, a, ds, d, x2.sub, rfl, r2, e, fun w Hf3 H3 x3 r3 => q w Hf3 H3 (x1.trans (x2.trans x3)) r3⟩⟩
theorem pv_ms0 {f : Str → List D → Option D} (sl : Slot "str" name id) (ty : typeOf (.builtin id) = pure (.type "method_descriptor")) (m : MtR X id (rMs X.K f)) (ho : PE X o (tPv X.K ga))
    (h1 : attributeBase o name X.env (eval o X.env) = eval o X.env := by rfl) (h3 : (apos.endLine == cpos.line) = true := by rfl) : PE X (.Call (.Attribute o name apos) [] [] cpos) (tPv X.K (gMs f ga aNil)) :=
  PE.weaken (pe_bm0 PySem.F.plainAttrs_str sl ty m ho h1 h3) fun σ H Q ⟨H0, ρ, Hf, d, S, e, q⟩ => by
    obtain ⟨u, e1, e⟩ := Option.bind_eq_some_iff.mp e
    obtain ⟨ds, e2, e⟩ := Option.bind_eq_some_iff.mp e
    cases e2
    obtain ⟨a, rfl⟩ : ∃ a, u = PyData.str a := by cases u <;> first | exact ⟨_, rfl⟩ | cases e
    refine ⟨H0, ρ, Hf, _, S, e1, fun v Hf1 H1 x1 r1 => ?_⟩
    obtain rfl := r1.str_inv
    exact ⟨rfl, Hf1, a, [], d, x1.sub, rfl, .nil, e, fun w Hf3 H3 x3 r3 => q w Hf3 H3 (x1.trans x3) r3⟩
theorem pu_ml {f : Str → List D → Option (List Str)} (sl : Slot "str" name id) (ty : typeOf (.builtin id) = pure (.type "method_descriptor")) (m : MtR X id (rMl X.K f)) (ho : PE X o (tPv X.K ga)) (ha : PA X (e :: es) (tPa X.K gs))
    (h1 : attributeBase o name X.env (eval o X.env) = eval o X.env := by rfl) (h2 : (((backTo cpos (starEach (e :: es) X.env)).all fun x => !x.1) && (backToKw cpos (keywordEach [] X.env)).all (fun x => x.1.isSome) && decide ((e :: es).length + ([] : List Keyword).length + (if ([] : List Keyword).isEmpty then 0 else 1) < 30)) = true := by rfl)
    (h3 : (apos.endLine == cpos.line) = true := by rfl) (h4 : starEach (e :: es) X.env = (false, eval e X.env) :: starEach es X.env := by rfl) (h5 : (backTo cpos (starEach es X.env)).any (·.1) = false := by rfl) :
    PE X (.Call (.Attribute o name apos) (e :: es) [] cpos) (tPu X.K (gMl f ga gs)) :=
  PE.weaken (pe_bm PySem.F.plainAttrs_str sl ty m ho ha h1 h2 h3 h4 h5) fun σ H Q ⟨H0, ρ, Hf, r, S, e, q⟩ => by
    obtain ⟨u, e1, e⟩ := Option.bind_eq_some_iff.mp e
    obtain ⟨ds, e2, e⟩ := Option.bind_eq_some_iff.mp e
    obtain ⟨a, rfl⟩ : ∃ a, u = PyData.str a := by cases u <;> first | exact ⟨_, rfl⟩ | cases e
    · obtain ⟨ys, e3, rfl⟩ := Option.map_eq_some_iff.mp e
      refine ⟨H0, ρ, Hf, _, S, e1, fun v Hf1 H1 x1 r1 => ?_⟩
      obtain rfl := r1.str_inv
      exact ⟨rfl, H0, ρ, Hf1, ds, S.ext x1, e2, fun vs Hf2 H2 x2 r2 => ⟨Hf2, a, ds, ys, x2.sub, rfl, r2, e3, fun p hp => q _ Hf2 _ ((x1.trans x2).trans (.loose x2.sub hp)) ⟨p, _, rfl, (x1.trans x2).all.free hp, upd_same, x2.sub.free hp, RpAll.strs ys⟩⟩⟩
end
def mFind : Str → List D → Option D
  | a, [.str b] => some (.int (Txt.find a b))
  | a, [.str b, .int i] => some (.int (Txt.find3 a b i))
  | _, _ => none
theorem RpAll.one_inv {K : PySem.W.Frag} {H : Hp} {vs : List V} {d : D} (h : RpAll K H vs [d]) : ∃ v, vs = [v] ∧ Rp K H v d := by
  cases h with
  | cons a b => cases b; exact ⟨_, rfl, a⟩
theorem RpAll.two_inv {K : PySem.W.Frag} {H : Hp} {vs : List V} {d e : D} (h : RpAll K H vs [d, e]) : ∃ v w, vs = [v, w] ∧ Rp K H v d ∧ Rp K H w e := by
  cases h with
  | cons a b =>
    obtain ⟨w, rfl, r⟩ := b.one_inv
    exact ⟨_, w, rfl, a, r⟩
theorem mr_find : MtR X "str.find" (rMs X.K mFind) := MtR.weaken (mt_find.or mt_find3) fun x xs H Q ⟨Hf, a, ds, d, s, ex, r, e, q⟩ => by
  unfold mFind at e
  split at e
  · cases e
    obtain ⟨v, rfl, r1⟩ := r.one_inv
    exact .inl ⟨_, _, ex, by rw [r1.str_inv], q _ Hf H (.refl s) (.int _)⟩
  · cases e
    obtain ⟨v, w, rfl, r1, r2⟩ := r.two_inv
    exact .inr ⟨_, _, _, ex, by rw [r1.str_inv, r2.int_inv], q _ Hf H (.refl s) (.int _)⟩
  · cases e
def mStarts : Str → List D → Option D
  | a, [.str b] => some (.bool (Txt.startswith a b))
  | a, [.str b, .int i] => some (.bool (Txt.startswith3 a b i))
  | _, _ => none
theorem mr_starts : MtR X "str.startswith" (rMs X.K mStarts) := MtR.weaken (mt_startswith.or mt_startswith3) fun x xs H Q ⟨Hf, a, ds, d, s, ex, r, e, q⟩ => by
  unfold mStarts at e
  split at e
  · cases e
    obtain ⟨v, rfl, r1⟩ := r.one_inv
    exact .inl ⟨_, _, ex, by rw [r1.str_inv], q _ Hf H (.refl s) (.bl _)⟩
  · cases e
    obtain ⟨v, w, rfl, r1, r2⟩ := r.two_inv
    exact .inr ⟨_, _, _, ex, by rw [r1.str_inv, r2.int_inv], q _ Hf H (.refl s) (.bl _)⟩
  · cases e
def mIsdigit : Str → List D → Option D
  | a, [] => some (.bool (Txt.isdigit a))
  | _, _ => none
theorem mr_isdigit : MtR X "str.isdigit" (rMs X.K mIsdigit) := MtR.weaken mt_isdigit fun x xs H Q ⟨Hf, a, ds, d, s, ex, r, e, q⟩ => by
  unfold mIsdigit at e
  split at e
  · cases e
    cases r
    exact ⟨_, ex, rfl, trivial, q _ Hf H (.refl s) (.bl _)⟩
  · cases e
def mJoin : Str → List D → Option D
  | a, [.list ds] => (strsOf ds).bind fun ys => if (ys.map (·.length)).sum + ys.length * a.length ≤ 16777216 then some (.str (Txt.join a ys)) else none
  | a, [.tuple ds] => (strsOf ds).bind fun ys => if (ys.map (·.length)).sum + ys.length * a.length ≤ 16777216 then some (.str (Txt.join a ys)) else none
  | _, _ => none
theorem mr_join : MtR X "str.join" (rMs X.K mJoin) := MtR.weaken mt_join fun x xs H Q ⟨Hf, a, ds, d, s, ex, r, e, q⟩ => by
  unfold mJoin at e
  split at e
  · obtain ⟨ys, h, e⟩ := Option.bind_eq_some_iff.mp e
    split at e
    · cases e
      obtain rfl := strsOf_eq h
      obtain ⟨v, rfl, r1⟩ := r.one_inv
      obtain ⟨p, vs, rfl, h1, r2⟩ := r1.lst_inv
      obtain rfl := r2.strs_inv
      exact ⟨_, p, ys, ex, rfl, .inl (.inl (Same.rd s h1)), by assumption, q _ Hf H (.refl s) (.str _)⟩
    · cases e
  · obtain ⟨ys, h, e⟩ := Option.bind_eq_some_iff.mp e
    split at e
    · cases e
      obtain rfl := strsOf_eq h
      obtain ⟨v, rfl, r1⟩ := r.one_inv
      obtain ⟨p, vs, rfl, h1, r2⟩ := r1.tup_inv
      obtain rfl := r2.strs_inv
      exact ⟨_, p, ys, ex, rfl, .inr (Same.seqT s h1), by assumption, q _ Hf H (.refl s) (.str _)⟩
    · cases e
  · cases e
def mSplit : Str → List D → Option (List Str)
  | a, [.str b] => if (b.length == 0) = false ∧ a.length + 2 ≤ sizeLine then some (Txt.split a b) else none
  | a, [.str b, .int k] => if (b.length == 0) = false ∧ -(2 ^ 63) ≤ k ∧ k < 2 ^ 63 ∧ a.length + 2 ≤ sizeLine then some (Txt.splitMax a b k) else none
  | _, _ => none
theorem mr_split : MtR X "str.split" (rMl X.K mSplit) := MtR.weaken (mt_split.or mt_splitMax) fun x xs H Q ⟨Hf, a, ds, ys, s, ex, r, e, q⟩ => by
  unfold mSplit at e
  split at e
  · split at e
    · rename_i h
      cases e
      obtain ⟨v, rfl, r1⟩ := r.one_inv
      exact .inl ⟨_, _, ex, by rw [r1.str_inv], h.1, h.2, q⟩
    · cases e
  · split at e
    · rename_i h
      cases e
      obtain ⟨v, w, rfl, r1, r2⟩ := r.two_inv
      exact .inr ⟨_, _, _, ex, by rw [r1.str_inv, r2.int_inv], h.1, h.2.1, h.2.2.1, h.2.2.2, q⟩
    · cases e
  · cases e
/-! str(n), int(text) -/
def dStr : Rs → Option Rs
  | .val (.int i) => if i.natAbs.log2 < 1920 then some (.val (.str (Str.ofString (toString i)))) else none
  | _ => none
theorem cl_str : CallR X (.type "str") (rR1 X.K dStr) := CallR.weaken call_str_int fun vs H Q ⟨H0, Hf, v, r, d, e, s, ro, ef, q⟩ => by
  unfold dStr at ef
  split at ef
  · split at ef
    · rename_i h
      cases ef
      exact ⟨_, by rw [e, Rp.int_inv ro], h, q _ Hf H (.refl s) (.str _)⟩
    · cases ef
  · cases ef
def dIntS (r : Rs) : Option Rs := match r with
  | .val (.str a) => if a.length ≤ 640 then (intText? a).map fun n => .val (.int n) else none
  | _ => dInt r
theorem cl_intS : CallR X (.type "int") (rR1 X.K dIntS) := CallR.weaken (CallR.or cl_int call_int_str) fun vs H Q ⟨H0, Hf, v, r, d, e, s, ro, ef, q⟩ => by
  unfold dIntS at ef
  split at ef
  · split at ef
    · rename_i h
      obtain ⟨n, h1, rfl⟩ := Option.map_eq_some_iff.mp ef
      exact .inr ⟨_, n, by rw [e, Rp.str_inv ro], h1, h, q _ Hf H (.refl s) (.int _)⟩
    · cases ef
  · exact .inl ⟨H0, Hf, v, r, d, e, s, ro, ef, q⟩
/-! tuple(x) -/
def dTuple (r : Rs) : Option Rs := match lstOf r with
  | some ds => some (.val (.tuple ds))
  | none => match r with
    | .val (.tuple ds) => some (.val (.tuple ds))
    | _ => none
theorem cl_tuple : CallR X (.type "tuple") (rR1 X.K dTuple) := CallR.weaken call_tuple_of fun vs H Q ⟨H0, Hf, v, r, d, e, s, ro, ef, q⟩ => by
  subst e
  unfold dTuple at ef
  split at ef
  · cases ef
    rename_i ds hl
    obtain ⟨a, xs, rfl, h1, ra⟩ := lst_of ro s hl
    exact ⟨a, xs, rfl, .inl ⟨h1, fun p hp => q _ _ _ (.fresh s hp) (.tup (.of upd_same) (ra.mono (Same.new (s.free hp))))⟩⟩
  · split at ef
    · cases ef
      obtain ⟨a, xs, rfl, h1, ra⟩ := Rp.tup_inv ro
      exact ⟨a, xs, rfl, .inr ⟨Same.seqT s h1, q _ Hf H (.refl s) (.tup h1 ra)⟩⟩
    · cases ef
/-! f-strings -/
def dFmt : D → Option D
  | .str y => if y.length ≤ sizeLine then some (.str y) else none
  | .int i => if i.natAbs.log2 < 1920 then some (.str (Str.ofString (toString i))) else none
  | _ => none
theorem pv_fmt (ha : PE X a (tPv X.K ga)) : PE X (.FormattedValue a (-1) none pos) (tPv X.K (b1 dFmt ga)) := PE.weaken (pe_fmt ha) fun σ H Q ⟨H0, ρ, Hf, d, S, e, q⟩ => by
  obtain ⟨u, e1, e2⟩ := Option.bind_eq_some_iff.mp (show (ga ρ).bind dFmt = some d from e)
  refine ⟨H0, ρ, Hf, u, S, e1, fun v Hf1 H1 x1 r1 => ?_⟩
  unfold dFmt at e2
  split at e2
  · split at e2
    · cases e2
      exact .inl ⟨_, r1.str_inv, by assumption, q _ Hf1 H1 x1 (.str _)⟩
    · cases e2
  · split at e2
    · cases e2
      exact .inr ⟨_, r1.int_inv, by assumption, q _ Hf1 H1 x1 (.str _)⟩
    · cases e2
  · cases e2
def jsL : List (En → Option D) → Str → En → Option Str
  | [], acc, _ => some acc
  | g :: gs, acc, ρ => (g ρ).bind fun d => match d with
    | .str y => if (acc ++ y).length ≤ sizeLine then jsL gs (acc ++ y) ρ else none
    | _ => none
def gJs (gs : List (En → Option D)) : En → Option D := fun ρ => (jsL gs Str.empty ρ).map .str
theorem js_ok {K : PySem.W.Frag} {Q : Str → Hp → Prop} : ∀ (gs : List (En → Option D)) (acc : Str) {σ : L2.St} {H H0 Hf : Hp} {ρ : En} {z : Str}, StOk K H0 ρ σ Hf H → jsL gs acc ρ = some z → (∀ Hf' H', Ext Hf H Hf' H' → Q z H') → tJs (gs.map (tPv K)) acc σ H Q
  | [], acc, σ, H, H0, Hf, ρ, z, S, e, q => by
    cases e
    exact q Hf H (.refl S.sub)
  | g :: gs, acc, σ, H, H0, Hf, ρ, z, S, e, q => by
    obtain ⟨d, e1, e2⟩ := Option.bind_eq_some_iff.mp (show (g ρ).bind _ = some z from e)
    obtain ⟨y, rfl⟩ : ∃ y, d = PyData.str y := by cases d <;> first | exact ⟨_, rfl⟩ | cases e2
    have e3 : (if (acc ++ y).length ≤ sizeLine then jsL gs (acc ++ y) ρ else none) = some z := e2
    split at e3
    · rename_i h
      exact ⟨H0, ρ, Hf, _, S, e1, fun v Hf1 H1 x1 r1 => ⟨y, r1.str_inv, h, js_ok gs _ (S.ext x1) e3 fun Hf2 H2 x2 => q Hf2 H2 (x1.trans x2)⟩⟩
    · cases e3
theorem pv_js {v1 v2 : Expr} {rest : List Expr} {gs : List (En → Option D)} (h : PJ X (v1 :: v2 :: rest) (gs.map (tPv X.K))) : PE X (.JoinedStr (v1 :: v2 :: rest) pos) (tPv X.K (gJs gs)) := PE.weaken (pe_joined h) fun σ H Q ⟨H0, ρ, Hf, d, S, e, q⟩ => by
  obtain ⟨z, e1, rfl⟩ := Option.map_eq_some_iff.mp e
  exact js_ok gs _ S e1 fun Hf' H' x => q _ Hf' H' x (.str z)
theorem pj_cons {es : List Expr} {gs : List (En → Option D)} (ha : PE X a (tPv X.K ga)) (h : PJ X es (gs.map (tPv X.K))) : PJ X (a :: es) ((ga :: gs).map (tPv X.K)) := .cons ha h
theorem pj_nil : PJ X [] (([] : List (En → Option D)).map (tPv X.K)) := .nil
/-! a text, sign by sign -/
def signs (z : Str) : List D := z.cps.toList.map fun c => .str ⟨#[c]⟩
def gItemsS (g : En → Option D) : En → Option (List D) := fun ρ => (g ρ).bind fun d => match d with
  | .str z => some (signs z)
  | .list ds => some ds
  | .tuple ds => some ds
  | .dict [(.list ds, .none)] => some ds
  | _ => none
theorem wk_signs {K : PySem.W.Frag} {Hf : Hp} (z : Str) : Wk K Hf (Its z) (signs z) where
  go i H s hi := by simpa [signs, Its] using hi
  stop i H s hi := by simpa [signs, Its] using hi
  yld i H v H' Hf1 d s1 s2 y e := by
    obtain ⟨rfl, c, h, rfl⟩ := y
    refine ⟨Hf1, .refl s2, ?_⟩
    simp only [signs, List.getElem?_map, Array.getElem?_toList, h, Option.map_some, Option.some.injEq] at e
    subst e
    exact .str _
theorem qi_lts {tg l : Expr} (h : PE X l (tPv X.K ga)) : PI X tg l (tPi X.K (gItemsS ga)) :=
  PI.weaken (PI.or (PI.or (pi_list h) (pi_tup h)) (pi_str h)) fun σ H R ⟨H0, ρ, Hf, ds, S, e, q⟩ => by
    obtain ⟨d, e1, e⟩ := Option.bind_eq_some_iff.mp e
    split at e
    · cases e
      refine .inr ⟨H0, ρ, Hf, _, S, e1, fun v Hf1 H1 x1 r1 => ?_⟩
      exact ⟨_, r1.str_inv, q _ Hf1 H1 x1 (wk_signs _)⟩
    · cases e
      refine .inl (.inl ⟨H0, ρ, Hf, _, S, e1, fun v Hf1 H1 x1 r1 => ?_⟩)
      obtain ⟨a, xs, rfl, h1, ra⟩ := r1.lst_inv
      exact ⟨a, rfl, ⟨xs, x1.sub.seq (.inl h1)⟩, q _ Hf1 H1 x1 (wk_list' (.inl h1) ra)⟩
    · cases e
      refine .inl (.inr ⟨H0, ρ, Hf, _, S, e1, fun v Hf1 H1 x1 r1 => ?_⟩)
      obtain ⟨a, xs, rfl, h1, ra⟩ := r1.tup_inv
      exact ⟨a, rfl, ⟨xs, Same.seqT x1.sub h1⟩, q _ Hf1 H1 x1 (wk_tup h1 ra)⟩
    · cases e
      refine .inl (.inl ⟨H0, ρ, Hf, _, S, e1, fun v Hf1 H1 x1 r1 => ?_⟩)
      obtain ⟨a, xs, rfl, h1, ra⟩ := Rp.scr_inv r1 rfl
      exact ⟨a, rfl, ⟨xs, x1.sub.seq h1⟩, q _ Hf1 H1 x1 (wk_list' h1 ra)⟩
    · cases e
/-! text times number -/
def repS (z : Str) (n : Nat) : Str := ⟨(List.replicate n z.cps).foldl (· ++ ·) #[]⟩
theorem repS_size (a : Array Nat) : ∀ (n : Nat) (acc : Array Nat), ((List.replicate n a).foldl (· ++ ·) acc).size = acc.size + n * a.size
  | 0, acc => by simp
  | n + 1, acc => by
    rw [List.replicate_succ, List.foldl_cons, repS_size a n, Array.size_append, Nat.succ_mul]
    omega
theorem repS_len (z : Str) (n : Nat) : (repS z n).length = n * z.length := by
  show ((List.replicate n z.cps).foldl (· ++ ·) #[]).size = _
  rw [repS_size]
  simp [Str.length]
def dMulS : D → D → Option D
  | .str z, .int n => if 2 ≤ n ∧ n ≤ 100000 ∧ 1 ≤ z.length ∧ z.length ≤ 100 then some (.str (repS z n.toNat)) else none
  | a, b => dMul a b
theorem op_mul_text : OpR X (binaryOp .Mult) (fun x y H Q => ∃ (z : Str) (n : Int), x = .str z ∧ y = .int n ∧ (2 ≤ n ∧ n ≤ 100000 ∧ 1 ≤ z.length ∧ z.length ≤ 100) ∧ Q (.str (repS z n.toNat)) H) := fun pins s σ H x y v u Q I rx ry ⟨z, n, e1, e2, ⟨h1, h2, h3, h4⟩, q⟩ => by
  subst e1 e2
  obtain ⟨t, rfl⟩ := rx
  obtain ⟨t', rfl⟩ := ry
  have h5 : z.length * n.toNat ≤ 100 * 100000 := Nat.mul_le_mul h4 (by omega)
  refine P.mul_str (by simp; omega) (fun _ _ => ?_) (fun _ _ => ?_) ?_
  · have : (100 : Int) ≤ (2 ^ 63 - 1) / n := by
      rw [Int.le_ediv_iff_mul_le (by omega)]
      omega
    omega
  · unfold Builtin.Str.tooLong sizeLine
    simp
    omega
  · rw [if_neg (by omega), if_neg (by simp; omega)]
    refine ⟨?_, .str (repS z n.toNat), H, I.tok _, ⟨_, rfl⟩, q⟩
    show (repS z n.toNat).length ≤ sizeLine
    rw [repS_len, Nat.mul_comm]
    unfold sizeLine
    omega
theorem or_mulS : OpR X (binaryOp .Mult) (rPv2 X.K dMulS) := OpR.weaken (op_mul_text.or or_mul) fun x y H Q ⟨Hf, a, b, d, s, ra, rb, e, q⟩ => by
  unfold dMulS at e
  split at e
  · split at e
    · rename_i h
      cases e
      exact .inl ⟨_, _, ra.str_inv, rb.int_inv, h, q _ Hf H (.refl s) (.str _)⟩
    · cases e
  · exact .inr ⟨Hf, _, _, d, s, ra, rb, e, q⟩
/-! an empty dict -/
def gDict0 : En → Option D := fun _ => some (.dict [])
theorem pv_dict0 : PE X (.Dict [] [] pos) (tPv X.K gDict0) := PE.weaken pe_dnewK fun σ H Q ⟨H0, ρ, Hf, d, S, e, q⟩ => by
  cases e
  exact fun p hp => q _ _ _ (.fresh S.sub hp) (.dct upd_same .nil)
/-! max, min of a list of numbers -/
def intsOf : List D → Option (List Int)
  | [] => some []
  | .int a :: r => (intsOf r).map (a :: ·)
  | _ => none
theorem intsOf_eq : ∀ {ds : List D} {ys : List Int}, intsOf ds = some ys → ds = ys.map PyData.int
  | [], ys, h => by cases h; rfl
  | d :: r, ys, h => by
    cases d <;> first | (simp only [intsOf] at h; cases h) | skip
    rename_i a
    obtain ⟨zs, h1, rfl⟩ := Option.map_eq_some_iff.mp h
    rw [intsOf_eq h1]
    rfl
theorem intsOf_map : ∀ ys : List Int, intsOf (ys.map PyData.int) = some ys
  | [] => rfl
  | y :: ys => by simp [intsOf, intsOf_map ys]
def dMaxL (r : Rs) : Option Rs := (lstOf r).bind fun ds => (intsOf ds).bind fun ns => match ns with
  | [] => none
  | n :: ns => some (.val (.int (ns.foldl max n)))
def dMinL (r : Rs) : Option Rs := (lstOf r).bind fun ds => (intsOf ds).bind fun ns => match ns with
  | [] => none
  | n :: ns => some (.val (.int (ns.foldl min n)))
theorem foldl_max_le : ∀ (ns : List Int) (n : Int), n ≤ ns.foldl max n ∧ (∀ y ∈ ns, y ≤ ns.foldl max n) ∧ (ns.foldl max n = n ∨ ns.foldl max n ∈ ns)
  | [], n => ⟨Int.le_refl _, fun y (h : y ∈ []) => absurd h (by simp), Or.inl rfl⟩
  | a :: ns, n => by
    obtain ⟨h1, h2, h3⟩ := foldl_max_le ns (max n a)
    rw [List.foldl_cons]
    refine ⟨by omega, fun y hy => ?_, ?_⟩
    · rcases List.mem_cons.mp hy with rfl | hy
      · omega
      · exact h2 y hy
    · rcases h3 with h3 | h3
      · rw [h3]
        by_cases h : n ≤ a
        · rw [Int.max_eq_right h]; exact .inr (by simp)
        · rw [Int.max_eq_left (by omega)]; exact .inl rfl
      · exact .inr (List.mem_cons_of_mem _ h3)
theorem foldl_min_le : ∀ (ns : List Int) (n : Int), ns.foldl min n ≤ n ∧ (∀ y ∈ ns, ns.foldl min n ≤ y) ∧ (ns.foldl min n = n ∨ ns.foldl min n ∈ ns)
  | [], n => ⟨Int.le_refl _, fun y (h : y ∈ []) => absurd h (by simp), Or.inl rfl⟩
  | a :: ns, n => by
    obtain ⟨h1, h2, h3⟩ := foldl_min_le ns (min n a)
    rw [List.foldl_cons]
    refine ⟨by omega, fun y hy => ?_, ?_⟩
    · rcases List.mem_cons.mp hy with rfl | hy
      · omega
      · exact h2 y hy
    · rcases h3 with h3 | h3
      · rw [h3]
        by_cases h : n ≤ a
        · rw [Int.min_eq_left h]; exact .inl rfl
        · rw [Int.min_eq_right (by omega)]; exact .inr (by simp)
      · exact .inr (List.mem_cons_of_mem _ h3)
theorem cl_maxL (hc : X.calm = true) : CallR X (.builtin "max") (rR1 X.K dMaxL) := CallR.weaken (cr_max hc) fun vs H Q ⟨H0, Hf, v, r, d, e, s, ro, ef, q⟩ => by
  subst e
  obtain ⟨ds, hl, ef1⟩ := Option.bind_eq_some_iff.mp ef
  obtain ⟨ns, hn, ef2⟩ := Option.bind_eq_some_iff.mp ef1
  clear ef ef1
  have hds := intsOf_eq hn
  subst hds
  obtain ⟨a, xs, rfl, h1, ra⟩ := lst_of ro s hl
  rw [ra.ints_inv] at h1
  cases ns with
  | nil => cases ef2
  | cons n ns =>
    cases ef2
    refine ⟨a, n :: ns, rfl, h1, by simp, fun m hm hy => ?_⟩
    obtain ⟨k1, k2, k3⟩ := foldl_max_le ns n
    have e : m = ns.foldl max n := by
      have h2 : m ≤ ns.foldl max n := by rcases List.mem_cons.mp hm with rfl | hm; exact k1; exact k2 m hm
      have h3 : ns.foldl max n ≤ m := by rcases k3 with k3 | k3; rw [k3]; exact hy n (by simp); exact hy _ (List.mem_cons_of_mem _ k3)
      omega
    rw [e]
    exact q _ Hf H (.refl s) (.int _)
theorem cl_minL (hc : X.calm = true) : CallR X (.builtin "min") (rR1 X.K dMinL) := CallR.weaken (cr_min hc) fun vs H Q ⟨H0, Hf, v, r, d, e, s, ro, ef, q⟩ => by
  subst e
  obtain ⟨ds, hl, ef1⟩ := Option.bind_eq_some_iff.mp ef
  obtain ⟨ns, hn, ef2⟩ := Option.bind_eq_some_iff.mp ef1
  clear ef ef1
  have hds := intsOf_eq hn
  subst hds
  obtain ⟨a, xs, rfl, h1, ra⟩ := lst_of ro s hl
  rw [ra.ints_inv] at h1
  cases ns with
  | nil => cases ef2
  | cons n ns =>
    cases ef2
    refine ⟨a, n :: ns, rfl, h1, by simp, fun m hm hy => ?_⟩
    obtain ⟨k1, k2, k3⟩ := foldl_min_le ns n
    have e : m = ns.foldl min n := by
      have h2 : ns.foldl min n ≤ m := by rcases List.mem_cons.mp hm with rfl | hm; exact k1; exact k2 m hm
      have h3 : m ≤ ns.foldl min n := by rcases k3 with k3 | k3; rw [k3]; exact hy n (by simp); exact hy _ (List.mem_cons_of_mem _ k3)
      omega
    rw [e]
    exact q _ Hf H (.refl s) (.int _)
/-! x.index(y), x a list at any depth -/
def dIndex (ds : List D) (d : D) : Option D := if SeqAt.shaped d = true ∧ SeqAt.shaped (.list ds) = true then (ds.findIdx? fun z => PyData.eqv z d).map fun j => .int (j : Nat) else none
def gIndex (g gk : En → Option D) : En → Option D := fun ρ => (g ρ).bind fun l => (gk ρ).bind fun d => match l with
  | .list ds => dIndex ds d
  | _ => none
theorem pv_index {o k : Expr} {apos cpos : Pos} {gk : En → Option D} (ho : PE X o (tPv X.K ga)) (hk : PE X k (tPv X.K gk)) (h : ∀ {tx te : TE}, PE X o tx → PE X k te → PE X (.Call (.Attribute o "index" apos) [k] [] cpos) (tBM X.K "list" (rIndexD X.K) tx (tCons te tNil))) :
    PE X (.Call (.Attribute o "index" apos) [k] [] cpos) (tPv X.K (gIndex ga gk)) :=
  PE.weaken (h ho hk) fun σ H Q ⟨H0, ρ, Hf, r, S, e, q⟩ => by
    obtain ⟨l, e1, e⟩ := Option.bind_eq_some_iff.mp e
    obtain ⟨d, e2, e⟩ := Option.bind_eq_some_iff.mp e
    obtain ⟨ds, rfl⟩ : ∃ ds, l = PyData.list ds := by cases l <;> first | exact ⟨_, rfl⟩ | cases e
    have e : dIndex ds d = some r := e
    unfold dIndex at e
    split at e
    · rename_i hs
      obtain ⟨j, h1, rfl⟩ := Option.map_eq_some_iff.mp e
      obtain ⟨hj, h2, h3⟩ := List.findIdx?_eq_some_iff_getElem.mp h1
      refine ⟨H0, ρ, Hf, _, S, e1, fun v Hf1 H1 x1 r1 => ?_⟩
      obtain ⟨a, xs, rfl, g1, ra⟩ := r1.lst_inv'
      refine ⟨.inl ⟨rfl, xs, .of (x1.sub _ _ g1)⟩, H0, ρ, Hf1, d, S.ext x1, e2, fun y Hf2 H2 x2 r2 => ?_⟩
      have r1' := (r1.mono x2.fro).mono x2.sub
      refine ⟨a, y, d, ds, j, ds[j], rfl, rfl, dp_of r1' hs.2, dp_of (r2.mono x2.sub) hs.1, hs.2, hs.1, List.getElem?_eq_getElem hj, h2, fun m z' hm hz => ?_, q _ Hf2 H2 (x1.trans x2) (.int _)⟩
      have := h3 m hm
      obtain ⟨h4, rfl⟩ := List.getElem?_eq_some_iff.mp hz
      simpa using this
    · cases e
/-! x.extend(y) -/
def lstN : Rs → Option (List D)
  | .val (.list ds) => some ds
  | .view ds => some ds
  | .new ds => some ds
  | _ => none
theorem lstN_of {K : PySem.W.Frag} {H0 Hf H : Hp} {v : V} {r : Rs} {ds : List D} (h : RsOk K H0 Hf H v r) (s : Same Hf H) (e : lstN r = some ds) : ∃ a xs, v = .ref a ∧ H a = some (.lst xs) ∧ RpAll K Hf xs ds := by
  unfold lstN at e
  split at e
  · cases e
    obtain ⟨a, xs, rfl, h1, q⟩ := Rp.lst_inv' h
    exact ⟨a, xs, rfl, s _ _ h1, q⟩
  · cases e
    obtain ⟨a, vs, rfl, h1, q⟩ := h
    exact ⟨a, vs, rfl, h1, q⟩
  · cases e
    obtain ⟨a, vs, rfl, _, h1, _, q⟩ := h
    exact ⟨a, vs, rfl, h1, q⟩
  · cases e
def rExtL (i : Nat) (g : En → Option Rs) : En → Option Out := fun ρ => (ownAt i ρ).bind fun ds => (g ρ).bind fun r => (lstN r).bind fun es => if ds.length + es.length ≤ sizeLine then some (.nx (ρ.set i (.own (ds ++ es)))) else none
theorem qs_extend {i : Nat} {x : Expr} {apos cpos : Pos} {g : En → Option Rs} (hx : PE X x (tVar i)) (he : PE X e (tPu X.K g)) (h : ∀ {tx te : TE}, PE X x tx → PE X e te → PE X (.Call (.Attribute x "extend" apos) [e] [] cpos) (tBM X.K "list" rExtend tx (tCons te tNil)))
    (hs : swapsWith (.Call (.Attribute x "extend" apos) [e] [] cpos) none pos.line X.env = pure false := by rfl) : PS X (.Expr (.Call (.Attribute x "extend" apos) [e] [] cpos) pos) (tPs X.K (rExtL i g)) :=
  PS.weaken (ps_expr (h hx he) hs) fun D σ H ⟨Hf0, H0, ρ, Hf, o, F, e, p⟩ => by
    obtain ⟨ds, e1, e⟩ := Option.bind_eq_some_iff.mp e
    obtain ⟨r0, e2, e⟩ := Option.bind_eq_some_iff.mp e
    obtain ⟨es, e3, e⟩ := Option.bind_eq_some_iff.mp e
    have e1 := ownAt_some e1
    split at e
    · rename_i hl
      cases e
      obtain ⟨o, f, a, vs, rfl, h0, h1, h2, r⟩ := F.st.at_ i _ e1
      refine ⟨.ref a, f, .inl ⟨rfl, _, .of h1⟩, H0, ρ, Hf, r0, F.st, e2, fun v Hf' H' x q => ?_⟩
      obtain ⟨b, zs, rfl, g1, rz⟩ := lstN_of q x.sub e3
      refine ⟨a, b, vs, zs, rfl, rfl, x.all _ _ h1, g1, by rw [r.length, rz.length]; exact hl, ?_⟩
      exact p σ Hf' _ ((F.step x).mut e1 f h0 (x.keep _ _ h1 h2) ((r.mono x.fro).append rz)) x.fro
    · cases e
theorem bt_range : bootBuiltins "range" = some (.type "range") := by decide +kernel
theorem bt_repr : bootBuiltins "repr" = some (.builtin "repr") := by decide +kernel
/-! list(range(n)) -/
theorem cr_rng1 : CallR X (.type "range") (fun vs H Q => ∃ n, vs = [.int n] ∧ ∀ p, H p = none → Q (.ref p) (upd H p (.rng 0 n))) := fun pins s σ H vs us Q I r ⟨n, e, q⟩ => by
  subst e
  cases r with
  | cons rv nl =>
    cases nl
    obtain ⟨t, rfl⟩ := rv
    exact call_range_1 ⟨.ref _, upd H _ (.rng 0 n), I.laid (fun b o e => Heap.get?_push_of_some _ e) (Nat.le_refl _) ⟨_, _, _, Heap.get?_push_size _ rfl⟩, rfl, q _ (I.hok.fresh (Nat.le_refl _))⟩
theorem vals_rng : ∀ (n : Nat) (k : Nat) (vs : List Value), vs.length = n → (∀ j v, vs[j]? = some v → ∃ t, v = Value.int ((k + j : Nat) : Int) t) → Vals (((List.range' k n).map fun i : Nat => (i : Int)).map V.int) vs
  | 0, k, vs, h, _ => by
    obtain rfl := List.length_eq_zero_iff.mp h
    exact .nil
  | n + 1, k, v :: vs, h, hv => by
    rw [List.range'_succ, List.map_cons, List.map_cons]
    obtain ⟨t, e⟩ := hv 0 v rfl
    refine .cons ⟨t, e⟩ (vals_rng n (k + 1) vs (by simpa using h) fun j v e => ?_)
    obtain ⟨t, e⟩ := hv (j + 1) v e
    exact ⟨t, by rw [e]; congr 1; omega⟩
theorem cr_listRng (hc : X.calm = true) : CallR X (.type "list") (fun vs H Q => ∃ (r : Addr) (n : Nat), vs = [.ref r] ∧ H r = some (.rng 0 n) ∧ n ≤ 1000000 ∧ ∀ p, H p = none → Q (.ref p) (upd H p (.lst (((List.range n).map fun i : Nat => (i : Int)).map V.int)))) := fun pins s σ H vs us Q I rv ⟨r, n, e, h, hn, q⟩ => by
  subst e
  rw [Vals.ref1 rv]
  obtain ⟨t, u, v, hr⟩ := I.hok r _ h
  have sz : Builtin.Range.rangeSize 0 n 1 = n := by
    unfold Builtin.Range.rangeSize
    simp
    omega
  refine call_list_range (I.ok.hd hc) hr (by unfold Builtin.Range.small; rw [sz]; simp [Builtin.Range.rangeFitsLong]; omega) sz (by omega) fun h' tk acc' c' k1 k2 k3 => ?_
  have hv : Vals (((List.range n).map fun i : Nat => (i : Int)).map V.int) acc'.toList := by
    rw [List.range_eq_range']
    refine vals_rng n 0 acc'.toList (by simpa using k3.1) fun j v e => ?_
    obtain ⟨t, e⟩ := k3.2 j v (by simpa using e)
    exact ⟨t, by rw [e]; congr 1; omega⟩
  exact ⟨.ref _, upd H s.heap.objs.size (.lst (((List.range n).map fun i : Nat => (i : Int)).map V.int)), I.laid k1 (Nat.le_refl _) ⟨by simp; unfold sizeLine; omega, acc'.toList, c', hv, k2⟩, rfl, q _ (I.hok.fresh (Nat.le_refl _))⟩
def ratD (n : Nat) : List D := (List.range n).map fun i : Nat => .int i
def gListRg (g : En → Option D) : En → Option Rs := fun ρ => (g ρ).bind fun d => match d with
  | .int n => if 0 ≤ n ∧ n ≤ 1000000 then some (.new (ratD n.toNat)) else none
  | _ => none
theorem pu_listRg (hc : X.calm = true) (hg : Gl X "list") (hm : X.mg "list" = none) (hv : bootBuiltins "list" = some (.type "list")) (hg2 : Gl X "range") (hm2 : X.mg "range" = none) (hv2 : bootBuiltins "range" = some (.type "range")) {p p2 pos2 : Pos} (ha : PE X a (tPv X.K ga))
    (h1 : starEach [a] X.env = [(false, eval a X.env)] := by rfl) (h2 : starEach [Expr.Call (.Name "range" p2) [a] [] pos2] X.env = [(false, eval (Expr.Call (.Name "range" p2) [a] [] pos2) X.env)] := by rfl) (h3 : (backTo pos2 (starEach [] X.env)).any (·.1) = false := by rfl) (h4 : (backTo pos (starEach [] X.env)).any (·.1) = false := by rfl) :
    PE X (.Call (.Name "list" p) [.Call (.Name "range" p2) [a] [] pos2] [] pos) (tPu X.K (gListRg ga)) :=
  PE.weaken (pe_callTy (cr_listRng hc) hg hm hv (pa_cons (pe_callTy cr_rng1 hg2 hm2 hv2 (pa_cons ha pa_nil h1) (by decide) (by decide) h1 h3) pa_nil h2) (by decide) (by decide) h2 h4) fun σ H Q ⟨H0, ρ, Hf, r, S, e, q⟩ => by
    obtain ⟨d, e1, e⟩ := Option.bind_eq_some_iff.mp e
    split at e
    · rename_i n
      split at e
      · rename_i hn
        cases e
        refine ⟨H0, ρ, Hf, _, S, e1, fun v Hf1 H1 x1 r1 => ⟨n, by rw [r1.int_inv], fun p hp => ⟨p, n.toNat, rfl, by rw [upd_same]; congr; omega, by omega, fun p' hp' => ?_⟩⟩⟩
        have ne : p' ≠ p := fun z => by rw [z, upd_same] at hp'; cases hp'
        have hp2 : H1 p' = none := by rwa [upd_ne ne] at hp'
        refine q _ Hf1 _ ((x1.trans (.loose x1.sub hp)).trans (.loose (Same.trans x1.sub (Same.new hp)) hp')) ⟨p', _, rfl, x1.all.free hp2, upd_same, x1.sub.free hp2, ?_⟩
        have h := RpAll.ints (K := X.K) (H := Hf1) ((List.range n.toNat).map fun i : Nat => (i : Int))
        rw [List.map_map (g := PyData.int)] at h
        exact h
      · cases e
    · cases e
end
end Pu

namespace Pu
open PySem PySem.Spec PyProof PyProof.Rows L2
variable [FnTab]
/-! ### readings with effects: a list that is passed and changed, exceptions -/
inductive Rz (α : Type) where
  | ok (a : α) (ρ : En)
  | ex (x : Nat) (ρ : En)
def NotOwn (ρ : En) (σ : L2.St) (b : Addr) : Prop := ∀ (i : Nat) (ds : List D), ρ[i]? = some (.own ds) → σ[i]? ≠ some (some (.ref b))
structure Xq (ρ : En) (σ : L2.St) (Hf H : Hp) (ρ' : En) (Hf' H' : Hp) : Prop where
  fro : Same Hf Hf'
  oth : ∀ b o, H b = some o → NotOwn ρ σ b → H' b = some o ∧ (Hf b = none → Hf' b = none)
  own : ∀ b, NotOwn ρ σ b ↔ NotOwn ρ' σ b
theorem Xq.refl {ρ : En} {σ : L2.St} {Hf H : Hp} : Xq ρ σ Hf H ρ Hf H := ⟨Same.refl _, fun b o h _ => ⟨h, id⟩, fun _ => .rfl⟩
theorem Xq.trans {ρ ρ1 ρ2 : En} {σ : L2.St} {Hf H Hf1 H1 Hf2 H2 : Hp} (a : Xq ρ σ Hf H ρ1 Hf1 H1) (b : Xq ρ1 σ Hf1 H1 ρ2 Hf2 H2) : Xq ρ σ Hf H ρ2 Hf2 H2 :=
  ⟨a.fro.trans b.fro, fun c o h n => by
    obtain ⟨h1, k1⟩ := a.oth c o h n
    obtain ⟨h2, k2⟩ := b.oth c o h1 ((a.own c).mp n)
    exact ⟨h2, fun z => k2 (k1 z)⟩, fun c => (a.own c).trans (b.own c)⟩
theorem Xq.of {ρ : En} {σ : L2.St} {Hf H Hf' H' : Hp} (x : Ext Hf H Hf' H') : Xq ρ σ Hf H ρ Hf' H' := ⟨x.fro, fun b o h _ => ⟨x.all b o h, x.keep b o h⟩, fun _ => .rfl⟩
/-- the class number x, as a value -/
def XRep (x : Nat) (cls : Value) (d : Option Addr) : Prop := d = none ∧ ∃ a, FnTab.tab x = some a ∧ cls = .ref a
def PostE (K : PySem.W.Frag) (W : WX) (H0 : Hp) (ρ : En) (σ : L2.St) (Hf H : Hp) {α : Type} (P : α → En → Hp → Hp → Prop) : Rz α → Prop
  | .ok a ρ' => ∀ Hf' H', StOk K H0 ρ' σ Hf' H' → Xq ρ σ Hf H ρ' Hf' H' → P a ρ' Hf' H'
  | .ex x ρ' => ∀ cls dd Hf' H', StOk K H0 ρ' σ Hf' H' → Xq ρ σ Hf H ρ' Hf' H' → XRep x cls dd → W cls dd σ H'
def qb {α β : Type} (g : En → Option (Rz α)) (k : α → En → Option (Rz β)) : En → Option (Rz β) := fun ρ => (g ρ).bind fun r => match r with
  | .ok a ρ' => k a ρ'
  | .ex x ρ' => some (.ex x ρ')
def up {α : Type} (g : En → Option α) : En → Option (Rz α) := fun ρ => (g ρ).map fun a => .ok a ρ
def upc {α : Type} (o : Option α) : En → Option (Rz α) := fun ρ => o.map fun a => .ok a ρ
section
variable {K : PySem.W.Frag} {W : WX} {H0 Hf H Hf1 H1 : Hp} {ρ ρ1 : En} {σ : L2.St} {α β : Type} {P : β → En → Hp → Hp → Prop} {Pa : α → En → Hp → Hp → Prop}
theorem PostE.imp {P' : α → En → Hp → Hp → Prop} {r : Rz α} (h : PostE K W H0 ρ σ Hf H Pa r) (w : ∀ a ρ' Hf' H', StOk K H0 ρ' σ Hf' H' → Xq ρ σ Hf H ρ' Hf' H' → Pa a ρ' Hf' H' → P' a ρ' Hf' H') : PostE K W H0 ρ σ Hf H P' r := by
  cases r with
  | ok a ρ' => exact fun Hf' H' S X => w a ρ' Hf' H' S X (h Hf' H' S X)
  | ex x ρ' => exact h
theorem PostE.later {r : Rz β} (h : PostE K W H0 ρ σ Hf H P r) (X : Xq ρ σ Hf H ρ1 Hf1 H1) : PostE K W H0 ρ1 σ Hf1 H1 P r := by
  cases r with
  | ok a ρ' => exact fun Hf' H' S X' => h Hf' H' S (X.trans X')
  | ex x ρ' => exact fun c d Hf' H' S X' => h c d Hf' H' S (X.trans X')
theorem PostE.bind {g : En → Option (Rz α)} {k : α → En → Option (Rz β)} {r : Rz β} (h : PostE K W H0 ρ σ Hf H P r) (e : qb g k ρ = some r) :
    ∃ r1, g ρ = some r1 ∧ PostE K W H0 ρ σ Hf H (fun a ρ1 Hf1 H1 => k a ρ1 = some r ∧ PostE K W H0 ρ1 σ Hf1 H1 P r) r1 := by
  obtain ⟨r1, e1, e2⟩ := Option.bind_eq_some_iff.mp e
  refine ⟨r1, e1, ?_⟩
  cases r1 with
  | ok a ρ1 => exact fun Hf' H' S X => ⟨e2, h.later X⟩
  | ex x ρ1 => cases e2; exact h
theorem PostE.up {g : En → Option β} {r : Rz β} (h : PostE K W H0 ρ σ Hf H P r) (e : Pu.up g ρ = some r) (S : StOk K H0 ρ σ Hf H) : ∃ b, g ρ = some b ∧ ∀ Hf' H', Ext Hf H Hf' H' → P b ρ Hf' H' := by
  obtain ⟨b, e1, rfl⟩ := Option.map_eq_some_iff.mp e
  exact ⟨b, e1, fun Hf' H' x => h Hf' H' (S.ext x) (.of x)⟩
theorem PostE.upc {o : Option β} {r : Rz β} (h : PostE K W H0 ρ σ Hf H P r) (e : Pu.upc o ρ = some r) (S : StOk K H0 ρ σ Hf H) : ∃ b, o = some b ∧ ∀ Hf' H', Ext Hf H Hf' H' → P b ρ Hf' H' := by
  obtain ⟨b, e1, rfl⟩ := Option.map_eq_some_iff.mp e
  exact ⟨b, e1, fun Hf' H' x => h Hf' H' (S.ext x) (.of x)⟩
end
def tQv (K : PySem.W.Frag) (W : WX) (g : En → Option (Rz D)) : TE := fun σ H Q => ∃ H0 ρ Hf r, StOk K H0 ρ σ Hf H ∧ g ρ = some r ∧ PostE K W H0 ρ σ Hf H (fun d _ Hf' H' => ∀ v, Rp K Hf' v d → Q v H') r
def tQa (K : PySem.W.Frag) (W : WX) (g : En → Option (Rz (List D))) : TA := fun σ H Q => ∃ H0 ρ Hf r, StOk K H0 ρ σ Hf H ∧ g ρ = some r ∧ PostE K W H0 ρ σ Hf H (fun ds _ Hf' H' => ∀ vs, RpAll K Hf' vs ds → Q vs H') r
def tQt (K : PySem.W.Frag) (W : WX) (g : En → Option (Rz Bool)) : TT := fun σ H Q => ∃ H0 ρ Hf r, StOk K H0 ρ σ Hf H ∧ g ρ = some r ∧ PostE K W H0 ρ σ Hf H (fun b _ Hf' H' => Q b H') r
def tQi (K : PySem.W.Frag) (W : WX) (g : En → Option (Rz (List D))) : TI := fun σ H R => ∃ H0 ρ Hf r, StOk K H0 ρ σ Hf H ∧ g ρ = some r ∧ PostE K W H0 ρ σ Hf H (fun ds _ Hf' H' => ∀ J, Wk K Hf' J ds → R J H') r
section
variable {X : Cx} {W : WX} {e a b : Expr} {es : List Expr} {pos : Pos} {ga gb : En → Option (Rz D)} {gs : En → Option (Rz (List D))} {g : En → Option D}
theorem qv_up (h : PE X e (tPv X.K g)) : PE X e (tQv X.K W (up g)) := PE.weaken h fun σ H Q ⟨H0, ρ, Hf, r, S, e, p⟩ => by
  obtain ⟨d, e1, q⟩ := p.up e S
  exact ⟨H0, ρ, Hf, d, S, e1, fun v Hf' H' x r => q Hf' H' x v r⟩
theorem qt_up {t : En → Option Bool} {c : Expr} (h : PT X c (tPt X.K t)) : PT X c (tQt X.K W (up t)) := PT.weaken h fun σ H Q ⟨H0, ρ, Hf, r, S, e, p⟩ => by
  obtain ⟨d, e1, q⟩ := p.up e S
  exact ⟨H0, ρ, Hf, d, S, e1, fun Hf' H' x => q Hf' H' x⟩
theorem qa_up {gs : En → Option (List D)} (h : PA X es (tPa X.K gs)) : PA X es (tQa X.K W (up gs)) := PA.weaken h fun σ H Q ⟨H0, ρ, Hf, r, S, e, p⟩ => by
  obtain ⟨d, e1, q⟩ := p.up e S
  exact ⟨H0, ρ, Hf, d, S, e1, fun v Hf' H' x r => q Hf' H' x v r⟩
theorem qi_up {tg l : Expr} {gi : En → Option (List D)} (h : PI X tg l (tPi X.K gi)) : PI X tg l (tQi X.K W (up gi)) := PI.weaken h fun σ H Q ⟨H0, ρ, Hf, r, S, e, p⟩ => by
  obtain ⟨d, e1, q⟩ := p.up e S
  exact ⟨H0, ρ, Hf, d, S, e1, fun v Hf' H' x r => q Hf' H' x v r⟩
/-! two values -/
def b2Q (f : D → D → Option D) (ga gb : En → Option (Rz D)) : En → Option (Rz D) := qb ga fun a => qb gb fun b => upc (f a b)
theorem tOp_qv {f : D → D → Option D} {σ : L2.St} {H : Hp} {Q : VK} (h : tQv X.K W (b2Q f ga gb) σ H Q) : tOp (rPv2 X.K f) (tQv X.K W ga) (tQv X.K W gb) σ H Q := by
  obtain ⟨H0, ρ, Hf, r, S, e, p⟩ := h
  obtain ⟨r1, e1, p1⟩ := p.bind e
  refine ⟨H0, ρ, Hf, r1, S, e1, p1.imp fun a ρ1 Hf1 H1 S1 X1 ⟨e2, p2⟩ v1 rv1 => ?_⟩
  obtain ⟨r2, e3, p3⟩ := p2.bind e2
  refine ⟨H0, ρ1, Hf1, r2, S1, e3, p3.imp fun b ρ2 Hf2 H2 S2 X2 ⟨e4, p4⟩ v2 rv2 => ?_⟩
  obtain ⟨d, e5, q⟩ := p4.upc e4 S2
  exact ⟨Hf2, a, b, d, S2.sub, rv1.mono X2.fro, rv2, e5, fun v Hf3 H3 x rv => q Hf3 H3 x v rv⟩
theorem qv_op {op : Operator} {f : D → D → Option D} (ho : OpR X (binaryOp op) (rPv2 X.K f)) (ha : PE X a (tQv X.K W ga)) (hb : PE X b (tQv X.K W gb)) : PE X (.BinOp a op b pos) (tQv X.K W (b2Q f ga gb)) :=
  PE.weaken (pe_op ho ha hb) fun _ _ _ h => tOp_qv h
theorem qv_cmp {op : CmpOp} {f : D → D → Option D} (ho : OpR X (compareOp op) (rPv2 X.K f)) (ha : PE X a (tQv X.K W ga)) (hb : PE X b (tQv X.K W gb)) (hm : behindInMarks op b = false) : PE X (.Compare a [op] [b] pos) (tQv X.K W (b2Q f ga gb)) :=
  PE.weaken (pe_cmpR ho ha hb hm) fun _ _ _ h => tOp_qv h
theorem or_eq (hu : X.A.units + 64 < cLine) : OpR X (compareOp .Eq) (rPv2 X.K dEq) := OpR.weaken (op_eqD hu) fun x y H Q ⟨Hf, a, b, d, s, ra, rb, e, q⟩ => by
  unfold dEq at e
  split at e
  · rename_i hs
    cases e
    exact ⟨a, b, dp_of (ra.mono s) hs.1, dp_of (rb.mono s) hs.2, hs.1, hs.2, q _ Hf H (.refl s) (.bl _)⟩
  · cases e
theorem or_ne (hu : X.A.units + 64 < cLine) : OpR X (compareOp .NotEq) (rPv2 X.K dNe) := OpR.weaken (op_neD hu) fun x y H Q ⟨Hf, a, b, d, s, ra, rb, e, q⟩ => by
  unfold dNe at e
  split at e
  · rename_i hs
    cases e
    exact ⟨a, b, dp_of (ra.mono s) hs.1, dp_of (rb.mono s) hs.2, hs.1, hs.2, q _ Hf H (.refl s) (.bl _)⟩
  · cases e
/-- a comparison as a test -/
def tBQ (g : En → Option (Rz D)) : En → Option (Rz Bool) := qb g fun d => upc (gB d)
theorem tQt_of {g : En → Option (Rz D)} {σ : L2.St} {H : Hp} {Q : Bool → Hp → Prop} (h : tQt X.K W (tBQ g) σ H Q) : tQv X.K W g σ H (fun x H' => ∃ k, x = .bl k ∧ Q k H') := by
  obtain ⟨H0, ρ, Hf, r, S, e, p⟩ := h
  obtain ⟨r1, e1, p1⟩ := p.bind e
  refine ⟨H0, ρ, Hf, r1, S, e1, p1.imp fun d ρ1 Hf1 H1 S1 X1 ⟨e2, p2⟩ v rv => ?_⟩
  obtain ⟨k, e3, q⟩ := p2.upc e2 S1
  cases d <;> cases e3
  exact ⟨_, rv.bl_inv, q Hf1 H1 (.refl S1.sub)⟩
theorem qt_cmp {op : CmpOp} {f : D → D → Option D} (ho : OpR X (compareOp op) (rPv2 X.K f)) (ha : PE X a (tQv X.K W ga)) (hb : PE X b (tQv X.K W gb)) (hm : behindInMarks op b = false) : PT X (.Compare a [op] [b] pos) (tQt X.K W (tBQ (b2Q f ga gb))) :=
  PT.weaken (pt_cmpR ho ha hb hm) fun _ _ _ h => tOp_qv (tQt_of h)
def gTruQ (g : En → Option (Rz D)) : En → Option (Rz Bool) := qb g fun d => upc (dTru d)
theorem qt_tru {g : En → Option (Rz D)} (ha : PE X a (tQv X.K W g)) (he : ∀ whole, isTrue a X.env whole = (do let v ← whole; standAt a.pos; holding [v] (truthy v)) := by intro _; rfl) : PT X a (tQt X.K W (gTruQ g)) :=
  PT.weaken (pt_truth ha he) fun σ H Q ⟨H0, ρ, Hf, r, S, e, p⟩ => by
    obtain ⟨r1, e1, p1⟩ := p.bind e
    refine ⟨H0, ρ, Hf, r1, S, e1, p1.imp fun d ρ1 Hf1 H1 S1 X1 ⟨e2, p2⟩ v rv => ?_⟩
    obtain ⟨k, e3, q⟩ := p2.upc e2 S1
    exact ⟨k, truV_of (rv.mono S1.sub) e3, q Hf1 H1 (.refl S1.sub)⟩
def tNotQ (g : En → Option (Rz Bool)) : En → Option (Rz Bool) := qb g fun b => upc (some (!b))
theorem qt_notQ {g : En → Option (Rz Bool)} (ha : PT X a (tQt X.K W g)) : PT X (.UnaryOp .Not a pos) (tQt X.K W (tNotQ g)) := PT.weaken (pt_not ha) fun σ H Q ⟨H0, ρ, Hf, r, S, e, p⟩ => by
  obtain ⟨r1, e1, p1⟩ := p.bind e
  refine ⟨H0, ρ, Hf, r1, S, e1, p1.imp fun d ρ1 Hf1 H1 S1 X1 ⟨e2, p2⟩ => ?_⟩
  obtain ⟨k, e3, q⟩ := p2.upc e2 S1
  cases e3
  exact q Hf1 H1 (.refl S1.sub)
def tAndQ (ga gb : En → Option (Rz Bool)) : En → Option (Rz Bool) := qb ga fun c => if c = true then gb else upc (some false)
def tOrQ (ga gb : En → Option (Rz Bool)) : En → Option (Rz Bool) := qb ga fun c => if c = true then upc (some true) else gb
theorem qwq_and1 {t : En → Option (Rz Bool)} (ha : PT X a (tQt X.K W t)) : PW X (.BoolOp .And [a] pos) (tQt X.K W t) := pw_and1 ha
theorem qwq_or1 {t : En → Option (Rz Bool)} (ha : PT X a (tQt X.K W t)) : PW X (.BoolOp .Or [a] pos) (tQt X.K W t) := pw_or1 ha
theorem qwq_and {c : Expr} {rest : List Expr} {ta tb : En → Option (Rz Bool)} (ha : PT X a (tQt X.K W ta)) (hb : PW X (.BoolOp .And (c :: rest) pos) (tQt X.K W tb)) : PW X (.BoolOp .And (a :: c :: rest) pos) (tQt X.K W (tAndQ ta tb)) :=
  PW.weaken (pw_and ha hb) fun σ H Q ⟨H0, ρ, Hf, r, S, e, p⟩ => by
    obtain ⟨r1, e1, p1⟩ := p.bind e
    refine ⟨H0, ρ, Hf, r1, S, e1, p1.imp fun c ρ1 Hf1 H1 S1 X1 ⟨e2, p2⟩ => ?_⟩
    cases c with
    | true => rw [if_pos rfl] at e2 ⊢; exact ⟨H0, ρ1, Hf1, r, S1, e2, p2⟩
    | false =>
      rw [if_neg Bool.false_ne_true] at e2 ⊢
      obtain ⟨k, e3, q⟩ := p2.upc e2 S1
      cases e3
      exact q Hf1 H1 (.refl S1.sub)
theorem qwq_or {c : Expr} {rest : List Expr} {ta tb : En → Option (Rz Bool)} (ha : PT X a (tQt X.K W ta)) (hb : PW X (.BoolOp .Or (c :: rest) pos) (tQt X.K W tb)) : PW X (.BoolOp .Or (a :: c :: rest) pos) (tQt X.K W (tOrQ ta tb)) :=
  PW.weaken (pw_or ha hb) fun σ H Q ⟨H0, ρ, Hf, r, S, e, p⟩ => by
    obtain ⟨r1, e1, p1⟩ := p.bind e
    refine ⟨H0, ρ, Hf, r1, S, e1, p1.imp fun c ρ1 Hf1 H1 S1 X1 ⟨e2, p2⟩ => ?_⟩
    cases c with
    | true =>
      rw [if_pos rfl] at e2 ⊢
      obtain ⟨k, e3, q⟩ := p2.upc e2 S1
      cases e3
      exact q Hf1 H1 (.refl S1.sub)
    | false => rw [if_neg Bool.false_ne_true] at e2 ⊢; exact ⟨H0, ρ1, Hf1, r, S1, e2, p2⟩
def gIfQ (tc : En → Option (Rz Bool)) (ga gb : En → Option (Rz D)) : En → Option (Rz D) := qb tc fun c => if c = true then ga else gb
theorem qv_if {c : Expr} {tc : En → Option (Rz Bool)} (hc : PT X c (tQt X.K W tc)) (ha : PE X a (tQv X.K W ga)) (hb : PE X b (tQv X.K W gb)) : PE X (.IfExp c a b pos) (tQv X.K W (gIfQ tc ga gb)) := PE.weaken (pe_ifExp hc ha hb) fun σ H Q ⟨H0, ρ, Hf, r, S, e, p⟩ => by
  obtain ⟨r1, e1, p1⟩ := p.bind e
  refine ⟨H0, ρ, Hf, r1, S, e1, p1.imp fun c ρ1 Hf1 H1 S1 X1 ⟨e2, p2⟩ => ?_⟩
  cases c with
  | true => rw [if_pos rfl] at e2 ⊢; exact ⟨H0, ρ1, Hf1, r, S1, e2, p2⟩
  | false => rw [if_neg Bool.false_ne_true] at e2 ⊢; exact ⟨H0, ρ1, Hf1, r, S1, e2, p2⟩
/-! items, displays, arguments, calls -/
def gIxQ (ga gi : En → Option (Rz D)) : En → Option (Rz D) := qb ga fun d => qb gi fun i => upc (dIx (.val d) i)
theorem qv_ix (ha : PE X a (tQv X.K W ga)) (hb : PE X b (tQv X.K W gb)) (hs : PlainIx b) : PE X (.Subscript a b pos) (tQv X.K W (gIxQ ga gb)) :=
  PE.weaken (pe_ix ix_seq ha hb hs) fun σ H Q ⟨H0, ρ, Hf, r, S, e, p⟩ => by
    obtain ⟨r1, e1, p1⟩ := p.bind e
    refine ⟨H0, ρ, Hf, r1, S, e1, p1.imp fun d ρ1 Hf1 H1 S1 X1 ⟨e2, p2⟩ v rv => ?_⟩
    obtain ⟨r2, e3, p3⟩ := p2.bind e2
    refine ⟨H0, ρ1, Hf1, r2, S1, e3, p3.imp fun i ρ2 Hf2 H2 S2 X2 ⟨e4, p4⟩ w rw' => ?_⟩
    obtain ⟨u, e5, q⟩ := p4.upc e4 S2
    have rv2 : Rp X.K Hf2 v d := rv.mono X2.fro
    unfold dIx at e5
    split at e5
    · split at e5
      · rename_i ds hl
        obtain ⟨l, xs, rfl, h1, ra⟩ := lst_of (H0 := H2) (Hf := Hf2) (H := H2) (r := .val d) rv2 S2.sub hl
        obtain ⟨u', h2, ru⟩ := atI_rp ra e5
        exact .inl ⟨l, xs, _, u', rfl, rw'.int_inv, h1, h2, q Hf2 H2 (.refl S2.sub) _ ru⟩
      · split at e5
        · rename_i heq
          cases heq
          obtain ⟨l, xs, rfl, h1, ra⟩ := Rp.tup_inv rv2
          obtain ⟨u', h2, ru⟩ := atI_rp ra e5
          exact .inr (.inl ⟨l, xs, _, u', rfl, rw'.int_inv, Same.seqT S2.sub h1, h2, q Hf2 H2 (.refl S2.sub) _ ru⟩)
        · rename_i heq
          cases heq
          split at e5
          · obtain ⟨c, e6, e7⟩ := Option.map_eq_some_iff.mp e5
            subst e7
            exact .inr (.inr ⟨_, _, c, Rp.str_inv rv2, rw'.int_inv, by assumption, e6, q Hf2 H2 (.refl S2.sub) _ (.str _)⟩)
          · cases e5
        · cases e5
    · cases e5
def aConsQ (g : En → Option (Rz D)) (gs : En → Option (Rz (List D))) : En → Option (Rz (List D)) := qb g fun d => qb gs fun ds => upc (some (d :: ds))
theorem qa_consQ (ha : PE X e (tQv X.K W ga)) (hr : PA X es (tQa X.K W gs)) (hs : starEach (e :: es) X.env = (false, eval e X.env) :: starEach es X.env := by rfl) : PA X (e :: es) (tQa X.K W (aConsQ ga gs)) :=
  PA.weaken (pa_cons ha hr hs) fun σ H Q ⟨H0, ρ, Hf, r, S, e, p⟩ => by
    obtain ⟨r1, e1, p1⟩ := p.bind e
    refine ⟨H0, ρ, Hf, r1, S, e1, p1.imp fun d ρ1 Hf1 H1 S1 X1 ⟨e2, p2⟩ v rv => ?_⟩
    obtain ⟨r2, e3, p3⟩ := p2.bind e2
    refine ⟨H0, ρ1, Hf1, r2, S1, e3, p3.imp fun ds ρ2 Hf2 H2 S2 X2 ⟨e4, p4⟩ vs rvs => ?_⟩
    obtain ⟨u, e5, q⟩ := p4.upc e4 S2
    cases e5
    exact q Hf2 H2 (.refl S2.sub) _ (.cons (rv.mono X2.fro) rvs)
def gTupQ (gs : En → Option (Rz (List D))) : En → Option (Rz D) := qb gs fun ds => upc (if ds.length ≤ sizeLine then some (.tuple ds) else none)
def gLstQ (gs : En → Option (Rz (List D))) : En → Option (Rz D) := qb gs fun ds => upc (if ds.length ≤ sizeLine then some (.list ds) else none)
theorem qv_tup {x1} (h : PA X es (tQa X.K W gs)) : PE X (.Tuple es x1 pos) (tQv X.K W (gTupQ gs)) := PE.weaken (pe_tup h) fun σ H Q ⟨H0, ρ, Hf, r, S, e, p⟩ => by
  obtain ⟨r1, e1, p1⟩ := p.bind e
  refine ⟨H0, ρ, Hf, r1, S, e1, p1.imp fun ds ρ1 Hf1 H1 S1 X1 ⟨e2, p2⟩ vs rvs => ?_⟩
  obtain ⟨u, e3, q⟩ := p2.upc e2 S1
  split at e3
  · rename_i hl
    cases e3
    exact ⟨by rw [rvs.length]; exact hl, fun t ht => q _ _ (.fresh S1.sub ht) _ (.tup (.of upd_same) (rvs.mono (Same.new (S1.sub.free ht))))⟩
  · cases e3
theorem qv_lst (h : PA X es (tQa X.K W gs)) : PE X (.List es pos) (tQv X.K W (gLstQ gs)) := PE.weaken (pe_lst h) fun σ H Q ⟨H0, ρ, Hf, r, S, e, p⟩ => by
  obtain ⟨r1, e1, p1⟩ := p.bind e
  refine ⟨H0, ρ, Hf, r1, S, e1, p1.imp fun ds ρ1 Hf1 H1 S1 X1 ⟨e2, p2⟩ vs rvs => ?_⟩
  obtain ⟨u, e3, q⟩ := p2.upc e2 S1
  split at e3
  · rename_i hl
    cases e3
    exact ⟨by rw [rvs.length]; exact hl, fun t ht => q _ _ (.fresh S1.sub ht) _ (.lst upd_same (rvs.mono (Same.new (S1.sub.free ht))))⟩
  · cases e3
/-- a pure def, over arguments with effects -/
def gCallQ (n : Nat) (φ : List D → Option D) (gs : En → Option (Rz (List D))) : En → Option (Rz D) := qb gs fun ds => upc (if ds.length = n then φ ds else none)
theorem qv_callF {k j n : Nat} {x : Str} {p : Pos} {φ : List D → Option D} (F : Fk X.prog X.w X.K X.mg X.base k x n φ) (hr : Rg j X.A) (hk : k ≤ j) (hg : Gl X x) (ha : PA X (e :: es) (tQa X.K W gs)) (hdb : (x == ("__debug__" : Str)) = false := by decide)
    (he : starEach (e :: es) X.env = (false, eval e X.env) :: starEach es X.env := by rfl) (hpl : (backTo pos (starEach es X.env)).any (·.1) = false := by rfl) : PE X (.Call (.Name x p) (e :: es) [] pos) (tQv X.K W (gCallQ n φ gs)) := by
  obtain ⟨f, fd, ps, F1, F2, F3, F4⟩ := F.ex
  refine PE.weaken (pe_callG (E := fun _ _ _ => False) F1 (hr.mono hk) hg F2 F3 F4 .nil pass0 ha hdb he hpl) fun σ H Q ⟨H0, ρ, Hf, r, S, e, p⟩ => ?_
  obtain ⟨r1, e1, p1⟩ := p.bind e
  refine ⟨H0, ρ, Hf, r1, S, e1, p1.imp fun ds ρ1 Hf1 H1 S1 X1 ⟨e2, p2⟩ vs rvs => ?_⟩
  obtain ⟨u, e3, q⟩ := p2.upc e2 S1
  split at e3
  · rename_i hl
    show spPu X.K n φ (vs ++ []) H1 Q _
    rw [List.append_nil]
    exact ⟨Hf1, ds, u, hl, S1.sub, rvs, e3, fun v Hf2 H2 x2 r2 => q Hf2 H2 x2 v r2⟩
  · cases e3
/-- built-ins by values -/
def gFnQ (f : List D → Option D) (gs : En → Option (Rz (List D))) : En → Option (Rz D) := qb gs fun ds => upc (f ds)
theorem tCB_qv {f : List D → Option D} {σ : L2.St} {H : Hp} {Q : VK} (h : tQv X.K W (gFnQ f gs) σ H Q) : tCB (rPc X.K f) (tQa X.K W gs) σ H Q := by
  obtain ⟨H0, ρ, Hf, r, S, e, p⟩ := h
  obtain ⟨r1, e1, p1⟩ := p.bind e
  refine ⟨H0, ρ, Hf, r1, S, e1, p1.imp fun ds ρ1 Hf1 H1 S1 X1 ⟨e2, p2⟩ vs rvs => ?_⟩
  obtain ⟨u, e3, q⟩ := p2.upc e2 S1
  exact ⟨Hf1, ds, u, S1.sub, rvs, e3, fun v Hf2 H2 x2 r2 => q Hf2 H2 x2 v r2⟩
theorem qv_callB {id : String} {f : List D → Option D} {x : Str} {p : Pos} (hc : CallR X (.builtin id) (rPc X.K f)) (hg : Gl X x) (hm : X.mg x = none) (hv : bootBuiltins x = some (.builtin id)) (ha : PA X (e :: es) (tQa X.K W gs)) (hn : x ≠ "__name__" := by decide)
    (hdb : (x == ("__debug__" : Str)) = false := by decide) (he : starEach (e :: es) X.env = (false, eval e X.env) :: starEach es X.env := by rfl) (hpl : (backTo pos (starEach es X.env)).any (·.1) = false := by rfl) : PE X (.Call (.Name x p) (e :: es) [] pos) (tQv X.K W (gFnQ f gs)) :=
  PE.weaken (pe_callB hc hg hm hv ha hn hdb he hpl) fun _ _ _ h => tCB_qv h
theorem qv_callT {T : String} {f : List D → Option D} {x : Str} {p : Pos} (hc : CallR X (.type T) (rPc X.K f)) (hg : Gl X x) (hm : X.mg x = none) (hv : bootBuiltins x = some (.type T)) (ha : PA X (e :: es) (tQa X.K W gs)) (hn : x ≠ "__name__" := by decide)
    (hdb : (x == ("__debug__" : Str)) = false := by decide) (he : starEach (e :: es) X.env = (false, eval e X.env) :: starEach es X.env := by rfl) (hpl : (backTo pos (starEach es X.env)).any (·.1) = false := by rfl) : PE X (.Call (.Name x p) (e :: es) [] pos) (tQv X.K W (gFnQ f gs)) :=
  PE.weaken (pe_callTy hc hg hm hv ha hn hdb he hpl) fun _ _ _ h => tCB_qv h
/-- a built-in of one argument by results, as a built-in by values -/
def d1of (f : Rs → Option Rs) : List D → Option D := fun ds => match ds with
  | [d] => (f (.val d)).bind fz
  | _ => none
theorem rPc_of {f : Rs → Option Rs} {v : Value} (h : CallR X v (rR1 X.K f)) : CallR X v (rPc X.K (d1of f)) := CallR.weaken h fun vs H Q ⟨Hf, ds, d, s, r, e, q⟩ => by
  match ds, r with
  | [d1], .cons r1 .nil =>
    obtain ⟨r', e1, e2⟩ := Option.bind_eq_some_iff.mp (show (f (.val d1)).bind fz = some d from e)
    exact ⟨H, Hf, _, .val d1, r', rfl, s, r1, e1, fun w Hf' H' x ro => let ⟨Hf2, x2, r2⟩ := freezeR x ro e2; q w Hf2 H' x2 r2⟩
  | [], _ => cases e
  | _ :: _ :: _, _ => cases e
/-! what is walked -/
def gItQ (g : En → Option (Rz D)) : En → Option (Rz (List D)) := qb g fun d => upc (match d with
  | .list ds => some ds
  | .tuple ds => some ds
  | .dict [(.list ds, .none)] => some ds
  | _ => none)
theorem qi_ltQ {tg l : Expr} (h : PE X l (tQv X.K W ga)) : PI X tg l (tQi X.K W (gItQ ga)) :=
  PI.weaken (PI.or (pi_list h) (pi_tup h)) fun σ H R ⟨H0, ρ, Hf, r, S, e, p⟩ => by
    obtain ⟨r1, e1, p1⟩ := p.bind e
    cases r1 with
    | ex x ρ1 => exact .inl ⟨H0, ρ, Hf, _, S, e1, p1⟩
    | ok d ρ1 =>
      by_cases ht : ∃ ds, d = .tuple ds
      · obtain ⟨ds, rfl⟩ := ht
        refine .inr ⟨H0, ρ, Hf, _, S, e1, fun Hf1 H1 S1 X1 v rv => ?_⟩
        obtain ⟨e2, p2⟩ := p1 Hf1 H1 S1 X1
        obtain ⟨u, e3, q⟩ := p2.upc e2 S1
        cases e3
        obtain ⟨a, xs, rfl, h1, ra⟩ := rv.tup_inv
        exact ⟨a, rfl, ⟨xs, Same.seqT S1.sub h1⟩, q Hf1 H1 (.refl S1.sub) _ (wk_tup h1 ra)⟩
      · refine .inl ⟨H0, ρ, Hf, _, S, e1, fun Hf1 H1 S1 X1 v rv => ?_⟩
        obtain ⟨e2, p2⟩ := p1 Hf1 H1 S1 X1
        obtain ⟨u, e3, q⟩ := p2.upc e2 S1
        split at e3
        · cases e3
          obtain ⟨a, xs, rfl, h1, ra⟩ := rv.lst_inv
          exact ⟨a, rfl, ⟨xs, S1.sub.seq (.inl h1)⟩, q Hf1 H1 (.refl S1.sub) _ (wk_list' (.inl h1) ra)⟩
        · exact (ht ⟨_, rfl⟩).elim
        · cases e3
          obtain ⟨a, xs, rfl, h1, ra⟩ := Rp.scr_inv rv rfl
          exact ⟨a, rfl, ⟨xs, S1.sub.seq h1⟩, q Hf1 H1 (.refl S1.sub) _ (wk_list' h1 ra)⟩
        · cases e3
def gRg1Q (gs : En → Option (Rz (List D))) : En → Option (Rz (List D)) := qb gs fun ds => upc (match ds with
  | [.int n] => if -(2 ^ 62) ≤ n ∧ n < 2 ^ 62 then some (rangeD 0 n.toNat 1) else none
  | _ => none)
theorem qi_rg1Q {tg a : Expr} {p : Pos} (hg : Gl X "range") (hm : X.mg "range" = none) (ha : PA X [a] (tQa X.K W gs)) (hs : starEach [a] X.env = [(false, eval a X.env)] := by rfl) : PI X tg (.Call (.Name "range" p) [a] [] pos) (tQi X.K W (gRg1Q gs)) :=
  PI.weaken (pi_range1 hg hm ha hs) fun σ H R ⟨H0, ρ, Hf, r, S, e, p⟩ => by
    obtain ⟨r1, e1, p1⟩ := p.bind e
    refine ⟨H0, ρ, Hf, r1, S, e1, p1.imp fun ds ρ1 Hf1 H1 S1 X1 ⟨e2, p2⟩ vs rvs => ?_⟩
    obtain ⟨u, e3, q⟩ := p2.upc e2 S1
    split at e3
    · split at e3
      · rename_i hn
        cases e3
        exact ⟨_, RpAll.ints_inv (ns := [_]) rvs, hn.1, hn.2, q Hf1 H1 (.refl S1.sub) _ wk_range⟩
      · cases e3
    · cases e3
end
end Pu

namespace Pu
open PySem PySem.Spec PyProof PyProof.Rows L2
variable [FnTab]
/-! ### statements with effects -/
inductive Ot where
  | nx (ρ : En)
  | rt (d : D) (ρ : En)
  | bk (ρ : En)
  | ct (ρ : En)
  | ex (x : Nat) (ρ : En)
def Pin (pb : Bool) (a : Addr) (σ : L2.St) : Prop := pb = true → σ[0]? = some (some (.ref a))
def PostS (K : PySem.W.Frag) (W : WX) (pb : Bool) (pa : Addr) (Hf0 H0 Hb : Hp) (D : Ends) : Ot → Prop
  | .nx ρ => ∀ σ Hf H, Fr K Hf0 H0 ρ σ Hf H → Same Hb Hf → Pin pb pa σ → D.nx σ H
  | .rt d ρ => ∀ v σ Hf H, Fr K Hf0 H0 ρ σ Hf H → Same Hb Hf → Pin pb pa σ → Rp K Hf v d → D.rt v H
  | .bk ρ => ∀ σ Hf H, Fr K Hf0 H0 ρ σ Hf H → Same Hb Hf → Pin pb pa σ → D.bk σ H
  | .ct ρ => ∀ σ Hf H, Fr K Hf0 H0 ρ σ Hf H → Same Hb Hf → Pin pb pa σ → D.ct σ H
  | .ex x ρ => ∀ cls dd σ Hf H, Fr K Hf0 H0 ρ σ Hf H → Same Hb Hf → Pin pb pa σ → XRep x cls dd → W cls dd σ H
def tQs (K : PySem.W.Frag) (W : WX) (pb : Bool) (R : En → Option Ot) : TS := fun D σ H => ∃ pa Hf0 H0 ρ Hf o, Fr K Hf0 H0 ρ σ Hf H ∧ Pin pb pa σ ∧ R ρ = some o ∧ PostS K W pb pa Hf0 H0 Hf D o
def sb {α : Type} (g : En → Option (Rz α)) (k : α → En → Option Ot) : En → Option Ot := fun ρ => (g ρ).bind fun r => match r with
  | .ok a ρ' => k a ρ'
  | .ex x ρ' => some (.ex x ρ')
section
variable {K : PySem.W.Frag} {W : WX} {pb : Bool} {pa : Addr} {Hf0 H0 Hf H Hf' H' Hb Hb' : Hp} {ρ ρ' : En} {σ : L2.St} {D : Ends} {o : Ot}
theorem PostS.mono (h : PostS K W pb pa Hf0 H0 Hb D o) (s : Same Hb Hb') : PostS K W pb pa Hf0 H0 Hb' D o := by
  cases o with
  | nx ρ => exact fun σ Hf H F q => h σ Hf H F (s.trans q)
  | rt d ρ => exact fun v σ Hf H F q => h v σ Hf H F (s.trans q)
  | bk ρ => exact fun σ Hf H F q => h σ Hf H F (s.trans q)
  | ct ρ => exact fun σ Hf H F q => h σ Hf H F (s.trans q)
  | ex x ρ => exact fun c d σ Hf H F q => h c d σ Hf H F (s.trans q)
theorem Fr.stepQ (F : Fr K Hf0 H0 ρ σ Hf H) (S : StOk K H0 ρ' σ Hf' H') (X : Xq ρ σ Hf H ρ' Hf' H') : Fr K Hf0 H0 ρ' σ Hf' H' := by
  have no : ∀ b o, H0 b = some o → NotOwn ρ σ b := fun b o h i ds e f => by
    obtain ⟨o', e1, a, vs, rfl, h0, _⟩ := F.st.at_ i _ e
    rw [f] at e1
    cases e1
    rw [h] at h0
    cases h0
  refine ⟨⟨fun b o h => (X.oth b o (F.ext.all b o h) (no b o h)).1, F.ext.fro.trans X.fro, S.sub, fun b o h n => (X.oth b o (F.ext.all b o h) (no b o h)).2 (F.ext.keep b o h n)⟩, S⟩
theorem PostS.bind {α : Type} {g : En → Option (Rz α)} {k : α → En → Option Ot} (p : PostS K W pb pa Hf0 H0 Hf D o) (F : Fr K Hf0 H0 ρ σ Hf H) (hp : Pin pb pa σ) (e : sb g k ρ = some o) :
    ∃ r1, g ρ = some r1 ∧ PostE K W H0 ρ σ Hf H (fun a ρ1 Hf1 H1 => k a ρ1 = some o ∧ Fr K Hf0 H0 ρ1 σ Hf1 H1 ∧ PostS K W pb pa Hf0 H0 Hf1 D o) r1 := by
  obtain ⟨r1, e1, e2⟩ := Option.bind_eq_some_iff.mp e
  refine ⟨r1, e1, ?_⟩
  cases r1 with
  | ok a ρ1 => exact fun Hf' H' S X => ⟨e2, F.stepQ S X, p.mono X.fro⟩
  | ex x ρ1 => cases e2; exact fun c d Hf' H' S X xr => p c d σ Hf' H' (F.stepQ S X) X.fro hp xr
end
section
variable {X : Cx} {W : WX} {pb : Bool} {e a b : Expr} {es : List Expr} {pos : Pos} {g : En → Option (Rz D)} {st : Stmt} {sts rest : List Stmt} {R R1 R2 : En → Option Ot}
def sNext : En → Option Ot := fun ρ => some (.nx ρ)
def sSeq (R1 R2 : En → Option Ot) : En → Option Ot := fun ρ => (R1 ρ).bind fun o => match o with
  | .nx ρ' => R2 ρ'
  | o => some o
theorem sq_nil : PSs X [] (tQs X.K W pb sNext) := PSs.weaken pss_nil fun D σ H ⟨pa, Hf0, H0, ρ, Hf, o, F, hp, e, p⟩ => by cases e; exact p σ Hf H F (Same.refl _) hp
theorem sq_pass : PS X (.Pass pos) (tQs X.K W pb sNext) := PS.weaken ps_pass fun D σ H ⟨pa, Hf0, H0, ρ, Hf, o, F, hp, e, p⟩ => by cases e; exact p σ Hf H F (Same.refl _) hp
theorem sq_break : PS X (.Break pos) (tQs X.K W pb fun ρ => some (.bk ρ)) := PS.weaken ps_break fun D σ H ⟨pa, Hf0, H0, ρ, Hf, o, F, hp, e, p⟩ => by cases e; exact p σ Hf H F (Same.refl _) hp
theorem sq_continue : PS X (.Continue pos) (tQs X.K W pb fun ρ => some (.ct ρ)) := PS.weaken ps_continue fun D σ H ⟨pa, Hf0, H0, ρ, Hf, o, F, hp, e, p⟩ => by cases e; exact p σ Hf H F (Same.refl _) hp
theorem tSeq_qs {K : PySem.W.Frag} {D : Ends} {σ : L2.St} {H : Hp} (h : tQs K W pb (sSeq R1 R2) D σ H) : tSeq (tQs K W pb R1) (tQs K W pb R2) D σ H := by
  obtain ⟨pa, Hf0, H0, ρ, Hf, o, F, hp, e, p⟩ := h
  obtain ⟨o1, e1, e⟩ := Option.bind_eq_some_iff.mp e
  refine ⟨pa, Hf0, H0, ρ, Hf, o1, F, hp, e1, ?_⟩
  cases o1 with
  | nx ρ' => exact fun σ' Hf' H' F' sm hp' => ⟨pa, Hf0, H0, ρ', Hf', o, F', hp', e, p.mono sm⟩
  | rt d ρ' => cases e; exact p
  | bk ρ' => cases e; exact p
  | ct ρ' => cases e; exact p
  | ex x ρ' => cases e; exact p
theorem sq_cons (h1 : PS X st (tQs X.K W pb R1)) (h2 : PSs X rest (tQs X.K W pb R2)) : PSs X (st :: rest) (tQs X.K W pb (sSeq R1 R2)) := PSs.weaken (pss_cons h1 h2) fun _ _ _ h => tSeq_qs h
theorem sq_one (h1 : PS X st (tQs X.K W pb R)) : PSs X [st] (tQs X.K W pb R) := pss_one h1
theorem sqs_freeze (i : Nat) (h : PSs X sts (tQs X.K W pb R)) : PSs X sts (tQs X.K W pb fun ρ => R (frz i ρ)) := PSs.weaken h fun D σ H ⟨pa, Hf0, H0, ρ, Hf, o, F, hp, e, p⟩ => by
  obtain ⟨Hf', sm, F'⟩ := F.freeze i
  exact ⟨pa, Hf0, H0, _, Hf', o, F', hp, e, p.mono sm⟩
theorem sq_freeze (i : Nat) (h : PS X st (tQs X.K W pb R)) : PS X st (tQs X.K W pb fun ρ => R (frz i ρ)) := PS.weaken h fun D σ H ⟨pa, Hf0, H0, ρ, Hf, o, F, hp, e, p⟩ => by
  obtain ⟨Hf', sm, F'⟩ := F.freeze i
  exact ⟨pa, Hf0, H0, _, Hf', o, F', hp, e, p.mono sm⟩
def sRet (g : En → Option (Rz D)) : En → Option Ot := sb g fun d ρ => some (.rt d ρ)
theorem sq_ret (h : PE X e (tQv X.K W g)) : PS X (.Return (some e) pos) (tQs X.K W pb (sRet g)) := PS.weaken (ps_ret h) fun D σ H ⟨pa, Hf0, H0, ρ, Hf, o, F, hp, e, p⟩ => by
  obtain ⟨r1, e1, p1⟩ := p.bind F hp e
  refine ⟨H0, ρ, Hf, r1, F.st, e1, p1.imp fun d ρ1 Hf1 H1 S1 X1 ⟨e2, F1, p2⟩ v rv => ?_⟩
  cases e2
  exact p2 v σ Hf1 H1 F1 (Same.refl _) hp rv
theorem sq_retN : PS X (.Return none pos) (tQs X.K W pb fun ρ => some (.rt .none ρ)) := PS.weaken ps_retN fun D σ H ⟨pa, Hf0, H0, ρ, Hf, o, F, hp, e, p⟩ => by
  cases e
  exact p _ σ Hf H F (Same.refl _) hp .non
def sIf (c : En → Option (Rz Bool)) (R1 R2 : En → Option Ot) : En → Option Ot := sb c fun b => if b = true then R1 else R2
theorem sq_if {c : Expr} {sa sb' : List Stmt} {tc : En → Option (Rz Bool)} (hc : PT X c (tQt X.K W tc)) (ha : PSs X sa (tQs X.K W pb R1)) (hb : PSs X sb' (tQs X.K W pb R2)) : PS X (.If c sa sb' pos) (tQs X.K W pb (sIf tc R1 R2)) :=
  PS.weaken (ps_if hc ha hb) fun D σ H ⟨pa, Hf0, H0, ρ, Hf, o, F, hp, e, p⟩ => by
    obtain ⟨r1, e1, p1⟩ := p.bind F hp e
    refine ⟨H0, ρ, Hf, r1, F.st, e1, p1.imp fun k ρ1 Hf1 H1 S1 X1 ⟨e2, F1, p2⟩ => ?_⟩
    cases k with
    | true => rw [if_pos rfl] at e2 ⊢; exact ⟨pa, Hf0, H0, ρ1, Hf1, o, F1, hp, e2, p2⟩
    | false => rw [if_neg Bool.false_ne_true] at e2 ⊢; exact ⟨pa, Hf0, H0, ρ1, Hf1, o, F1, hp, e2, p2⟩
def sDrop (g : En → Option (Rz D)) : En → Option Ot := sb g fun _ ρ => some (.nx ρ)
theorem sq_expr (h : PE X e (tQv X.K W g)) (hs : swapsWith e none pos.line X.env = pure false := by rfl) : PS X (.Expr e pos) (tQs X.K W pb (sDrop g)) := PS.weaken (ps_expr h hs) fun D σ H ⟨pa, Hf0, H0, ρ, Hf, o, F, hp, e, p⟩ => by
  obtain ⟨r1, e1, p1⟩ := p.bind F hp e
  refine ⟨H0, ρ, Hf, r1, F.st, e1, p1.imp fun d ρ1 Hf1 H1 S1 X1 ⟨e2, F1, p2⟩ v rv => ?_⟩
  cases e2
  exact p2 σ Hf1 H1 F1 (Same.refl _) hp
theorem Pin.set {pa : Addr} {σ : L2.St} {i : Nat} {o : Option V} (h : Pin pb pa σ) (hi : pb = false ∨ i ≠ 0) : Pin pb pa (σ.set i o) := fun q => by
  rcases hi with hi | hi
  · rw [hi] at q; cases q
  · rw [List.getElem?_set_ne hi]; exact h q
def sSet (i : Nat) (g : En → Option (Rz D)) : En → Option Ot := sb g fun d ρ => some (.nx (ρ.set i (.val d)))
theorem sq_set {i : Nat} {x : Str} {pos' : Pos} (hi0 : pb = false ∨ i ≠ 0) (hN : X.N.Nodup) (hi : X.N[i]? = some x) (hx : Loc X.env.scope x) (he : PE X e (tQv X.K W g)) (hs : swapsWith e (some (.Name x pos')) pos.line X.env = pure false := by rfl)
    (hf : X.fn x = true ∨ X.env.scope.names.lookup x = some .local := by first | exact .inl rfl | exact .inr rfl | assumption) : PS X (.Assign [.Name x pos'] e pos) (tQs X.K W pb (sSet i g)) := PS.weaken (ps_set hN hi hx he hs hf) fun D σ H ⟨pa, Hf0, H0, ρ, Hf, o, F, hp, e, p⟩ => by
  obtain ⟨r1, e1, p1⟩ := p.bind F hp e
  refine ⟨H0, ρ, Hf, r1, F.st, e1, p1.imp fun d ρ1 Hf1 H1 S1 X1 ⟨e2, F1, p2⟩ v rv => ?_⟩
  cases e2
  exact p2 _ Hf1 H1 (F1.setV i rv) (Same.refl _) (hp.set hi0)
/-- x = a new list, its own; without effects -/
def sOwn (i : Nat) (g : En → Option Rs) : En → Option Ot := fun ρ => (g ρ).bind fun r => match r with
  | .new ds => some (.nx (ρ.set i (.own ds)))
  | .val d => some (.nx (ρ.set i (.val d)))
  | .view _ => none
theorem sq_own {i : Nat} {x : Str} {pos' : Pos} {g : En → Option Rs} (hi0 : pb = false ∨ i ≠ 0) (hN : X.N.Nodup) (hi : X.N[i]? = some x) (hx : Loc X.env.scope x) (he : PE X e (tPu X.K g)) (hs : swapsWith e (some (.Name x pos')) pos.line X.env = pure false := by rfl)
    (hf : X.fn x = true ∨ X.env.scope.names.lookup x = some .local := by first | exact .inl rfl | exact .inr rfl | assumption) : PS X (.Assign [.Name x pos'] e pos) (tQs X.K W pb (sOwn i g)) := PS.weaken (ps_set hN hi hx he hs hf) fun D σ H ⟨pa, Hf0, H0, ρ, Hf, o, F, hp, e, p⟩ => by
  obtain ⟨r, e1, e⟩ := Option.bind_eq_some_iff.mp e
  refine ⟨H0, ρ, Hf, r, F.st, e1, fun v Hf' H' x ro => ?_⟩
  cases r with
  | val d => cases e; exact p _ Hf' H' ((F.step x).setV i ro) x.fro (hp.set hi0)
  | view ds => cases e
  | new ds =>
    cases e
    obtain ⟨a, vs, rfl, h0, h1, h2, q⟩ := ro
    refine p _ Hf' H' ⟨F.ext.trans x, (F.st.ext x).setO i (F.ext.all.free h0) h1 h2 q fun j es ej _ z => ?_⟩ x.fro (hp.set hi0)
    obtain ⟨o, f, b, ws, rfl, g0, g1, _⟩ := F.st.at_ j _ ej
    rw [f] at z
    cases z
    rw [h0] at g1
    cases g1
def sAsg (b : D → En → Option En) (g : En → Option (Rz D)) : En → Option Ot := sb g fun d ρ => (b d ρ).map .nx
theorem sq_asg {tg : Expr} {b : D → En → Option En} {L : List Nat} (hi0 : pb = false ∨ 0 ∉ L) (he : PE X e (tQv X.K W g)) (hg : PG X tg (tPg X.K b L)) (hs : swapsWithSole [tg] e pos.line X.env = pure false := by rfl) (hw : swappedStores [tg] e X.env = pure none := by rfl) (h1 : (assignEach [tg] X.env).map (·.2) = [assign tg X.env] := by rfl) : PS X (.Assign [tg] e pos) (tQs X.K W pb (sAsg b g)) :=
  PS.weaken (ps_asg he hg hs hw h1) fun D σ H ⟨pa, Hf0, H0, ρ, Hf, o, F, hp, e, p⟩ => by
    obtain ⟨r1, e1, p1⟩ := p.bind F hp e
    refine ⟨H0, ρ, Hf, r1, F.st, e1, p1.imp fun d ρ1 Hf1 H1 S1 X1 ⟨e2, F1, p2⟩ v rv => ?_⟩
    obtain ⟨ρ', e3, rfl⟩ := Option.map_eq_some_iff.mp e2
    refine ⟨H0, ρ1, ρ', Hf1, d, S1, rv, e3, fun σ' S' k _ => p2 σ' Hf1 H1 ⟨F1.ext, S'⟩ (Same.refl _) fun q => ?_⟩
    rcases hi0 with z | z
    · rw [z] at q; cases q
    · rw [k 0 z]; exact hp q
/-- the slot i is own, told from later on -/
theorem own_then {K : PySem.W.Frag} {H0 Hf H Hf1 H1 : Hp} {ρ ρ1 : En} {σ : L2.St} {i : Nat} {ds : List D} {b : Addr} (S : StOk K H0 ρ σ Hf H) (X1 : Xq ρ σ Hf H ρ1 Hf1 H1) (e : ρ1[i]? = some (.own ds)) (f : σ[i]? = some (some (.ref b))) : ∃ vs, H b = some (.lst vs) := by
  have : ¬ NotOwn ρ σ b := fun z => (X1.own b).mp z i ds e f
  unfold NotOwn at this
  by_cases h : ∃ vs, H b = some (.lst vs)
  · exact h
  · exact (this fun j es ej fj => by
      obtain ⟨o, e1, a, vs, rfl, _, h1, _⟩ := S.at_ j _ ej
      rw [fj] at e1
      cases e1
      exact h ⟨vs, h1⟩).elim
def sApp (i : Nat) (g : En → Option (Rz D)) : En → Option Ot := fun ρ => (ownAt i ρ).bind fun _ => sb g (fun d ρ => (ownAt i ρ).bind fun ds => if ds.length < sizeLine then some (.nx (ρ.set i (.own (ds ++ [d])))) else none) ρ
theorem sq_append {i : Nat} {x : Expr} {apos cpos : Pos} (hx : PE X x (tVar i)) (he : PE X e (tQv X.K W g)) (h : ∀ {tx te : TE}, PE X x tx → PE X e te → PE X (.Call (.Attribute x "append" apos) [e] [] cpos) (tBM X.K "list" rAppend tx (tCons te tNil)))
    (hs : swapsWith (.Call (.Attribute x "append" apos) [e] [] cpos) none pos.line X.env = pure false := by rfl) : PS X (.Expr (.Call (.Attribute x "append" apos) [e] [] cpos) pos) (tQs X.K W pb (sApp i g)) :=
  PS.weaken (ps_expr (h hx he) hs) fun D σ H ⟨pa, Hf0, H0, ρ, Hf, o, F, hp, e, p⟩ => by
    obtain ⟨ds0, e0, e⟩ := Option.bind_eq_some_iff.mp e
    obtain ⟨o', f, a, vs0, rfl, h0, h1, h2, r⟩ := F.st.at_ i _ (ownAt_some e0)
    obtain ⟨r1, e1, p1⟩ := p.bind F hp e
    refine ⟨.ref a, f, .inl ⟨rfl, _, .of h1⟩, H0, ρ, Hf, r1, F.st, e1, p1.imp fun d ρ1 Hf1 H1 S1 X1 ⟨e2, F1, p2⟩ v rv => ?_⟩
    obtain ⟨ds, e3, e2⟩ := Option.bind_eq_some_iff.mp e2
    have e3 := ownAt_some e3
    split at e2
    · rename_i hl
      cases e2
      obtain ⟨o1, f1, a1, vs1, rfl, g0, g1, g2, r1⟩ := S1.at_ i _ e3
      rw [f] at f1
      cases f1
      exact ⟨a, vs1, v, rfl, rfl, g1, by rw [r1.length]; exact hl, p2 σ Hf1 _ (F1.mut e3 f g0 g2 (r1.append (.cons rv .nil))) (Same.refl _) hp⟩
    · cases e2
def sPopL (i : Nat) : En → Option Ot := fun ρ => (ownAt i ρ).bind fun ds => if ds = [] then none else some (.nx (ρ.set i (.own ds.dropLast)))
theorem sq_pop {i : Nat} {x : Expr} {apos cpos : Pos} (hx : PE X x (tVar i)) (h : ∀ {tx : TE}, PE X x tx → PE X (.Call (.Attribute x "pop" apos) [] [] cpos) (tBM0 X.K "list" rPop tx))
    (hs : swapsWith (.Call (.Attribute x "pop" apos) [] [] cpos) none pos.line X.env = pure false := by rfl) : PS X (.Expr (.Call (.Attribute x "pop" apos) [] [] cpos) pos) (tQs X.K W pb (sPopL i)) :=
  PS.weaken (ps_expr (h hx) hs) fun D σ H ⟨pa, Hf0, H0, ρ, Hf, o, F, hp, e, p⟩ => by
    obtain ⟨ds, e1, e⟩ := Option.bind_eq_some_iff.mp e
    have e1 := ownAt_some e1
    split at e
    · cases e
    · rename_i hl
      cases e
      obtain ⟨o, f, a, vs, rfl, h0, h1, h2, r⟩ := F.st.at_ i _ e1
      have hv : vs.length - 1 < vs.length := by
        rw [r.length]
        have : ds.length ≠ 0 := fun z => hl (List.length_eq_zero_iff.mp z)
        omega
      exact ⟨.ref a, f, .inl ⟨rfl, _, .of h1⟩, a, vs, vs[vs.length - 1], rfl, rfl, h1, List.getElem?_eq_getElem hv, p σ Hf _ (F.mut e1 f h0 h2 r.dropLast) (Same.refl _) hp⟩
/-- x[k] = e, without effects -/
def sPut (i : Nat) (gk g : En → Option D) : En → Option Ot := fun ρ => (ownAt i ρ).bind fun ds => (g ρ).bind fun d => (gk ρ).bind fun k => (asInt k).bind fun k => (ixN ds.length k).map fun j => .nx (ρ.set i (.own (ds.set j d)))
theorem sq_put {i : Nat} {x k : Expr} {p1 : Pos} {gk ga : En → Option D} (hx : PE X x (tVar i)) (hk : PE X k (tPv X.K gk)) (he : PE X e (tPv X.K ga)) (hs : swapsWithSole [.Subscript x k p1] e pos.line X.env = pure false := by rfl) (hw : swappedStores [.Subscript x k p1] e X.env = pure none := by rfl)
    (h : ∀ {tx tk : TE}, PE X x tx → PE X k tk → PG X (.Subscript x k p1) (gSub tx tk L2.rSetL)) : PS X (.Assign [.Subscript x k p1] e pos) (tQs X.K W pb (sPut i gk ga)) :=
  PS.weaken (ps_asg he (h hx hk) hs hw) fun D σ H ⟨pa, Hf0, H0, ρ, Hf, o, F, hp, e, p⟩ => by
    obtain ⟨ds, e1, e⟩ := Option.bind_eq_some_iff.mp e
    obtain ⟨d, e2, e⟩ := Option.bind_eq_some_iff.mp e
    obtain ⟨kd, e3, e⟩ := Option.bind_eq_some_iff.mp e
    obtain ⟨n, e4, e⟩ := Option.bind_eq_some_iff.mp e
    obtain ⟨j, e5, e⟩ := Option.map_eq_some_iff.mp e
    subst e
    have e1 := ownAt_some e1
    rw [asInt_inv kd n e4] at e3
    obtain ⟨o, f, a, vs, rfl, h0, h1, h2, r⟩ := F.st.at_ i _ e1
    refine ⟨H0, ρ, Hf, d, F.st, e2, fun v Hf1 H1 x1 q => ⟨.ref a, f, H0, ρ, Hf1, _, F.st.ext x1, e3, fun w Hf2 H2 x2 q2 => ?_⟩⟩
    have x12 := x1.trans x2
    exact ⟨a, vs, n, j, rfl, q2.int_inv, x12.all _ _ h1, by rw [r.length]; exact e5, p σ Hf2 _ ((F.step x12).mut e1 f h0 (x12.keep _ _ h1 h2) ((r.mono x12.fro).set j (q.mono x2.fro))) x12.fro hp⟩
/-! ### loops -/
def forQ (b : D → En → Option En) (R : En → Option Ot) : List D → En → Option Ot
  | [], ρ => some (.nx ρ)
  | d :: ds, ρ => (b d ρ).bind fun ρ1 => (R ρ1).bind fun o => match o with
    | .nx ρ2 => forQ b R ds ρ2
    | .ct ρ2 => forQ b R ds ρ2
    | .bk ρ2 => some (.nx ρ2)
    | .rt d ρ2 => some (.rt d ρ2)
    | .ex x ρ2 => some (.ex x ρ2)
def sFor (gi : En → Option (Rz (List D))) (b : D → En → Option En) (R : En → Option Ot) : En → Option Ot := sb gi fun ds => forQ b R ds
theorem sq_for {tg iter : Expr} {body : List Stmt} {gi : En → Option (Rz (List D))} {b : D → En → Option En} {L : List Nat} (hi0 : pb = false ∨ 0 ∉ L) (hp : PassesOwn (model X.prog X.w) X.A X.env X.xe) (hc : X.calm = true) (hi : PI X tg iter (tQi X.K W gi)) (hg : PG X tg (tPg X.K b L)) (hb : PSs X body (tQs X.K W pb R))
    (hs : ∀ x, foldedSetIterable iter X.env x = pure x := by intro _; rfl) : PS X (.For tg iter body [] pos) (tQs X.K W pb (sFor gi b R)) :=
  PS.weaken (ps_for hp hc hi hg hb hs) fun D σ H ⟨pa, Hf0, H0, ρ, Hf, o, F, hpin, e, p⟩ => by
    obtain ⟨r1, e1, p1⟩ := p.bind F hpin e
    refine ⟨H0, ρ, Hf, r1, F.st, e1, p1.imp fun ds ρ1 Hf1 H1 S1 X1 ⟨e2, F1, p⟩ J w => ?_⟩
    refine ⟨fun i m σ H => m = ds.length - i ∧ i ≤ ds.length ∧ ∃ ρ Hf, Fr X.K Hf0 H0 ρ σ Hf H ∧ Same Hf1 Hf ∧ Pin pb pa σ ∧ forQ b R (ds.drop i) ρ = some o, ⟨_, rfl, Nat.zero_le _, ρ1, Hf1, F1, Same.refl _, hpin, e2⟩, ?_⟩
    rintro i m σ2 H2 ⟨rfl, hi, ρ2, Hf2, F2, s2, pn2, e2⟩
    by_cases hlt : i < ds.length
    · rw [List.drop_eq_getElem_cons hlt] at e2
      obtain ⟨ρ3, e3, e2⟩ := Option.bind_eq_some_iff.mp e2
      obtain ⟨o3, e4, e2⟩ := Option.bind_eq_some_iff.mp e2
      refine .inr ⟨w.go i H2 (s2.trans F2.st.sub) hlt, fun σ H => i + 1 ≤ ds.length ∧ ∃ ρ Hf, Fr X.K Hf0 H0 ρ σ Hf H ∧ Same Hf1 Hf ∧ Pin pb pa σ ∧ forQ b R (ds.drop (i + 1)) ρ = some o, fun σ' H' n => ⟨ds.length - (i + 1), by omega, rfl, n.1, n.2⟩, fun x H' y => ?_⟩
      obtain ⟨Hf3, x3, r3⟩ := w.yld i H2 x H' Hf2 _ s2 F2.st.sub y (List.getElem?_eq_getElem hlt)
      refine ⟨H0, ρ2, ρ3, Hf3, _, F2.st.ext x3, r3, e3, fun σ4 S4 k4 _ => ⟨pa, Hf0, H0, ρ3, Hf3, o3, ⟨F2.ext.trans x3, S4⟩, fun q => ?_, e4, ?_⟩⟩
      · rcases hi0 with z | z
        · rw [z] at q; cases q
        · rw [k4 0 z]; exact pn2 q
      cases o3 with
      | nx ρ5 => exact fun σ5 Hf5 H5 F5 s5 pn5 => ⟨hlt, ρ5, Hf5, F5, s2.trans (x3.fro.trans s5), pn5, e2⟩
      | ct ρ5 => exact fun σ5 Hf5 H5 F5 s5 pn5 => ⟨hlt, ρ5, Hf5, F5, s2.trans (x3.fro.trans s5), pn5, e2⟩
      | bk ρ5 => cases e2; exact fun σ5 Hf5 H5 F5 s5 pn5 => p σ5 Hf5 H5 F5 (s2.trans (x3.fro.trans s5)) pn5
      | rt d ρ5 => cases e2; exact p.mono (s2.trans x3.fro)
      | ex z ρ5 => cases e2; exact p.mono (s2.trans x3.fro)
    · rw [List.drop_eq_nil_of_le (by omega)] at e2
      cases e2
      exact .inl ⟨w.stop i H2 (s2.trans F2.st.sub) (by omega), p σ2 Hf2 H2 F2 s2 pn2⟩
/-! ### exceptions -/
theorem sq_raise {e : Expr} {x : Nat} {C : Addr} (hc : X.calm = true) (tk : Takes X W) (ht : FnTab.tab x = some C) (he : PMk X e (fun _ H Q => Q (.ref C) none H)) : PS X (.Raise (some e) none pos) (tQs X.K W pb fun ρ => some (.ex x ρ)) :=
  PS.weaken (ps_raise hc tk he) fun D σ H ⟨pa, Hf0, H0, ρ, Hf, o, F, hp, e, p⟩ => by
    cases e
    exact p _ _ σ Hf H F (Same.refl _) hp ⟨rfl, C, ht, rfl⟩
/-- X(), X an own exception class without own __init__ -/
theorem pmk_own0 {bmB : List Value} {B newId initId : String} {C : Addr} {x : Str} {p : Pos} (F : ExcBaseFacts B newId initId bmB) (q : PySem.W.excIn X.K C bmB newId = true) (gC : X.mg x = some (.ref C)) (kC : PySem.W.keepIn X.K (.ref C) = true) (r : Raises X (.ref C)) (hg : Gl X x)
    (hdb : (x == ("__debug__" : Str)) = false := by decide) : PMk X (.Call (.Name x p) [] [] pos) (fun _ H Q => Q (.ref C) none H) := by
  intro pins s σ H Q I h
  refine wpAny_Call_Name_kw (ld_glob I hg gC ?_ hdb)
  refine PySem.W.callWith_K0 I.kIn kC ?_
  obtain ⟨bm, N, nm, qn, bs, hdct, sn, sub, ab, col, dd, k0, k1, k2, k3, k5, mN, hC, hN, hni, T⟩ := exc_obj I.kIn q
  refine wpAny_call_exc_subT F T hC hN hni (fun h' e hm => ?_) (by show 0 ≤ sizeLine; exact Nat.zero_le _)
  exact mk_of I hm r h (I.hok.gone hm.new)
end
end Pu

namespace Pu
open PySem PySem.Spec PyProof PyProof.Rows L2
variable [FnTab]
/-! ### calls whose exceptions pass at the place where they stand -/
section
variable {X : Cx} {e : Expr} {es : List Expr} {pos : Pos}
omit [FnTab] in
theorem run_fnSG {CX : CXT} {k : Nat} {f : Addr} {fd : FuncData} {ps : List Str} {sp : Sp} {E : XK} {pins : List (Addr × Obj)} {σ : L2.St} {H : Hp} {s : Shared} {Q : VK} {us : List Value} {vs : List V}
    (F : FnG X.prog X.w X.K X.mg X.base CX k f fd ps sp) (hr : Rg k X.A) (hb : Binds X.K fd ps []) (hx : PassesAt CX X σ E) (I : L2.Inv X pins σ H s) (r : Vals vs us) (h : sp vs H Q E) : wpAny (model X.prog X.w) X.A (call (.ref f) us) (EP X pins σ Q) X.xe s := by
  have hb' := hb s us I.kIn (by rw [List.append_nil, ← r.length]; exact F.len _ _ _ _ h)
  rw [List.append_nil] at hb'
  refine wpAny_call (codeAny_mono (F.run X.A X.stack s H ⟨us, []⟩ us vs Q E hr I.env0 hb' r h) ?_)
  intro r s' z
  rcases r with e | fl
  · exact hx pins H s e s' I z
  · cases fl with
    | ret u => exact I.after z
    | next => exact z.elim
    | brk => exact z.elim
    | cont => exact z.elim
omit [FnTab] in
theorem pe_callSG {CX : CXT} {k : Nat} {f : Addr} {fd : FuncData} {ps : List Str} {sp : Sp} {E : L2.St → XK} {x : Str} {p : Pos} {t : TA}
    (F : FnG X.prog X.w X.K X.mg X.base CX k f fd ps sp) (hr : Rg k X.A) (hg : Gl X x) (hm : X.mg x = some (.ref f)) (hk : PySem.W.keepIn X.K (.ref f) = true) (hb : Binds X.K fd ps []) (hx : ∀ σ, PassesAt CX X σ (E σ)) (ha : PA X (e :: es) t)
    (hdb : (x == ("__debug__" : Str)) = false := by decide) (he : starEach (e :: es) X.env = (false, eval e X.env) :: starEach es X.env := by rfl) (hpl : (backTo pos (starEach es X.env)).any (·.1) = false := by rfl) : PE X (.Call (.Name x p) (e :: es) [] pos) (tCallS sp E t) where
  run pins s σ H Q I h := wpAny_Call_Name_kw (ld_glob I hg hm (PySem.W.callWith_K I.ok.mod.kin hk (thn (ha.run pos pins s σ H (fun vs H1 => sp vs H1 Q (E σ)) I h) fun us s1 ⟨vs, H1, I1, r, q⟩ => ⟨I1.kIn, run_fnSG F hr hb (hx σ) I1 r q⟩) he hpl) hdb)
end
/-! ### try -/
section
variable {X : Cx} {W : WX} {pb : Bool} {e a b : Expr} {es : List Expr} {pos : Pos} {g : En → Option (Rz D)} {st : Stmt} {sts rest : List Stmt} {R R1 R2 : En → Option Ot}
/-- try: body, except c: suite. m: whether the clause takes the class number x -/
def noEx : Ot → Option Ot
  | .ex _ _ => none
  | o => some o
def sTry (m : Nat → Option Bool) (R Rs : En → Option Ot) : En → Option Ot := fun ρ => (R ρ).bind fun o => match o with
  | .ex x ρ' => (m x).bind fun k => if k = true then (Rs ρ').bind noEx else some (.ex x ρ')
  | o => some o
abbrev WF : WX := fun _ _ _ _ => False
theorem sq_try_only {x : Str} {c : Value} {body suite : List Stmt} {b₀ : Stmt} {np pos' : Pos} {m : Nat → Option Bool} {Rs : En → Option Ot} (hs : X.stack = X.env :: X.outer) (hf : X.env.frame = some X.env.locals) (hc : Names X x c) (tk : Takes X W)
    (hm : ∀ y a k, m y = some k → FnTab.tab y = some a → PySem.W.exmOne X.K (.ref a) c = some k)
    (hb : ∀ (W : WX) (pn : List (Addr × Obj)) (xe : Value → Shared → Prop), Takes (X.tr pn xe) W → PassesOwn (model X.prog X.w) X.A X.env xe → PSs (X.tr pn xe) body (tQs X.K W pb R))
    (hsu : ∀ (a : Addr) (pn : List (Addr × Obj)), PSs (X.suite a pn) (b₀ :: suite) (tQs X.K WF pb Rs)) :
    PS X (.Try body [.ExceptHandler (some (.Name x np)) none (b₀ :: suite) pos'] [] [] pos) (tQs X.K W pb (sTry m R Rs)) :=
  PS.weaken (ps_try_only (ts := fun _ _ _ => tQs X.K WF pb Rs) hs hf hc tk hb (fun a oe cls d pn _ _ => hsu a _)) fun D σ H ⟨pa, Hf0, H0, ρ, Hf, o, F, hp, e, p⟩ => by
    obtain ⟨o1, e1, e⟩ := Option.bind_eq_some_iff.mp e
    refine ⟨pa, Hf0, H0, ρ, Hf, o1, F, hp, e1, ?_⟩
    cases o1 with
    | nx ρ' => cases e; exact p
    | rt d ρ' => cases e; exact p
    | bk ρ' => cases e; exact p
    | ct ρ' => cases e; exact p
    | ex y ρ' =>
      obtain ⟨k, e2, e⟩ := Option.bind_eq_some_iff.mp e
      refine fun cls dd σ' Hf' H' F' sm hp' xr => ?_
      obtain ⟨rfl, C, ht, rfl⟩ := xr
      refine ⟨k, hm y C k e2 ht, fun hk a ha => ?_, fun hk => ?_⟩
      · rw [if_pos hk] at e
        obtain ⟨o2, e3, e4⟩ := Option.bind_eq_some_iff.mp e
        refine ⟨pa, Hf0, H0, ρ', Hf', o2, F', hp', e3, ?_⟩
        have p := p.mono sm
        cases o2 with
        | nx ρ' => cases e4; exact p
        | rt d ρ' => cases e4; exact p
        | bk ρ' => cases e4; exact p
        | ct ρ' => cases e4; exact p
        | ex y ρ' => cases e4
      · rw [if_neg (by rw [hk]; exact Bool.false_ne_true)] at e
        cases e
        exact p _ _ σ' Hf' H' F' sm hp' ⟨rfl, C, ht, rfl⟩
/-- what is asked of a caught exception: slot i bears it, the answer is b -/
def tXi (i : Nat) (a : Addr) (b : Bool) : TE := fun σ H Q => σ[i]? = some (some (.ref a)) ∧ Q (.bl b) H
theorem px_not {i : Nat} {x : Addr} {k : Bool} (h : PE X e (tXi i x k)) : PE X (.UnaryOp .Not e pos) (tXi i x (!k)) := PE.weaken (pe_not h) fun σ H Q ⟨h1, q⟩ => ⟨h1, _, rfl, q⟩
theorem px_one {op : BoolOp} {i : Nat} {x : Addr} {k : Bool} (h : PE X e (tXi i x k)) : PE X (.BoolOp op [e] pos) (tXi i x k) := pe_one h
theorem px_and {c : Expr} {r : List Expr} {i : Nat} {x : Addr} {k j : Bool} (h : PE X e (tXi i x k)) (h2 : PE X (.BoolOp .And (c :: r) pos) (tXi i x j)) : PE X (.BoolOp .And (e :: c :: r) pos) (tXi i x (k && j)) := PE.weaken (pe_and h h2) fun σ H Q ⟨h1, q⟩ => by
  cases k with
  | true => exact ⟨h1, true, rfl, iteT ⟨h1, q⟩⟩
  | false => exact ⟨h1, false, rfl, iteF q⟩
theorem px_isi {i : Nat} {x D : Addr} {oe : Obj} {pn : List (Addr × Obj)} {c : V} {cv : Value} {k : Bool} {p : Pos} (C : ExcC X.K D) (hz : Zc (.ref D) none oe) (hf : ∃ vs, oe.data = .fields vs) (hg : Gl X "isinstance") (hm : X.mg "isinstance" = none) (hv : bootBuiltins "isinstance" = some (.builtin "isinstance"))
    (ha : PE (X.suite x ((x, oe) :: pn)) a (tVar i)) (hb : PE (X.suite x ((x, oe) :: pn)) b (tC c)) (hc : ∀ u, RelV c u → u = cv) (hk : PySem.W.kitOne X.K (.ref D) cv = some k)
    (he : starEach [a, b] X.env = (false, eval a X.env) :: starEach [b] X.env := by rfl) (he2 : starEach [b] X.env = (false, eval b X.env) :: starEach [] X.env := by rfl) (hpl : (backTo pos (starEach [b] X.env)).any (·.1) = false := by rfl) : PE (X.suite x ((x, oe) :: pn)) (.Call (.Name "isinstance" p) [a, b] [] pos) (tXi i x k) :=
  PE.weaken (pe_callB (call_isE C hz hf) hg hm hv (pa_cons ha (pa_cons hb pa_nil he2) he) (he := he) (hpl := hpl)) fun σ H Q ⟨h1, q⟩ => ⟨_, h1, c, cv, k, rfl, hc, hk, q⟩
/-- try: body, except c as n: y = what is asked of n -/
def sTryB (m bx : Nat → Option Bool) (i j : Nat) (R : En → Option Ot) : En → Option Ot := fun ρ => (R ρ).bind fun o => match o with
  | .ex x ρ' => (m x).bind fun k => if k = true then (ρ'[i]?).bind fun _ => (bx x).map fun b => .nx (((ρ'.set i .un).set j (.val (.bool b))).set i .un) else some (.ex x ρ')
  | o => some o
theorem sq_try_as {x n y : Str} {c : Value} {i j : Nat} {body : List Stmt} {eb : Expr} {np pos' py ps : Pos} {m bx : Nat → Option Bool} (hs : X.stack = X.env :: X.outer) (hf : X.env.frame = some X.env.locals) (hN : X.N.Nodup) (hi : X.N[i]? = some n) (hln : X.env.kindOf n = some .local)
    (hj : X.N[j]? = some y) (hy : Loc X.env.scope y) (hpi : pb = false ∨ i ≠ 0) (hpj : pb = false ∨ j ≠ 0) (hc : Names X x c) (tk : Takes X W)
    (hm : ∀ y a k, m y = some k → FnTab.tab y = some a → PySem.W.exmOne X.K (.ref a) c = some k)
    (hb : ∀ (W : WX) (pn : List (Addr × Obj)) (xe : Value → Shared → Prop), Takes (X.tr pn xe) W → PassesOwn (model X.prog X.w) X.A X.env xe → PSs (X.tr pn xe) body (tQs X.K W pb R))
    (he : ∀ (a : Addr) (oe : Obj) (pn : List (Addr × Obj)) (z : Nat) (C : Addr) (k : Bool), bx z = some k → FnTab.tab z = some C → Zc (.ref C) none oe → (∃ vs, oe.data = .fields vs) → PE (X.suite a ((a, oe) :: pn)) eb (tXi i a k))
    (hsw : swapsWith eb (some (.Name y py)) ps.line X.env = pure false := by rfl) (hfy : X.fn y = true ∨ X.env.scope.names.lookup y = some .local := by first | exact .inl rfl | exact .inr rfl | assumption) :
    PS X (.Try body [.ExceptHandler (some (.Name x np)) (some n) [.Assign [.Name y py] eb ps] pos'] [] [] pos) (tQs X.K W pb (sTryB m bx i j R)) :=
  PS.weaken (ps_try_as (ts := fun a cls d => fun D σ H => ∃ (z : Nat) (C : Addr) (k : Bool), FnTab.tab z = some C ∧ bx z = some k ∧ cls = .ref C ∧ d = none ∧ σ[i]? = some (some (.ref a)) ∧ D.nx (σ.set j (some (.bl k))) H) hs hf hN hi hln hc tk hb (fun a oe cls d pn hz hd =>
    ⟨fun pins s σ H D I h => by
      obtain ⟨z, C, k, ht, hk, rfl, rfl, hσ, hD⟩ := h
      exact (pss_one (ps_set (X := X.suite a ((a, oe) :: pn)) hN hj hy (he a oe pn z C k hk ht hz hd) hsw hfy)).run pins s σ H D I ⟨hσ, hD⟩⟩)) fun D σ H ⟨pa, Hf0, H0, ρ, Hf, o, F, hp, e, p⟩ => by
    obtain ⟨o1, e1, e⟩ := Option.bind_eq_some_iff.mp e
    refine ⟨pa, Hf0, H0, ρ, Hf, o1, F, hp, e1, ?_⟩
    cases o1 with
    | nx ρ' => cases e; exact p
    | rt d ρ' => cases e; exact p
    | bk ρ' => cases e; exact p
    | ct ρ' => cases e; exact p
    | ex z ρ' =>
      obtain ⟨k, e2, e⟩ := Option.bind_eq_some_iff.mp e
      refine fun cls dd σ' Hf' H' F' sm hp' xr => ?_
      obtain ⟨rfl, C, ht, rfl⟩ := xr
      refine ⟨k, hm z C k e2 ht, fun hk a ha => ?_, fun hk => ?_⟩
      · rw [if_pos hk] at e
        obtain ⟨s0, e3, e4⟩ := Option.bind_eq_some_iff.mp e
        obtain ⟨b, e5, rfl⟩ := Option.map_eq_some_iff.mp e4
        have hl : i < σ'.length := F'.st.some_at (List.getElem?_eq_some_iff.mp e3).1
        refine ⟨z, C, b, ht, e5, rfl, rfl, List.getElem?_set_self hl, ?_⟩
        exact p _ Hf' H' ⟨F'.ext, ((F'.st.un i (some (.ref a))).setV j (.bl b)).un i none⟩ sm (((hp'.set hpi).set hpj).set hpi)
      · rw [if_neg (by rw [hk]; exact Bool.false_ne_true)] at e
        cases e
        exact p _ _ σ' Hf' H' F' sm hp' ⟨rfl, C, ht, rfl⟩
end
/-! ### defs -/
section
variable {P : Program} {w : World} {K : PySem.W.Frag} {mg : Str → Option Value} {base : Heap}
abbrev Rx := Except Nat D
def spX (K : PySem.W.Frag) (n : Nat) (φ : List D → Option Rx) : Sp := fun vs H Q E => ∃ Hf ds r, ds.length = n ∧ Same Hf H ∧ RpAll K Hf vs ds ∧ φ ds = some r ∧ match r with
  | .ok d => ∀ v Hf' H', Ext Hf H Hf' H' → Rp K Hf' v d → Q v H'
  | .error x => ∀ cls dd Hf' H', Ext Hf H Hf' H' → XRep x cls dd → E cls dd H'
theorem spX_len {n : Nat} {φ : List D → Option Rx} {vs : List V} {H : Hp} {Q : VK} {E : XK} (h : spX K n φ vs H Q E) : vs.length = n := by
  obtain ⟨Hf, ds, r, rfl, _, rr, _⟩ := h
  exact rr.length
def runX (n : Nat) (R : En → Option Ot) (ds : List D) : Option Rx := (R (start0 n ds)).bind fun o => match o with
  | .rt d _ => some (.ok d)
  | .nx _ => some (.ok .none)
  | .ex x _ => some (.error x)
  | _ => none
/-- a def that may raise -/
theorem fn_x {x qual : Str} {st : Stmt} {f : Addr} {fd : FuncData} {N ps : List Str} {k : Nat} {R : En → Option Ot} (F : Fun K x qual st f fd) (S : FnScope N ps (defScope st))
    (hb : ∀ (cdv : Value) (A : Around) (outer : List Env) (s : Shared) (H : Hp) (E : XK), Rg k (A.deeper (envOfC qual (defScope st) s.heap.objs.size f cdv)) → PSs (cxOf (L2.CX P w) P w K mg base N qual (defScope st) f cdv A outer s H E) (defBody st) (tQs K (fun c d _ H' => E c d H') false R)) :
    FnG P w K mg base (L2.CX P w) (k + 1) f fd ps (spX K ps.length (runX N.length R)) := by
  refine okXG F S (fun vs H Q E h => spX_len h) (fun cdv A outer s H vs Q E hr h => ⟨_, hb cdv A outer s H E hr, ?_⟩)
  obtain ⟨Hf, ds, r, hl, sub, rr, e, q⟩ := h
  obtain ⟨o, e1, e2⟩ := Option.bind_eq_some_iff.mp e
  refine ⟨0, Hf, H, _, Hf, o, ⟨.refl sub, start_ok sub rr⟩, (fun z => by cases z), e1, ?_⟩
  cases o with
  | rt d' ρ' => cases e2; exact fun v σ' Hf' H' F' _ _ r' => q v Hf' H' F'.ext r'
  | nx ρ' => cases e2; exact fun σ' Hf' H' F' _ _ => q _ Hf' H' F'.ext .non
  | ex z ρ' => cases e2; exact fun c d σ' Hf' H' F' _ _ xr => q c d Hf' H' F'.ext xr
  | bk ρ' => cases e2
  | ct ρ' => cases e2
/-- a def without exceptions to the outside, its body with effects -/
def runQ (n : Nat) (R : En → Option Ot) (ds : List D) : Option D := (R (start0 n ds)).bind fun o => match o with
  | .rt d _ => some d
  | .nx _ => some .none
  | _ => none
theorem fn_q {x qual : Str} {st : Stmt} {f : Addr} {fd : FuncData} {N ps : List Str} {k : Nat} {R : En → Option Ot} (F : Fun K x qual st f fd) (S : FnScope N ps (defScope st))
    (hb : ∀ (cdv : Value) (A : Around) (outer : List Env) (s : Shared) (H : Hp) (E : XK), Rg k (A.deeper (envOfC qual (defScope st) s.heap.objs.size f cdv)) → PSs (cxOf CX0 P w K mg base N qual (defScope st) f cdv A outer s H E).nox (defBody st) (tQs K WF false R)) :
    FnG P w K mg base CX0 (k + 1) f fd ps (spPu K ps.length (runQ N.length R)) := by
  refine okG F S (fun vs H Q E h => spPu_len h) (fun cdv A outer s H vs Q E hr h => ⟨_, hb cdv A outer s H E hr, ?_⟩)
  obtain ⟨Hf, ds, d, hl, sub, r, e, q⟩ := h
  obtain ⟨o, e1, e2⟩ := Option.bind_eq_some_iff.mp e
  refine ⟨0, Hf, H, _, Hf, o, ⟨.refl sub, start_ok sub r⟩, (fun z => by cases z), e1, ?_⟩
  cases o with
  | rt d' ρ' => cases e2; exact fun v σ' Hf' H' F' _ _ r' => q v Hf' H' F'.ext r'
  | nx ρ' => cases e2; exact fun σ' Hf' H' F' _ _ => q _ Hf' H' F'.ext .non
  | ex z ρ' => cases e2
  | bk ρ' => cases e2
  | ct ρ' => cases e2
/-- a def that may raise, by its name -/
structure Fx (P : Program) (w : World) (K : PySem.W.Frag) (mg : Str → Option Value) (base : Heap) (k : Nat) (x : Str) (n : Nat) (φ : List D → Option Rx) : Prop where
  ex : ∃ f fd ps, FnG P w K mg base (L2.CX P w) k f fd ps (spX K n φ) ∧ mg x = some (.ref f) ∧ PySem.W.keepIn K (.ref f) = true ∧ Binds K fd ps []
theorem Fx.none {k n : Nat} {x : Str} {f : Addr} {fd : FuncData} {ps : List Str} (h1 : mg x = some (.ref f)) (h2 : PySem.W.keepIn K (.ref f) = true) (h3 : Binds K fd ps []) : Fx P w K mg base k x n fun _ => Option.none := by
  have no : ∀ vs H Q E, ¬ spX K n (fun _ => Option.none) vs H Q E := fun vs H Q E h => by
    obtain ⟨Hf, ds, r, _, _, _, h1, _⟩ := h
    cases h1
  exact ⟨f, fd, ps, ⟨fun vs H Q E h => absurd h (no vs H Q E), fun A outer s H args us vs Q E _ _ _ _ h => absurd h (no vs H Q E)⟩, h1, h2, h3⟩
def ofRx (ρ : En) : Rx → Rz D
  | .ok d => .ok d ρ
  | .error x => .ex x ρ
def gCallX (n : Nat) (φ : List D → Option Rx) (gs : En → Option (Rz (List D))) : En → Option (Rz D) := qb gs fun ds ρ => if ds.length = n then (φ ds).map (ofRx ρ) else none
theorem qv_callX {X : Cx} {W : WX} {e : Expr} {es : List Expr} {pos : Pos} {gs : En → Option (Rz (List D))} {k j n : Nat} {x : Str} {p : Pos} {φ : List D → Option Rx} (F : Fx X.prog X.w X.K X.mg X.base k x n φ) (tk : Takes X W) (hr : Rg j X.A) (hk : k ≤ j) (hg : Gl X x) (ha : PA X (e :: es) (tQa X.K W gs)) (hdb : (x == ("__debug__" : Str)) = false := by decide)
    (he : starEach (e :: es) X.env = (false, eval e X.env) :: starEach es X.env := by rfl) (hpl : (backTo pos (starEach es X.env)).any (·.1) = false := by rfl) : PE X (.Call (.Name x p) (e :: es) [] pos) (tQv X.K W (gCallX n φ gs)) := by
  obtain ⟨f, fd, ps, F1, F2, F3, F4⟩ := F.ex
  refine PE.weaken (pe_callSG F1 (hr.mono hk) hg F2 F3 F4 (passAt tk) ha hdb he hpl) fun σ H Q ⟨H0, ρ, Hf, r, S, e, p⟩ => ?_
  obtain ⟨r1, e1, p1⟩ := p.bind e
  refine ⟨H0, ρ, Hf, r1, S, e1, p1.imp fun ds ρ1 Hf1 H1 S1 X1 ⟨e2, p2⟩ vs rvs => ?_⟩
  split at e2
  · rename_i hl
    obtain ⟨u, e3, rfl⟩ := Option.map_eq_some_iff.mp e2
    refine ⟨Hf1, ds, u, hl, S1.sub, rvs, e3, ?_⟩
    cases u with
    | ok d => exact fun v Hf2 H2 x2 r2 => p2 Hf2 H2 (S1.ext x2) (.of x2) v r2
    | error z => exact fun c d Hf2 H2 x2 xr => p2 c d Hf2 H2 (S1.ext x2) (.of x2) xr
  · cases e2
end
/-! ### is None -/
def isN : D → Bool
  | .none => true
  | _ => false
theorem isN_of {K : PySem.W.Frag} {H : Hp} {v : V} {d : D} (h : Rp K H v d) : decide (v = .non) = isN d := by
  cases h <;> rfl
def dIs : D → D → Option D
  | a, .none => some (.bool (isN a))
  | _, _ => none
def dIsNot : D → D → Option D
  | a, .none => some (.bool (!isN a))
  | _, _ => none
theorem or_is {X : Cx} : OpR X (compareOp .Is) (rPv2 X.K dIs) := OpR.weaken op_isN fun x y H Q ⟨Hf, a, b, d, s, ra, rb, e, q⟩ => by
  unfold dIs at e
  split at e
  · cases e
    exact ⟨rb.non_inv, by rw [isN_of ra]; exact q _ Hf H (.refl s) (.bl _)⟩
  · cases e
theorem or_isnot {X : Cx} : OpR X (compareOp .IsNot) (rPv2 X.K dIsNot) := OpR.weaken op_notN fun x y H Q ⟨Hf, a, b, d, s, ra, rb, e, q⟩ => by
  unfold dIsNot at e
  split at e
  · cases e
    exact ⟨rb.non_inv, by rw [isN_of ra]; exact q _ Hf H (.refl s) (.bl _)⟩
  · cases e
theorem bt_ValueError : bootBuiltins "ValueError" = some (.type "ValueError") := by decide +kernel
theorem cls_of {K : PySem.W.Frag} {C : Addr} (h2 : PySem.W.isClsIn K C = true) (h3 : PySem.W.typeIn K (.ref C) = some (.type "type")) : ((PySem.W.clsIn K C).isSome && PySem.W.typeIn K (.ref C) == some (.type "type")) = true := by
  have h2' : (PySem.W.clsIn K C).isSome = true := h2
  rw [h2', h3]; rfl
theorem exm_of {K : PySem.W.Frag} {R C : Addr} {b : Bool} (h1 : PySem.W.subIn K (.ref C) (.type "BaseException") = some true) (h2 : PySem.W.isClsIn K C = true) (h3 : PySem.W.typeIn K (.ref C) = some (.type "type")) (h4 : PySem.W.subIn K (.ref R) (.ref C) = some b) : PySem.W.exmOne K (.ref R) (.ref C) = some b := by
  have e1 : (PySem.W.subIn K (.ref C) (.type "BaseException") == some true) = true := by rw [h1]; rfl
  show (if (PySem.W.subIn K (.ref C) (.type "BaseException") == some true) = true then (if ((PySem.W.clsIn K C).isSome && PySem.W.typeIn K (.ref C) == some (.type "type")) = true then PySem.W.subIn K (.ref R) (.ref C) else none) else none) = some b
  rw [if_pos e1, if_pos (cls_of h2 h3)]
  exact h4
theorem kit_of {K : PySem.W.Frag} {R C : Addr} {b : Bool} (ne : R ≠ C) (h2 : PySem.W.isClsIn K C = true) (h3 : PySem.W.typeIn K (.ref C) = some (.type "type")) (h4 : PySem.W.subIn K (.ref R) (.ref C) = some b) : PySem.W.kitOne K (.ref R) (.ref C) = some b := by
  have e1 : (Value.ref R == Value.ref C) = false := by
    rw [beq_eq_false_iff_ne]
    intro z
    injection z with z
    exact ne z
  show (if (Value.ref R == Value.ref C) = true then some true else (if ((PySem.W.clsIn K C).isSome && PySem.W.typeIn K (.ref C) == some (.type "type")) = true then PySem.W.subIn K (.ref R) (.ref C) else none)) = some b
  rw [e1, if_neg Bool.false_ne_true, if_pos (cls_of h2 h3)]
  exact h4
theorem kit_ofT {K : PySem.W.Frag} {R : Addr} {T : String} {b : Bool} (h2 : PySem.W.kitMeta T = true) (h4 : PySem.W.subIn K (.ref R) (.type T) = some b) : PySem.W.kitOne K (.ref R) (.type T) = some b := by
  have e1 : (Value.ref R == Value.type T) = false := by
    rw [beq_eq_false_iff_ne]
    intro z
    cases z
  show (if (Value.ref R == Value.type T) = true then some true else (if PySem.W.kitMeta T = true then PySem.W.subIn K (.ref R) (.type T) else none)) = some b
  rw [e1, if_neg Bool.false_ne_true, if_pos h2]
  exact h4
end Pu

namespace Pu
open PySem PySem.Spec PyProof PyProof.Rows L2
variable [FnTab]
/-! ### a list that is passed and changed: the first parameter -/
section
variable {P : Program} {w : World} {K : PySem.W.Frag} {mg : Str → Option Value} {base : Heap}
def delH (H : Hp) (a : Addr) : Hp := fun b => if b = a then none else H b
abbrev Rs2 := Rx × List D
def spS (K : PySem.W.Frag) (n : Nat) (ψ : List D → List D → Option Rs2) : Sp := fun vs H Q E => ∃ a us ws Hf ss ds r, vs = .ref a :: ws ∧ ds.length = n ∧ Same Hf H ∧ H a = some (.lst us) ∧ Hf a = none ∧ RpAll K Hf us ss ∧ RpAll K Hf ws ds ∧ ψ ss ds = some r ∧
  match r with
  | (.ok d, ss') => ∀ v Hf' H' us', Ext Hf (delH H a) Hf' H' → H' a = some (.lst us') → Hf' a = none → RpAll K Hf' us' ss' → Rp K Hf' v d → Q v H'
  | (.error x, ss') => ∀ cls dd Hf' H' us', Ext Hf (delH H a) Hf' H' → H' a = some (.lst us') → Hf' a = none → RpAll K Hf' us' ss' → XRep x cls dd → E cls dd H'
theorem spS_len {n : Nat} {ψ : List D → List D → Option Rs2} {vs : List V} {H : Hp} {Q : VK} {E : XK} (h : spS K n ψ vs H Q E) : vs.length = n + 1 := by
  obtain ⟨a, us, ws, Hf, ss, ds, r, rfl, rfl, _, _, _, _, rr, _⟩ := h
  rw [List.length_cons, rr.length]
def startS (n : Nat) (ss ds : List D) : En := .own ss :: start0 n ds
def runS (n : Nat) (R : En → Option Ot) (ss ds : List D) : Option Rs2 := (R (startS n ss ds)).bind fun o => match o with
  | .rt d ρ => (ownAt 0 ρ).map fun ss' => (.ok d, ss')
  | .nx ρ => (ownAt 0 ρ).map fun ss' => (.ok .none, ss')
  | .ex x ρ => (ownAt 0 ρ).map fun ss' => (.error x, ss')
  | _ => none
theorem del_same {H : Hp} {a : Addr} : delH H a a = none := by unfold delH; simp
theorem del_ne {H : Hp} {a b : Addr} (h : b ≠ a) : delH H a b = H b := by unfold delH; simp [h]
theorem startS_ok {Hf H : Hp} {n : Nat} {N : List Str} {a : Addr} {us : List V} {vs : List V} {ss ds : List D} (hn : N.length = n + 1) (s : Same Hf H) (ha : H a = some (.lst us)) (hf : Hf a = none) (rs : RpAll K Hf us ss) (r : RpAll K Hf vs ds) :
    StOk K (delH H a) (startS n ss ds) (start N (.ref a :: vs)) Hf H := by
  obtain ⟨x, N', rfl⟩ : ∃ x N', N = x :: N' := by
    cases N with
    | nil => simp at hn
    | cons x N' => exact ⟨x, N', rfl⟩
  have hn' : N'.length = n := by simpa using hn
  subst hn'
  have S0 := start_ok (K := K) (H0 := delH H a) (N := N') s r
  have e : start (x :: N') (.ref a :: vs) = some (.ref a) :: start N' vs := by
    unfold L2.start
    simp
  rw [e]
  refine ⟨s, fun i sl h => ?_, fun i j es es' b ne e1 e2 f => ?_⟩
  · cases i with
    | zero => cases h; exact ⟨_, rfl, a, us, rfl, del_same, ha, hf, rs⟩
    | succ i => exact S0.at_ i sl h
  · have no : ∀ (k : Nat) (es : List D), (start0 N'.length ds)[k]? ≠ some (.own es) := fun k es z => by
      unfold start0 at z
      by_cases hk : k < ds.length
      · rw [List.getElem?_append_left (by simpa using hk), List.getElem?_map] at z
        obtain ⟨d, _, z⟩ := Option.map_eq_some_iff.mp z
        cases z
      · rw [List.getElem?_append_right (by simpa using hk), List.getElem?_replicate] at z
        split at z <;> cases z
    cases i with
    | succ i => exact (no i es e1).elim
    | zero => cases j with
      | succ j => exact (no j es' e2).elim
      | zero => exact (ne rfl).elim
/-- a def with a list that it may change -/
theorem fn_s {x qual : Str} {st : Stmt} {f : Addr} {fd : FuncData} {N ps : List Str} {k n : Nat} {R : En → Option Ot} (F : Fun K x qual st f fd) (S : FnScope N ps (defScope st)) (hps : ps.length = n + 1) {m : Nat} (hN : N.length = m + 1)
    (hb : ∀ (cdv : Value) (A : Around) (outer : List Env) (s : Shared) (H : Hp) (E : XK), Rg k (A.deeper (envOfC qual (defScope st) s.heap.objs.size f cdv)) → PSs (cxOf (L2.CX P w) P w K mg base N qual (defScope st) f cdv A outer s H E) (defBody st) (tQs K (fun c d _ H' => E c d H') true R)) :
    FnG P w K mg base (L2.CX P w) (k + 1) f fd ps (spS K n (runS m R)) := by
  refine okXG F S (fun vs H Q E h => by rw [spS_len h, hps]) (fun cdv A outer s H vs Q E hr h => ⟨_, hb cdv A outer s H E hr, ?_⟩)
  obtain ⟨a, us, ws, Hf, ss, ds, r, rfl, hl, sub, ha, hf, rs, rr, e, q⟩ := h
  obtain ⟨o, e1, e2⟩ := Option.bind_eq_some_iff.mp e
  have st := startS_ok (K := K) hN sub ha hf rs rr
  have fr : Fr K Hf (delH H a) (startS m ss ds) (start N (.ref a :: ws)) Hf H := ⟨⟨fun b o h => by
    have : b ≠ a := fun z => by rw [z, del_same] at h; cases h
    rw [del_ne this] at h; exact h, Same.refl _, sub, fun b o h z => z⟩, st⟩
  have pin : Pin true a (start N (.ref a :: ws)) := fun _ => by
    obtain ⟨o, e, b, vs, rfl, _⟩ := st.at_ 0 _ (show (startS m ss ds)[0]? = some (.own ss) from rfl)
    rw [e]
    cases N with
    | nil => simp at hN
    | cons x N' =>
      unfold L2.start at e
      simp at e
      rw [e]
  have fin : ∀ {ρ' : En} {ss' : List D} {σ' : L2.St} {Hf' H' : Hp}, ownAt 0 ρ' = some ss' → Fr K Hf (delH H a) ρ' σ' Hf' H' → Pin true a σ' → ∃ us', H' a = some (.lst us') ∧ Hf' a = none ∧ RpAll K Hf' us' ss' := fun {ρ' ss' σ' Hf' H'} h F' p' => by
    obtain ⟨o, f, b, vs, rfl, g0, g1, g2, g3⟩ := F'.st.at_ 0 _ (ownAt_some h)
    rw [p' rfl] at f
    cases f
    exact ⟨vs, g1, g2, g3⟩
  refine ⟨a, Hf, delH H a, _, Hf, o, fr, pin, e1, ?_⟩
  cases o with
  | rt d' ρ' =>
    obtain ⟨ss', e3, rfl⟩ := Option.map_eq_some_iff.mp e2
    exact fun v σ' Hf' H' F' _ p' r' => let ⟨us', h1, h2, h3⟩ := fin e3 F' p'; q v Hf' H' us' F'.ext h1 h2 h3 r'
  | nx ρ' =>
    obtain ⟨ss', e3, rfl⟩ := Option.map_eq_some_iff.mp e2
    exact fun σ' Hf' H' F' _ p' => let ⟨us', h1, h2, h3⟩ := fin e3 F' p'; q _ Hf' H' us' F'.ext h1 h2 h3 .non
  | ex z ρ' =>
    obtain ⟨ss', e3, rfl⟩ := Option.map_eq_some_iff.mp e2
    exact fun c d σ' Hf' H' F' _ p' xr => let ⟨us', h1, h2, h3⟩ := fin e3 F' p'; q c d Hf' H' us' F'.ext h1 h2 h3 xr
  | bk ρ' => cases e2
  | ct ρ' => cases e2
structure Fs (P : Program) (w : World) (K : PySem.W.Frag) (mg : Str → Option Value) (base : Heap) (k : Nat) (x : Str) (n : Nat) (ψ : List D → List D → Option Rs2) : Prop where
  ex : ∃ f fd ps, FnG P w K mg base (L2.CX P w) k f fd ps (spS K n ψ) ∧ mg x = some (.ref f) ∧ PySem.W.keepIn K (.ref f) = true ∧ Binds K fd ps []
theorem Fs.none {k n : Nat} {x : Str} {f : Addr} {fd : FuncData} {ps : List Str} (h1 : mg x = some (.ref f)) (h2 : PySem.W.keepIn K (.ref f) = true) (h3 : Binds K fd ps []) : Fs P w K mg base k x n fun _ _ => Option.none := by
  have no : ∀ vs H Q E, ¬ spS K n (fun _ _ => Option.none) vs H Q E := fun vs H Q E h => by
    obtain ⟨a, us, ws, Hf, ss, ds, r, _, _, _, _, _, _, _, h1, _⟩ := h
    cases h1
  exact ⟨f, fd, ps, ⟨fun vs H Q E h => absurd h (no vs H Q E), fun A outer s H args us vs Q E _ _ _ _ h => absurd h (no vs H Q E)⟩, h1, h2, h3⟩
def ofRs (i : Nat) (ρ : En) : Rs2 → Rz D
  | (.ok d, ss) => .ok d (ρ.set i (.own ss))
  | (.error x, ss) => .ex x (ρ.set i (.own ss))
def gCallS (i n : Nat) (ψ : List D → List D → Option Rs2) (gs : En → Option (Rz (List D))) : En → Option (Rz D) := fun ρ => (ownAt i ρ).bind fun _ => qb gs (fun ds ρ => (ownAt i ρ).bind fun ss => if ds.length = n then (ψ ss ds).map (ofRs i ρ) else none) ρ
/-- what a call leaves of the caller's slots -/
theorem call_st {H0 Hf H Hf' H' : Hp} {ρ : En} {σ : L2.St} {i : Nat} {a : Addr} {ss ss' : List D} {us' : List V} (S : StOk K H0 ρ σ Hf H) (e : ρ[i]? = some (.own ss)) (f : σ[i]? = some (some (.ref a))) (x : Ext Hf (delH H a) Hf' H') (h1 : H' a = some (.lst us')) (h2 : Hf' a = none) (r : RpAll K Hf' us' ss') :
    StOk K H0 (ρ.set i (.own ss')) σ Hf' H' ∧ Xq ρ σ Hf H (ρ.set i (.own ss')) Hf' H' := by
  obtain ⟨o0, f0, a0, vs0, rfl, g0, g1, g2, _⟩ := S.at_ i _ e
  rw [f] at f0
  cases f0
  have own_at : ∀ (m : Nat) (us : List D), (ρ.set i (Sl.own ss'))[m]? = some (Sl.own us) → ∃ us' : List D, ρ[m]? = some (Sl.own us') := fun m us q => by
    rcases set_get q with ⟨rfl, _, _⟩ | ⟨_, q⟩
    · exact ⟨ss, e⟩
    · exact ⟨us, q⟩
  have hil : i < ρ.length := (List.getElem?_eq_some_iff.mp e).1
  refine ⟨⟨x.sub, fun j s q => ?_, fun j k ds' es' b ne e1 e2 f1 => ?_⟩, x.fro, fun b o hb nb => ?_, fun b => ?_⟩
  · rcases set_get q with ⟨rfl, hl, rfl⟩ | ⟨ne, q⟩
    · exact ⟨_, f, a, us', rfl, g0, h1, h2, r⟩
    · obtain ⟨o, e1, h⟩ := S.at_ j s q
      refine ⟨o, e1, ?_⟩
      cases s with
      | un => trivial
      | val d => obtain ⟨v, rfl, g⟩ := h; exact ⟨v, rfl, g.mono x.fro⟩
      | own ds' =>
        obtain ⟨b, ws, rfl, k0, k1, k2, k3⟩ := h
        have hb : b ≠ a := fun z => by
          subst z
          exact S.sep j i ds' ss b ne q e e1 f
        have k1' : delH H a b = some (.lst ws) := by rw [del_ne hb]; exact k1
        exact ⟨b, ws, rfl, k0, x.all _ _ k1', x.keep _ _ k1' k2, k3.mono x.fro⟩
  · obtain ⟨u1, q1⟩ := own_at j ds' e1
    obtain ⟨u2, q2⟩ := own_at k es' e2
    exact S.sep j k u1 u2 b ne q1 q2 f1
  · have hba : b ≠ a := fun z => by subst z; exact nb i ss e f
    have hb' : delH H a b = some o := by rw [del_ne hba]; exact hb
    exact ⟨x.all _ _ hb', x.keep _ _ hb'⟩
  · constructor
    · intro h j ds ej fj
      obtain ⟨u, q⟩ := own_at j ds ej
      exact h j u q fj
    · intro h j ds ej fj
      by_cases hj : j = i
      · subst hj
        exact h j ss' (List.getElem?_set_self hil) fj
      · exact h j ds (by rw [List.getElem?_set_ne (Ne.symm hj)]; exact ej) fj
theorem tCallS_qv {X : Cx} {W : WX} {gs : En → Option (Rz (List D))} {i n : Nat} {ψ : List D → List D → Option Rs2} {t : TA} {σ : L2.St} {H : Hp} {Q : VK} (h : tQv X.K W (gCallS i n ψ gs) σ H Q) :
    tCallS (spS X.K n ψ) (WE W) (tCons (tVar i) (tQa X.K W gs)) σ H Q := by
  obtain ⟨H0, ρ, Hf, r, S, e, p⟩ := h
  obtain ⟨ss0, e0, e⟩ := Option.bind_eq_some_iff.mp e
  obtain ⟨o0, f, a, us0, rfl, g0, g1, g2, rr0⟩ := S.at_ i _ (ownAt_some e0)
  obtain ⟨r1, e1, p1⟩ := p.bind e
  refine ⟨.ref a, f, H0, ρ, Hf, r1, S, e1, p1.imp fun ds ρ1 Hf1 H1 S1 X1 ⟨e2, p2⟩ vs rvs => ?_⟩
  obtain ⟨ss, e3, e2⟩ := Option.bind_eq_some_iff.mp e2
  have e3 := ownAt_some e3
  obtain ⟨o1, f1, a1, us, rfl, k0, k1, k2, rr⟩ := S1.at_ i _ e3
  rw [f] at f1
  cases f1
  split at e2
  · rename_i hl
    obtain ⟨u, e4, rfl⟩ := Option.map_eq_some_iff.mp e2
    refine ⟨a, us, vs, Hf1, ss, ds, u, rfl, hl, S1.sub, k1, k2, rr, rvs, e4, ?_⟩
    obtain ⟨ru, ss'⟩ := u
    cases ru with
    | ok d => exact fun v Hf2 H2 us' x2 h1 h2 r2 rv => let ⟨s3, x3⟩ := call_st S1 e3 f x2 h1 h2 r2; p2 Hf2 H2 s3 x3 v rv
    | error z => exact fun c d Hf2 H2 us' x2 h1 h2 r2 xr => let ⟨s3, x3⟩ := call_st S1 e3 f x2 h1 h2 r2; p2 c d Hf2 H2 s3 x3 xr
  · cases e2
theorem qv_callS {X : Cx} {W : WX} {o : Expr} {es : List Expr} {pos : Pos} {gs : En → Option (Rz (List D))} {i k j n : Nat} {x : Str} {p : Pos} {ψ : List D → List D → Option Rs2} (F : Fs X.prog X.w X.K X.mg X.base k x n ψ) (tk : Takes X W) (ho : PE X o (tVar i)) (hr : Rg j X.A) (hk : k ≤ j) (hg : Gl X x) (ha : PA X es (tQa X.K W gs))
    (hdb : (x == ("__debug__" : Str)) = false := by decide) (hs : starEach (o :: es) X.env = (false, eval o X.env) :: starEach es X.env := by rfl) (hpl : (backTo pos (starEach es X.env)).any (·.1) = false := by rfl) : PE X (.Call (.Name x p) (o :: es) [] pos) (tQv X.K W (gCallS i n ψ gs)) := by
  obtain ⟨f, fd, ps, F1, F2, F3, F4⟩ := F.ex
  exact PE.weaken (pe_callSG F1 (hr.mono hk) hg F2 F3 F4 (passAt tk) (pa_cons ho ha hs) hdb hs hpl) fun σ H Q h => tCallS_qv (t := tQa X.K W gs) h
end
end Pu

namespace Pu
open PySem PySem.Spec PyProof PyProof.Rows L2
variable [FnTab]
/-! ### comprehensions whose elements have effects -/
def KeepB (b : D → En → Option En) (L : List Nat) : Prop := ∀ d ρ ρ', b d ρ = some ρ' → ∀ i : Nat, i ∉ L → ρ'[i]? = ρ[i]?
def KeepBs (b : List D → En → Option En) (L : List Nat) : Prop := ∀ d ρ ρ', b d ρ = some ρ' → ∀ i : Nat, i ∉ L → ρ'[i]? = ρ[i]?
theorem kb_name {j : Nat} : KeepB (bName j) [j] := fun d ρ ρ' e i hi => by
  cases (show some (ρ.set j (.val d)) = some ρ' from e)
  exact List.getElem?_set_ne (fun z => hi (by simp [z]))
theorem kb_nil : KeepBs bNil [] := fun d ρ ρ' e i hi => by
  cases d with
  | nil => cases (show some ρ = some ρ' from e); rfl
  | cons _ _ => cases e
theorem kb_cons {b : D → En → Option En} {bs : List D → En → Option En} {L1 L2 : List Nat} (h1 : KeepB b L1) (h2 : KeepBs bs L2) : KeepBs (bCons b bs) (L1 ++ L2) := fun d ρ ρ' e i hi => by
  cases d with
  | nil => cases e
  | cons x xs =>
    obtain ⟨ρ1, e1, e2⟩ := Option.bind_eq_some_iff.mp (show (b x ρ).bind (bs xs) = some ρ' from e)
    exact (h2 _ _ _ e2 i fun z => hi (List.mem_append_right _ z)).trans (h1 _ _ _ e1 i fun z => hi (List.mem_append_left _ z))
theorem kb_tup {n : Nat} {bs : List D → En → Option En} {L : List Nat} (h : KeepBs bs L) : KeepB (bTup n bs) L := fun d ρ ρ' e i hi => by
  cases d with
  | tuple xs =>
    have e : (if xs.length = n then bs xs ρ else none) = some ρ' := e
    split at e
    · exact h _ _ _ e i hi
    · cases e
  | list xs =>
    have e : (if xs.length = n then bs xs ρ else none) = some ρ' := e
    split at e
    · exact h _ _ _ e i hi
    · cases e
  | _ => cases e
def nw : Option Sl → Bool
  | some (.own _) => false
  | _ => true
def noOwnIn (ρ : En) (L : List Nat) : Bool := L.all fun j => nw ρ[j]?
def lcQ (b : D → En → Option En) (t : En → Option Bool) (g : En → Option (Rz D)) (L : List Nat) : List D → List D → En → Option (List D × En)
  | [], acc, ρ => some (acc, ρ)
  | d :: ds, acc, ρ => (b d ρ).bind fun ρ1 => (t ρ1).bind fun c => if c = true then (g ρ1).bind fun r => match r with
      | .ok y ρ2 => if noOwnIn ρ2 L = true then lcQ b t g L ds (acc ++ [y]) (wipeE ρ2 L) else none
      | .ex _ _ => none
    else lcQ b t g L ds acc (wipeE ρ1 L)
def gLcQ (gi : En → Option (Rz (List D))) (b : D → En → Option En) (t : En → Option Bool) (g : En → Option (Rz D)) (L : List Nat) : En → Option (Rz (List D)) := qb gi fun ds ρ => if noOwnIn ρ L = true then (lcQ b t g L ds [] (wipeE ρ L)).bind fun r => if r.1.length ≤ sizeLine then some (.ok r.1 r.2) else none else none
/-- a new list -/
def tQn (K : PySem.W.Frag) (W : WX) (g : En → Option (Rz (List D))) : TE := fun σ H Q => ∃ H0 ρ Hf r, StOk K H0 ρ σ Hf H ∧ g ρ = some r ∧ PostE K W H0 ρ σ Hf H (fun ds _ Hf' H' => ∀ p vs, H p = none → H' p = some (.lst vs) → Hf' p = none → RpAll K Hf' vs ds → Q (.ref p) H') r
theorem wipeE_get : ∀ (vs : List Nat) (ρ : En) (i : Nat), i ∉ vs → (wipeE ρ vs)[i]? = ρ[i]?
  | [], _, _, _ => rfl
  | v :: vs, ρ, i, h => by
    show ((wipeE ρ vs).set v .un)[i]? = _
    rw [List.getElem?_set_ne (fun z => h (by simp [z])), wipeE_get vs ρ i fun z => h (List.mem_cons_of_mem _ z)]
theorem wipeE_len : ∀ (vs : List Nat) (ρ : En), (wipeE ρ vs).length = ρ.length
  | [], _ => rfl
  | v :: vs, ρ => by
    show ((wipeE ρ vs).set v .un).length = _
    rw [List.length_set, wipeE_len vs ρ]
theorem wipeE_un : ∀ (vs : List Nat) (ρ : En) (i : Nat) (s : Sl), i ∈ vs → (wipeE ρ vs)[i]? = some s → s = .un
  | [], _, _, _, h, _ => by cases h
  | v :: vs, ρ, i, s, h, e => by
    have e : ((wipeE ρ vs).set v .un)[i]? = some s := e
    by_cases c : i = v
    · subst c
      by_cases hl : i < (wipeE ρ vs).length
      · rw [List.getElem?_set_self hl] at e; cases e; rfl
      · rw [List.getElem?_eq_none (by simpa using hl)] at e; cases e
    · rw [List.getElem?_set_ne (Ne.symm c)] at e
      exact wipeE_un vs ρ i s (by simpa [c] using h) e
section
variable {K : PySem.W.Frag} {W : WX} {H0 Hf H Hf' H' : Hp} {ρ ρ' : En} {σ σ' : L2.St}
/-- the same slots but those of L -/
theorem StOk.unwipe {L : List Nat} (S : StOk K H0 (wipeE ρ L) (L2.wipe σ L) Hf H) : StOk K H0 (wipeE ρ L) σ Hf H := by
  refine ⟨S.sub, fun i s e => ?_, fun i j ds es a ne e1 e2 f => ?_⟩
  · obtain ⟨o, e1, h⟩ := S.at_ i s e
    by_cases hi : i ∈ L
    · have := wipeE_un L ρ i s hi e
      subst this
      have hl : i < σ.length := by
        have := (List.getElem?_eq_some_iff.mp e1).1
        rwa [wipe_length] at this
      exact ⟨σ[i], List.getElem?_eq_getElem hl, trivial⟩
    · rw [wipe_get L σ i hi] at e1
      exact ⟨o, e1, h⟩
  · have hi := (wipeE_own L ρ i ds e1).2
    have hj := (wipeE_own L ρ j es e2).2
    have := S.sep i j ds es a ne e1 e2 (by rw [wipe_get L σ i hi]; exact f)
    rwa [wipe_get L σ j hj] at this
theorem no_wipe {L : List Nat} {b : Addr} : NotOwn (wipeE ρ L) (L2.wipe σ L) b ↔ NotOwn (wipeE ρ L) σ b := by
  constructor
  · intro h i ds e f
    exact h i ds e (by rw [wipe_get L σ i (wipeE_own L ρ i ds e).2]; exact f)
  · intro h i ds e f
    exact h i ds e (by rw [wipe_get L σ i (wipeE_own L ρ i ds e).2] at f; exact f)
theorem no_wipe2 {L : List Nat} {b : Addr} (hn : noOwnIn ρ L = true) : NotOwn ρ σ b ↔ NotOwn (wipeE ρ L) σ b := by
  constructor
  · intro h i ds e f
    exact h i ds (wipeE_own L ρ i ds e).1 f
  · intro h i ds e f
    have hi : i ∉ L := fun z => by
      have := List.all_eq_true.mp hn i z
      rw [e] at this
      cases this
    exact h i ds (by rw [wipeE_get L ρ i hi]; exact e) f
theorem Xq.unwipe {L : List Nat} (x : Xq (wipeE ρ L) (L2.wipe σ L) Hf H (wipeE ρ' L) Hf' H') (hn : noOwnIn ρ L = true) : Xq ρ σ Hf H (wipeE ρ' L) Hf' H' :=
  ⟨x.fro, fun b o h n => x.oth b o h (no_wipe.mpr ((no_wipe2 hn).mp n)), fun b => ((no_wipe2 hn).trans no_wipe.symm).trans ((x.own b).trans no_wipe)⟩
/-- behind a binder -/
theorem no_bind {b : D → En → Option En} {L1 L : List Nat} {d : D} {p : Addr} (hL : ∀ j ∈ L1, j ∈ L) (nb : NoOwn b) (kb : KeepB b L1) (e : b d (wipeE ρ L) = some ρ') (k : ∀ j : Nat, j ∉ L1 → σ'[j]? = σ[j]?) : NotOwn (wipeE ρ L) σ p ↔ NotOwn ρ' σ' p := by
  constructor
  · intro h i ds ei f
    have e0 := nb _ _ _ e i ds ei
    have hi : i ∉ L1 := fun z => (wipeE_own L ρ i ds e0).2 (hL i z)
    exact h i ds e0 (by rw [← k i hi]; exact f)
  · intro h i ds ei f
    have hi : i ∉ L1 := fun z => (wipeE_own L ρ i ds ei).2 (hL i z)
    exact h i ds (by rw [kb _ _ _ e i hi]; exact ei) (by rw [k i hi]; exact f)
theorem lcQ_len {b : D → En → Option En} {t : En → Option Bool} {g : En → Option (Rz D)} {L : List Nat} {out : List D} {ρo : En} : ∀ (ds acc : List D) (ρ : En), lcQ b t g L ds acc ρ = some (out, ρo) → acc.length ≤ out.length
  | [], acc, ρ, e => by cases e; exact Nat.le_refl _
  | d :: ds, acc, ρ, e => by
    obtain ⟨ρ3, e6, e5⟩ := Option.bind_eq_some_iff.mp e
    obtain ⟨c, e7, e5⟩ := Option.bind_eq_some_iff.mp e5
    cases c with
    | true =>
      rw [if_pos rfl] at e5
      obtain ⟨r8, e8, e5⟩ := Option.bind_eq_some_iff.mp e5
      cases r8 with
      | ex x ρ6 => cases e5
      | ok dy ρ6 =>
        simp only at e5
        split at e5
        · have := lcQ_len ds _ _ e5
          rw [List.length_append, List.length_singleton] at this
          omega
        · cases e5
    | false =>
      rw [if_neg Bool.false_ne_true] at e5
      exact lcQ_len ds _ _ e5
structure LqS (K : PySem.W.Frag) (Hs Hfs : Hp) (H0 : Hp) (ρ0 : En) (σ : L2.St) (p : Addr) (acc : List D) (ρ : En) (Hf H : Hp) : Prop where
  xq : Xq ρ0 σ Hfs Hs ρ Hf H
  st : StOk K H0 ρ σ Hf H
  own : ∃ vs, H p = some (.lst vs) ∧ RpAll K Hf vs acc
  fp : Hf p = none
  no : NotOwn ρ σ p
theorem LqS.step {Hs Hfs : Hp} {ρ0 : En} {p : Addr} {acc : List D} (F : LqS K Hs Hfs H0 ρ0 σ p acc ρ Hf H) (S : StOk K H0 ρ' σ Hf' H') (x : Xq ρ σ Hf H ρ' Hf' H') : LqS K Hs Hfs H0 ρ0 σ p acc ρ' Hf' H' := by
  obtain ⟨vs, h, r⟩ := F.own
  obtain ⟨h1, h2⟩ := x.oth p _ h F.no
  exact ⟨F.xq.trans x, S, ⟨vs, h1, r.mono x.fro⟩, h2 F.fp, (x.own p).mp F.no⟩
theorem LqS.push {Hs Hfs : Hp} {ρ0 : En} {p : Addr} {acc : List D} {y : V} {d : D} {vs : List V} (F : LqS K Hs Hfs H0 ρ0 σ p acc ρ Hf H) (hs : Hs p = none) (h : H p = some (.lst vs)) (r : RpAll K Hf vs acc) (q : Rp K Hf y d) : LqS K Hs Hfs H0 ρ0 σ p (acc ++ [d]) ρ Hf (L2.upd H p (.lst (vs ++ [y]))) := by
  refine ⟨⟨F.xq.fro, fun b o hb nb => ?_, F.xq.own⟩, F.st.other F.fp F.no, ⟨_, upd_same, r.append (.cons q .nil)⟩, F.fp, F.no⟩
  obtain ⟨h1, h2⟩ := F.xq.oth b o hb nb
  have ne : b ≠ p := fun z => by rw [z, hs] at hb; cases hb
  exact ⟨by rw [upd_ne ne]; exact h1, h2⟩
theorem tLc_qn {gi : En → Option (Rz (List D))} {b : D → En → Option En} {t : En → Option Bool} {g : En → Option (Rz D)} {L L1 : List Nat} (hL : ∀ j ∈ L1, j ∈ L) (nb : NoOwn b) (kb : KeepB b L1) {Q : VK} (h : tQn K W (gLcQ gi b t g L) σ H Q) :
    tLc (tQi K W gi) (tPg K b L1) (tPt K t) (tQv K (fun _ _ _ _ => False) g) L σ H Q := by
  obtain ⟨H0, ρ, Hf, r, S, e, p0⟩ := h
  obtain ⟨r1, e1, p1⟩ := p0.bind e
  refine ⟨H0, ρ, Hf, r1, S, e1, p1.imp fun ds ρ1 Hf1 H1 S1 X1 ⟨e2, p2⟩ J w p hp => ?_⟩
  split at e2
  · rename_i hno
    obtain ⟨⟨out, ρo⟩, e3, e4⟩ := Option.bind_eq_some_iff.mp e2
    simp only at e4
    split at e4
    · rename_i hsz
      cases e4
      have fp1 : Hf1 p = none := S1.sub.free hp
      have hsp : H p = none := by
        cases z : H p with
        | none => rfl
        | some o =>
          by_cases nn : NotOwn ρ σ p
          · rw [(X1.oth p o z nn).1] at hp; cases hp
          · have : ¬ NotOwn ρ1 σ p := fun q => nn ((X1.own p).mpr q)
            refine (this fun i es ei f => ?_).elim
            obtain ⟨o', f', a, vs, rfl, _, g1, _⟩ := S1.at_ i _ ei
            rw [f] at f'
            cases f'
            rw [hp] at g1
            cases g1
      have S2 := S1.wipe L
      have no1 : NotOwn (wipeE ρ1 L) (L2.wipe σ L) p := fun i es ei z => by
        obtain ⟨o, f, a, vs, rfl, _, g1, _⟩ := S2.at_ i _ ei
        rw [f] at z
        cases z
        rw [hp] at g1
        cases g1
      refine ⟨fun i m H' => m = ds.length - i ∧ i ≤ ds.length ∧ ∃ Hf' acc ρ', Same Hf1 Hf' ∧ LqS K H1 Hf1 H0 (wipeE ρ1 L) (L2.wipe σ L) p acc (wipeE ρ' L) Hf' H' ∧ lcQ b t g L (ds.drop i) acc (wipeE ρ' L) = some (out, ρo),
        ⟨_, rfl, Nat.zero_le _, Hf1, [], ρ1, Same.refl _, ⟨⟨Same.refl _, fun b o hb _ => ⟨by rw [upd_ne (ne_of_none hb hp)]; exact hb, id⟩, fun _ => .rfl⟩, S2.other fp1 no1, ⟨[], upd_same, .nil⟩, fp1, no1⟩, e3⟩, ?_⟩
      rintro i m H2 ⟨rfl, hi, Hf2, acc, ρ2, s2, F2, e5⟩
      by_cases hlt : i < ds.length
      · rw [List.drop_eq_getElem_cons hlt] at e5
        obtain ⟨ρ3, e6, e5⟩ := Option.bind_eq_some_iff.mp e5
        obtain ⟨c, e7, e5⟩ := Option.bind_eq_some_iff.mp e5
        refine .inr ⟨w.go i H2 (s2.trans F2.st.sub) hlt, fun H' => i + 1 ≤ ds.length ∧ ∃ Hf' acc ρ', Same Hf1 Hf' ∧ LqS K H1 Hf1 H0 (wipeE ρ1 L) (L2.wipe σ L) p acc (wipeE ρ' L) Hf' H' ∧ lcQ b t g L (ds.drop (i + 1)) acc (wipeE ρ' L) = some (out, ρo),
          fun H' n => ⟨ds.length - (i + 1), by omega, rfl, n.1, n.2⟩, fun x H3 y => ?_⟩
        obtain ⟨Hf3, x3, r3⟩ := w.yld i H2 x H3 Hf2 _ s2 F2.st.sub y (List.getElem?_eq_getElem hlt)
        have F3 := F2.step (F2.st.ext x3) (.of x3)
        refine ⟨H0, wipeE ρ2 L, ρ3, Hf3, _, F3.st, r3, e6, fun σ4 S4 k4 l4 => ⟨?_, H0, ρ3, Hf3, c, S4, e7, fun Hf5 H5 x5 => ?_⟩⟩
        · rw [wipe_eq l4 fun j hj => k4 j fun z => hj (hL j z), wipe_wipe]
        · have F5 := F3.step (F3.st.ext x5) (.of x5)
          have S5 := S4.ext x5
          have hw : L2.wipe σ4 L = L2.wipe σ L := by rw [wipe_eq l4 fun j hj => k4 j fun z => hj (hL j z), wipe_wipe]
          have nbd : ∀ q, NotOwn (wipeE ρ2 L) (L2.wipe σ L) q ↔ NotOwn ρ3 σ4 q := fun q => no_bind hL nb kb e6 k4
          -- what a state behind the element is, for the loop
          have back : ∀ {ρ6 : En} {Hf6 H6 : Hp}, StOk K H0 ρ6 σ4 Hf6 H6 → Xq ρ3 σ4 Hf5 H5 ρ6 Hf6 H6 → noOwnIn ρ6 L = true → LqS K H1 Hf1 H0 (wipeE ρ1 L) (L2.wipe σ L) p acc (wipeE ρ6 L) Hf6 H6 := fun {ρ6 Hf6 H6} S6 X6 hn6 => by
            have S7 := S6.wipe L
            rw [hw] at S7
            have own7 : ∀ q, NotOwn (wipeE ρ2 L) (L2.wipe σ L) q ↔ NotOwn (wipeE ρ6 L) (L2.wipe σ L) q := fun q => by
              rw [← hw]
              rw [← hw] at nbd
              exact (nbd q).trans ((X6.own q).trans ((no_wipe2 hn6).trans no_wipe.symm))
            exact F5.step S7 ⟨X6.fro, fun q o hq nq => X6.oth q o hq ((nbd q).mp nq), own7⟩
          have h1p : H1 p = none := hp
          cases c with
          | true =>
            rw [if_pos rfl] at e5
            obtain ⟨r8, e8, e5⟩ := Option.bind_eq_some_iff.mp e5
            refine iteT ⟨H0, ρ3, Hf5, r8, S5, e8, ?_⟩
            cases r8 with
            | ex x ρ6 => cases e5
            | ok dy ρ6 =>
              simp only at e5
              split at e5
              · rename_i hn6
                refine fun Hf6 H6 S6 X6 yv ry => ?_
                have F6 := back S6 X6 hn6
                obtain ⟨vs, hv, rv⟩ := F6.own
                refine ⟨vs, hv, ?_, hlt, Hf6, acc ++ [dy], ρ6, s2.trans (x3.fro.trans (x5.fro.trans X6.fro)), F6.push h1p hv rv ry, e5⟩
                have := lcQ_len _ _ _ e5
                rw [List.length_append, List.length_singleton] at this
                rw [rv.length]
                omega
              · cases e5
          | false =>
            rw [if_neg Bool.false_ne_true] at e5
            refine iteF ?_
            have hn3 : noOwnIn ρ3 L = true := List.all_eq_true.mpr fun j hj => by
              cases z : ρ3[j]? with
              | none => rfl
              | some s => cases s with
                | un => rfl
                | val d => rfl
                | own es => exact ((wipeE_own L ρ2 j es (nb _ _ _ e6 j es z)).2 hj).elim
            exact ⟨hlt, Hf5, acc, ρ3, s2.trans (x3.fro.trans x5.fro), back S5 .refl hn3, e5⟩
      · rw [List.drop_eq_nil_of_le (by omega)] at e5
        cases e5
        obtain ⟨vs, hv, rv⟩ := F2.own
        exact .inl ⟨w.stop i H2 (s2.trans F2.st.sub) (by omega), p2 Hf2 H2 F2.st.unwipe (F2.xq.unwipe hno) p vs hsp hv F2.fp rv⟩
    · cases e4
  · cases e2
/-- frozen at once -/
theorem StOk.freezeNew {p : Addr} {o : HO} (S : StOk K H0 ρ σ Hf H) (no : NotOwn ρ σ p) (h : H p = some o) (n : Hf p = none) : StOk K H0 ρ σ (L2.upd Hf p o) H := by
  refine ⟨fun b u q => ?_, fun i s e => ?_, S.sep⟩
  · by_cases hb : b = p
    · subst hb; rw [upd_same] at q; rw [← q]; exact h
    · rw [upd_ne hb] at q; exact S.sub b u q
  · obtain ⟨w, e1, g⟩ := S.at_ i s e
    refine ⟨w, e1, ?_⟩
    cases s with
    | un => trivial
    | val d => obtain ⟨v, rfl, r⟩ := g; exact ⟨v, rfl, r.mono (Same.new n)⟩
    | own ds =>
      obtain ⟨a, vs, rfl, g0, g1, g2, g3⟩ := g
      have ne : a ≠ p := fun z => no i ds e (by rw [e1, z])
      exact ⟨a, vs, rfl, g0, g1, by rw [upd_ne ne]; exact g2, g3.mono (Same.new n)⟩
def gFzQ (g : En → Option (Rz (List D))) : En → Option (Rz D) := qb g fun ds => upc (some (.list ds))
theorem qv_ofn {X : Cx} {e : Expr} {g : En → Option (Rz (List D))} (h : PE X e (tQn X.K W g)) : PE X e (tQv X.K W (gFzQ g)) := PE.weaken h fun σ H Q ⟨H0, ρ, Hf, r, S, e, p⟩ => by
  obtain ⟨r1, e1, p1⟩ := p.bind e
  refine ⟨H0, ρ, Hf, r1, S, e1, p1.imp fun ds ρ1 Hf1 H1 S1 X1 ⟨e2, p2⟩ a vs h0 h1 h2 rv => ?_⟩
  cases e2
  have no : NotOwn ρ1 σ a := (X1.own a).mp fun i es ei z => by
    obtain ⟨o, f, b, ws, rfl, _, g1, _⟩ := S.at_ i _ ei
    rw [f] at z
    cases z
    rw [h0] at g1
    cases g1
  have S2 := S1.freezeNew no h1 h2
  refine p _ _ S2 ⟨X1.fro.trans (Same.new h2), fun b o hb nb => ?_, X1.own⟩ _ (.lst upd_same (rv.mono (Same.new h2)))
  obtain ⟨g1, g2⟩ := X1.oth b o hb nb
  have ne : b ≠ a := fun z => by rw [z, h0] at hb; cases hb
  exact ⟨g1, fun z => by rw [upd_ne ne]; exact g2 z⟩
/-- x = a new list with effects, its own -/
def sOwnN (i : Nat) (g : En → Option (Rz (List D))) : En → Option Ot := sb g fun ds ρ => some (.nx (ρ.set i (.own ds)))
theorem tOwnN_qs {K : PySem.W.Frag} {i : Nat} {pb : Bool} {g : En → Option (Rz (List D))} {D : Ends} {σ : L2.St} {H : Hp} (hi0 : pb = false ∨ i ≠ 0) (h : tQs K W pb (sOwnN i g) D σ H) : tAsg (tQn K W g) (gName i) D σ H := by
  obtain ⟨pa, Hf0, H0, ρ, Hf, o, F, hp, e, p⟩ := h
  obtain ⟨r1, e1, p1⟩ := p.bind F hp e
  refine ⟨H0, ρ, Hf, r1, F.st, e1, p1.imp fun ds ρ1 Hf1 H1 S1 X1 ⟨e2, F1, p2⟩ a vs h0 h1 h2 rv => ?_⟩
  cases e2
  refine p2 _ Hf1 H1 ⟨F1.ext, S1.setO i (F.ext.all.free h0) h1 h2 rv fun j es ej _ z => ?_⟩ (Same.refl _) (hp.set hi0)
  exact (X1.own a).mp (fun i es ei z => by
    obtain ⟨o, f, b, ws, rfl, _, g1, _⟩ := F.st.at_ i _ ei
    rw [f] at z
    cases z
    rw [h0] at g1
    cases g1) j es ej z
section
variable {X : Cx} {pb : Bool} {pos : Pos}
theorem qn_lc {elt tg iter : Expr} {ifs : List Expr} {scope : Scope} {own : List (Str × Nat)} {gi : En → Option (Rz (List D))} {b : D → En → Option En} {t : En → Option Bool} {g : En → Option (Rz D)} {L1 : List Nat} (hc : X.calm = true) (hN : X.N.Nodup) (nb : NoOwn b) (kb : KeepB b L1) (hi : PI X tg iter (tQi X.K W gi)) (ok : BlkOk X.N X.env.scope scope own)
    (hg : ∀ (s : Shared) (H : Hp) (C : Addr) (cl : List (Str × Addr)) (fp : List Addr), PG (X.blk s H scope (compEnvC scope cl C X.env) fp) tg (tPg X.K b L1)) (ht : ∀ (s : Shared) (H : Hp) (C : Addr) (cl : List (Str × Addr)) (fp : List Addr), PTs (X.blk s H scope (compEnvC scope cl C X.env) fp) ifs (tPt X.K t))
    (he : ∀ (s : Shared) (H : Hp) (C : Addr) (cl : List (Str × Addr)) (fp : List Addr), PE (X.blk s H scope (compEnvC scope cl C X.env) fp) elt (tQv X.K (fun _ _ _ _ => False) g)) (hL : ∀ j ∈ L1, j ∈ own.map (·.2) := by decide) (hs : ∀ x, foldedSetIterable iter X.env x = pure x := by intro _; rfl) :
    PE X (.ListComp elt [⟨tg, iter, ifs, 0⟩] scope pos) (tQn X.K W (gLcQ gi b t g (own.map (·.2)))) := PE.weaken (pe_lc hc hN hi ok hg ht he hs) fun _ _ _ h => tLc_qn hL nb kb h
/-- y = [..] on one line, with effects -/
theorem sq_lcSetN {i : Nat} {y : Str} {py spos : Pos} {elt tg iter : Expr} {ifs : List Expr} {scope : Scope} {own : List (Str × Nat)} {gi : En → Option (Rz (List D))} {b : D → En → Option En} {t : En → Option Bool} {g : En → Option (Rz D)} {L1 : List Nat} (hi0 : pb = false ∨ i ≠ 0) (hc : X.calm = true) (hN : X.N.Nodup) (hy : X.N[i]? = some y) (hyl : X.env.scope.names.lookup y = some .local)
    (hsw : swapsWith (.ListComp elt [⟨tg, iter, ifs, 0⟩] scope pos) (some (.Name y py)) spos.line X.env = pure true) (nb : NoOwn b) (kb : KeepB b L1) (hi : PI X tg iter (tQi X.K W gi)) (ok : BlkOk X.N X.env.scope scope own)
    (hg : ∀ (s : Shared) (H : Hp) (C : Addr) (cl : List (Str × Addr)) (fp : List Addr), PG (X.blk s H scope (compEnvC scope cl C X.env) fp) tg (tPg X.K b L1)) (ht : ∀ (s : Shared) (H : Hp) (C : Addr) (cl : List (Str × Addr)) (fp : List Addr), PTs (X.blk s H scope (compEnvC scope cl C X.env) fp) ifs (tPt X.K t))
    (he : ∀ (s : Shared) (H : Hp) (C : Addr) (cl : List (Str × Addr)) (fp : List Addr), PE (X.blk s H scope (compEnvC scope cl C X.env) fp) elt (tQv X.K (fun _ _ _ _ => False) g)) (hL : ∀ j ∈ L1, j ∈ own.map (·.2) := by decide) (hs : ∀ x, foldedSetIterable iter X.env x = pure x := by intro _; rfl) :
    PS X (.Assign [.Name y py] (.ListComp elt [⟨tg, iter, ifs, 0⟩] scope pos) spos) (tQs X.K W pb (sOwnN i (gLcQ gi b t g (own.map (·.2))))) := PS.weaken (ps_setLc hc hN hy hyl hsw hi ok hg ht he hs) fun D σ H h => tLc_qn hL nb kb (tOwnN_qs hi0 h)
/-- the same, without effects -/
theorem sq_lcSet {i : Nat} {y : Str} {py spos : Pos} {elt tg iter : Expr} {ifs : List Expr} {scope : Scope} {own : List (Str × Nat)} {gi : En → Option (List D)} {b : D → En → Option En} {t : En → Option Bool} {g : En → Option D} {L1 : List Nat} (hi0 : pb = false ∨ i ≠ 0) (hc : X.calm = true) (hN : X.N.Nodup) (hy : X.N[i]? = some y) (hyl : X.env.scope.names.lookup y = some .local)
    (hsw : swapsWith (.ListComp elt [⟨tg, iter, ifs, 0⟩] scope pos) (some (.Name y py)) spos.line X.env = pure true) (hi : PI X tg iter (tPi X.K gi)) (ok : BlkOk X.N X.env.scope scope own)
    (hg : ∀ (s : Shared) (H : Hp) (C : Addr) (cl : List (Str × Addr)) (fp : List Addr), PG (X.blk s H scope (compEnvC scope cl C X.env) fp) tg (tPg X.K b L1)) (ht : ∀ (s : Shared) (H : Hp) (C : Addr) (cl : List (Str × Addr)) (fp : List Addr), PTs (X.blk s H scope (compEnvC scope cl C X.env) fp) ifs (tPt X.K t))
    (he : ∀ (s : Shared) (H : Hp) (C : Addr) (cl : List (Str × Addr)) (fp : List Addr), PE (X.blk s H scope (compEnvC scope cl C X.env) fp) elt (tPv X.K g)) (hL : ∀ j ∈ L1, j ∈ own.map (·.2) := by decide) (hs : ∀ x, foldedSetIterable iter X.env x = pure x := by intro _; rfl) :
    PS X (.Assign [.Name y py] (.ListComp elt [⟨tg, iter, ifs, 0⟩] scope pos) spos) (tQs X.K W pb (sOwn i (gLc gi b t g (own.map (·.2))))) := PS.weaken (ps_setLc hc hN hy hyl hsw hi ok hg ht he hs) fun D σ H ⟨pa, Hf0, H0, ρ, Hf, o, F, hp, e, p⟩ => by
  obtain ⟨r, e1, e⟩ := Option.bind_eq_some_iff.mp e
  refine tLc_pu hL ⟨H0, ρ, Hf, r, F.st, e1, fun v Hf' H' x ro => ?_⟩
  cases r with
  | val d => cases e; exact p _ Hf' H' ((F.step x).setV i ro) x.fro (hp.set hi0)
  | view ds => cases e
  | new ds =>
    cases e
    obtain ⟨a, vs, rfl, h0, h1, h2, q⟩ := ro
    refine p _ Hf' H' ⟨F.ext.trans x, (F.st.ext x).setO i (F.ext.all.free h0) h1 h2 q fun j es ej _ z => ?_⟩ x.fro (hp.set hi0)
    obtain ⟨o, f, b, ws, rfl, g0, g1, _⟩ := F.st.at_ j _ ej
    rw [f] at z
    cases z
    rw [h0] at g1
    cases g1
end
end
end Pu

namespace Pu
open PySem PySem.Spec PyProof PyProof.Rows L2
variable [FnTab]
/-! ### defs that return a new list -/
inductive On where
  | rn (ds : List D)
def PostN (K : PySem.W.Frag) (Hf0 H0 : Hp) (D : Ends) : On → Prop
  | .rn ds => ∀ p vs Hf H, Ext Hf0 H0 Hf H → H0 p = none → H p = some (.lst vs) → Hf p = none → RpAll K Hf vs ds → D.rt (.ref p) H
def tPn (K : PySem.W.Frag) (R : En → Option On) : TS := fun D σ H => ∃ Hf0 H0 ρ Hf o, Fr K Hf0 H0 ρ σ Hf H ∧ R ρ = some o ∧ PostN K Hf0 H0 D o
def nRet (g : En → Option Rs) : En → Option On := fun ρ => (g ρ).bind fun r => match r with
  | .new ds => some (.rn ds)
  | _ => none
def nSeq (R1 : En → Option Out) (R2 : En → Option On) : En → Option On := fun ρ => (R1 ρ).bind fun o => match o with
  | .nx ρ' => R2 ρ'
  | _ => none
section
variable {X : Cx} {e : Expr} {pos : Pos} {st : Stmt} {rest : List Stmt} {R1 : En → Option Out} {R2 : En → Option On} {g : En → Option Rs}
theorem qn_ret (h : PE X e (tPu X.K g)) : PSs X [.Return (some e) pos] (tPn X.K (nRet g)) := pss_one (PS.weaken (ps_ret h) fun D σ H ⟨Hf0, H0, ρ, Hf, o, F, e, p⟩ => by
  obtain ⟨r, e1, e2⟩ := Option.bind_eq_some_iff.mp e
  refine ⟨H0, ρ, Hf, r, F.st, e1, fun v Hf' H' x ro => ?_⟩
  cases r with
  | val d => cases e2
  | view ds => cases e2
  | new ds =>
    cases e2
    obtain ⟨a, vs, rfl, h0, h1, h2, q⟩ := ro
    exact p a vs Hf' H' (F.ext.trans x) (F.ext.all.free h0) h1 h2 q)
theorem qn_cons (h1 : PS X st (tPs X.K R1)) (h2 : PSs X rest (tPn X.K R2)) : PSs X (st :: rest) (tPn X.K (nSeq R1 R2)) := PSs.weaken (pss_cons h1 h2) fun D σ H ⟨Hf0, H0, ρ, Hf, o, F, e, p⟩ => by
  obtain ⟨o1, e1, e⟩ := Option.bind_eq_some_iff.mp e
  refine ⟨Hf0, H0, ρ, Hf, o1, F, e1, ?_⟩
  cases o1 with
  | nx ρ' => exact fun σ' Hf' H' F' sm => ⟨Hf0, H0, ρ', Hf', o, F', e, p⟩
  | rt d => cases e
  | bk ρ' => cases e
  | ct ρ' => cases e
end
section
variable {P : Program} {w : World} {K : PySem.W.Frag} {mg : Str → Option Value} {base : Heap}
def spN (K : PySem.W.Frag) (n : Nat) (φ : List D → Option (List D)) : Sp := fun vs H Q _ => ∃ Hf ds out, ds.length = n ∧ Same Hf H ∧ RpAll K Hf vs ds ∧ φ ds = some out ∧ ∀ p ws Hf' H', Ext Hf H Hf' H' → H p = none → H' p = some (.lst ws) → Hf' p = none → RpAll K Hf' ws out → Q (.ref p) H'
theorem spN_len {n : Nat} {φ : List D → Option (List D)} {vs : List V} {H : Hp} {Q : VK} {E : XK} (h : spN K n φ vs H Q E) : vs.length = n := by
  obtain ⟨Hf, ds, r, rfl, _, rr, _⟩ := h
  exact rr.length
def runN (n : Nat) (R : En → Option On) (ds : List D) : Option (List D) := (R (start0 n ds)).map fun o => match o with
  | .rn out => out
theorem fn_n {x qual : Str} {st : Stmt} {f : Addr} {fd : FuncData} {N ps : List Str} {k : Nat} {R : En → Option On} (F : Fun K x qual st f fd) (S : FnScope N ps (defScope st))
    (hb : ∀ (cdv : Value) (A : Around) (outer : List Env) (s : Shared) (H : Hp) (E : XK), Rg k (A.deeper (envOfC qual (defScope st) s.heap.objs.size f cdv)) → PSs (cxOf CX0 P w K mg base N qual (defScope st) f cdv A outer s H E).nox (defBody st) (tPn K R)) :
    FnG P w K mg base CX0 (k + 1) f fd ps (spN K ps.length (runN N.length R)) := by
  refine okG F S (fun vs H Q E h => spN_len h) (fun cdv A outer s H vs Q E hr h => ⟨_, hb cdv A outer s H E hr, ?_⟩)
  obtain ⟨Hf, ds, out, hl, sub, r, e, q⟩ := h
  obtain ⟨o, e1, e2⟩ := Option.map_eq_some_iff.mp e
  refine ⟨Hf, H, _, Hf, o, ⟨.refl sub, start_ok sub r⟩, e1, ?_⟩
  cases o with
  | rn ds' => cases e2; exact fun p vs Hf' H' x h0 h1 h2 r' => q p vs Hf' H' x h0 h1 h2 r'
structure Fn1 (P : Program) (w : World) (K : PySem.W.Frag) (mg : Str → Option Value) (base : Heap) (k : Nat) (x : Str) (n : Nat) (φ : List D → Option (List D)) : Prop where
  ex : ∃ f fd ps, FnG P w K mg base CX0 k f fd ps (spN K n φ) ∧ mg x = some (.ref f) ∧ PySem.W.keepIn K (.ref f) = true ∧ Binds K fd ps []
def gCallN (n : Nat) (φ : List D → Option (List D)) (gs : En → Option (Rz (List D))) : En → Option (Rz (List D)) := qb gs fun ds => upc (if ds.length = n then φ ds else none)
theorem qn_callN {X : Cx} {W : WX} {e : Expr} {es : List Expr} {pos : Pos} {gs : En → Option (Rz (List D))} {k j n : Nat} {x : Str} {p : Pos} {φ : List D → Option (List D)} (F : Fn1 X.prog X.w X.K X.mg X.base k x n φ) (hr : Rg j X.A) (hk : k ≤ j) (hg : Gl X x) (ha : PA X (e :: es) (tQa X.K W gs)) (hdb : (x == ("__debug__" : Str)) = false := by decide)
    (he : starEach (e :: es) X.env = (false, eval e X.env) :: starEach es X.env := by rfl) (hpl : (backTo pos (starEach es X.env)).any (·.1) = false := by rfl) : PE X (.Call (.Name x p) (e :: es) [] pos) (tQn X.K W (gCallN n φ gs)) := by
  obtain ⟨f, fd, ps, F1, F2, F3, F4⟩ := F.ex
  refine PE.weaken (pe_callG (E := fun _ _ _ => False) F1 (hr.mono hk) hg F2 F3 F4 .nil pass0 ha hdb he hpl) fun σ H Q ⟨H0, ρ, Hf, r, S, e, p⟩ => ?_
  obtain ⟨r1, e1, p1⟩ := p.bind e
  refine ⟨H0, ρ, Hf, r1, S, e1, p1.imp fun ds ρ1 Hf1 H1 S1 X1 ⟨e2, p2⟩ vs rvs => ?_⟩
  obtain ⟨u, e3, q⟩ := p2.upc e2 S1
  split at e3
  · rename_i hl
    show spN X.K n φ (vs ++ []) H1 Q _
    rw [List.append_nil]
    refine ⟨Hf1, ds, u, hl, S1.sub, rvs, e3, fun a ws Hf2 H2 x2 h0 h1 h2 r2 => q Hf2 H2 x2 a ws ?_ h1 h2 r2⟩
    cases z : H a with
    | none => rfl
    | some o =>
      by_cases nn : NotOwn ρ σ a
      · rw [(X1.oth a o z nn).1] at h0; cases h0
      · have : ¬ NotOwn ρ1 σ a := fun q => nn ((X1.own a).mpr q)
        refine (this fun i es ei f => ?_).elim
        obtain ⟨o', f', b, vs', rfl, _, g1, _⟩ := S1.at_ i _ ei
        rw [f] at f'
        cases f'
        rw [h0] at g1
        cases g1
  · cases e3
theorem sq_ownN {X : Cx} {W : WX} {pb : Bool} {e : Expr} {pos : Pos} {i : Nat} {x : Str} {pos' : Pos} {g : En → Option (Rz (List D))} (hi0 : pb = false ∨ i ≠ 0) (hN : X.N.Nodup) (hi : X.N[i]? = some x) (hx : Loc X.env.scope x) (he : PE X e (tQn X.K W g)) (hs : swapsWith e (some (.Name x pos')) pos.line X.env = pure false := by rfl)
    (hf : X.fn x = true ∨ X.env.scope.names.lookup x = some .local := by first | exact .inl rfl | exact .inr rfl | assumption) : PS X (.Assign [.Name x pos'] e pos) (tQs X.K W pb (sOwnN i g)) := PS.weaken (ps_set hN hi hx he hs hf) fun D σ H h => tOwnN_qs hi0 h
end
end Pu

namespace Pu
open PySem PySem.Spec PyProof PyProof.Rows L2
variable [FnTab]
/-! ### lists that are changed at a place -/
section
variable {K : PySem.W.Frag} {H : Hp}
theorem RpAll.erase : ∀ {vs : List V} {ds : List D} (j : Nat), RpAll K H vs ds → RpAll K H (vs.eraseIdx j) (ds.eraseIdx j)
  | _, _, _, .nil => .nil
  | _, _, 0, .cons a b => b
  | _, _, j + 1, .cons a b => .cons a (RpAll.erase j b)
end
section
variable {X : Cx} {W : WX} {pb : Bool} {e : Expr} {pos : Pos} {g : En → Option (Rz D)}
theorem ext_del {Hf H : Hp} {a : Addr} {us : List V} (s : Same Hf H) (h : Hf a = none) : Ext Hf (delH H a) Hf (upd H a (.lst us)) :=
  ⟨fun b o e => by
    have ne : b ≠ a := fun z => by subst z; rw [del_same] at e; cases e
    rw [del_ne ne] at e
    rw [upd_ne ne]
    exact e, Same.refl _, fun b o e => by
    have ne : b ≠ a := fun z => by subst z; rw [h] at e; cases e
    rw [upd_ne ne]
    exact s b o e, fun _ _ _ z => z⟩
def i63 (k : Int) : Prop := -(2 ^ 63) ≤ k ∧ k < 2 ^ 63
instance {k : Int} : Decidable (i63 k) := inferInstanceAs (Decidable (-(2 ^ 63) ≤ k ∧ k < 2 ^ 63))
theorem i63_nat {j : Nat} (h : j < 2 ^ 63) : i63 (j : Int) := ⟨by omega, by omega⟩
def gPopAt (i : Nat) (gk : En → Option (Rz D)) : En → Option (Rz D) := fun ρ => (ownAt i ρ).bind fun _ => qb gk (fun kd ρ => (ownAt i ρ).bind fun ds => (asInt kd).bind fun k => if i63 k then (seqIndex? k ds.length).bind fun j => (ds[j]?).map fun d => .ok d (ρ.set i (.own (ds.eraseIdx j))) else none) ρ
/-- x.pop(k), as a value -/
theorem qv_popAt {i : Nat} {x k : Expr} {apos cpos : Pos} {gk : En → Option (Rz D)} (hx : PE X x (tVar i)) (hk : PE X k (tQv X.K W gk)) (h : ∀ {tx te : TE}, PE X x tx → PE X k te → PE X (.Call (.Attribute x "pop" apos) [k] [] cpos) (tBM X.K "list" rPopAt tx (tCons te tNil))) :
    PE X (.Call (.Attribute x "pop" apos) [k] [] cpos) (tQv X.K W (gPopAt i gk)) :=
  PE.weaken (h hx hk) fun σ H Q ⟨H0, ρ, Hf, r, S, e, p⟩ => by
    obtain ⟨ds0, e0, e⟩ := Option.bind_eq_some_iff.mp e
    obtain ⟨o', f, a, vs0, rfl, h0, h1, h2, r0⟩ := S.at_ i _ (ownAt_some e0)
    obtain ⟨r1, e1, p1⟩ := p.bind e
    refine ⟨.ref a, f, .inl ⟨rfl, _, .of h1⟩, H0, ρ, Hf, r1, S, e1, p1.imp fun kd ρ1 Hf1 H1 S1 X1 ⟨e2, p2⟩ v rv => ?_⟩
    obtain ⟨ds, e3, e2⟩ := Option.bind_eq_some_iff.mp e2
    have e3 := ownAt_some e3
    obtain ⟨kk, e4, e2⟩ := Option.bind_eq_some_iff.mp e2
    split at e2
    · rename_i hb
      obtain ⟨j, e5, e2⟩ := Option.bind_eq_some_iff.mp e2
      obtain ⟨d, e6, rfl⟩ := Option.map_eq_some_iff.mp e2
      rw [asInt_inv kd kk e4] at rv
      obtain rfl := rv.int_inv
      obtain ⟨o1, f1, a1, vs, rfl, g0, g1, g2, rr⟩ := S1.at_ i _ e3
      rw [f] at f1
      cases f1
      obtain ⟨y, hy, ry⟩ := rr.get e6
      obtain ⟨s3, x3⟩ := call_st S1 e3 f (ext_del S1.sub g2) upd_same g2 (rr.erase j)
      exact ⟨a, vs, kk, j, y, rfl, rfl, g1, hb.1, hb.2, by rw [rr.length]; exact e5, hy, p2 Hf1 _ s3 x3 y ry⟩
    · cases e2
def sDelAt (i : Nat) (gk : En → Option D) : En → Option Ot := fun ρ => (ownAt i ρ).bind fun ds => (gk ρ).bind fun kd => (asInt kd).bind fun k => if i63 k then (seqIndex? k ds.length).map fun j => .nx (ρ.set i (.own (ds.eraseIdx j))) else none
/-- del x[k] -/
theorem sq_delAt {i : Nat} {x k : Expr} {tpos : Pos} {gk : En → Option D} (hx : PE X x (tVar i)) (hk : PE X k (tPv X.K gk)) : PS X (.Delete [.Subscript x k tpos] pos) (tQs X.K W pb (sDelAt i gk)) :=
  PS.weaken (ps_delL hx hk) fun D σ H ⟨pa, Hf0, H0, ρ, Hf, o, F, hp, e, p⟩ => by
    obtain ⟨ds, e1, e⟩ := Option.bind_eq_some_iff.mp e
    have e1 := ownAt_some e1
    obtain ⟨kd, e2, e⟩ := Option.bind_eq_some_iff.mp e
    obtain ⟨kk, e3, e⟩ := Option.bind_eq_some_iff.mp e
    split at e
    · rename_i hb
      obtain ⟨j, e4, rfl⟩ := Option.map_eq_some_iff.mp e
      obtain ⟨o, f, a, vs, rfl, h0, h1, h2, r⟩ := F.st.at_ i _ e1
      refine ⟨.ref a, f, H0, ρ, Hf, kd, F.st, e2, fun v Hf1 H1 x1 rv => ?_⟩
      rw [asInt_inv kd kk e3] at rv
      obtain rfl := rv.int_inv
      exact ⟨a, vs, kk, j, rfl, rfl, x1.all _ _ h1, hb.1, hb.2, by rw [r.length]; exact e4, p σ Hf1 _ ((F.stepQ (F.st.ext x1) (.of x1)).mut e1 f h0 (x1.keep _ _ h1 h2) ((r.mono x1.fro).erase j)) x1.fro hp⟩
    · cases e
/-- x.insert(k, e), without effects -/
def sInsAt (i : Nat) (gk ga : En → Option D) : En → Option Ot := fun ρ => (ownAt i ρ).bind fun ds => (gk ρ).bind fun kd => (ga ρ).bind fun d => (asInt kd).bind fun k => if 0 ≤ k ∧ k < 2 ^ 63 ∧ ds.length < sizeLine then some (.nx (ρ.set i (.own (ds.take k.toNat ++ [d] ++ ds.drop k.toNat)))) else none
theorem sq_insAt {i : Nat} {x k : Expr} {apos cpos : Pos} {gk ga : En → Option D} (hx : PE X x (tVar i)) (hk : PE X k (tPv X.K gk)) (he : PE X e (tPv X.K ga)) (h : ∀ {tx tk te : TE}, PE X x tx → PE X k tk → PE X e te → PE X (.Call (.Attribute x "insert" apos) [k, e] [] cpos) (tBM X.K "list" (fun x vs H Q => ∃ (l : Addr) (xs : List V) (i : Int) (y : V), x = .ref l ∧ vs = [.int i, y] ∧ H l = some (.lst xs) ∧ xs.length < sizeLine ∧ 0 ≤ i ∧ i < 2 ^ 63 ∧ Q .non (upd H l (.lst (xs.take i.toNat ++ [y] ++ xs.drop i.toNat)))) tx (tCons tk (tCons te tNil))))
    (hs : swapsWith (.Call (.Attribute x "insert" apos) [k, e] [] cpos) none pos.line X.env = pure false := by rfl) : PS X (.Expr (.Call (.Attribute x "insert" apos) [k, e] [] cpos) pos) (tQs X.K W pb (sInsAt i gk ga)) :=
  PS.weaken (ps_expr (h hx hk he) hs) fun D σ H ⟨pa, Hf0, H0, ρ, Hf, o, F, hp, e, p⟩ => by
    obtain ⟨ds, e1, e⟩ := Option.bind_eq_some_iff.mp e
    have e1 := ownAt_some e1
    obtain ⟨kd, e2, e⟩ := Option.bind_eq_some_iff.mp e
    obtain ⟨d, e3, e⟩ := Option.bind_eq_some_iff.mp e
    obtain ⟨kk, e4, e⟩ := Option.bind_eq_some_iff.mp e
    split at e
    · rename_i hb
      cases e
      obtain ⟨o, f, a, vs, rfl, h0, h1, h2, r⟩ := F.st.at_ i _ e1
      refine ⟨.ref a, f, .inl ⟨rfl, _, .of h1⟩, H0, ρ, Hf, kd, F.st, e2, fun v Hf1 H1 x1 rv => ?_⟩
      rw [asInt_inv kd kk e4] at rv
      obtain rfl := rv.int_inv
      refine ⟨H0, ρ, Hf1, d, F.st.ext x1, e3, fun y Hf2 H2 x2 ry => ?_⟩
      have x12 := x1.trans x2
      have r2 := r.mono x12.fro
      exact ⟨a, vs, kk, y, rfl, rfl, x12.all _ _ h1, by rw [r.length]; exact hb.2.2, hb.1, hb.2.1, p σ Hf2 _ ((F.stepQ (F.st.ext x12) (.of x12)).mut e1 f h0 (x12.keep _ _ h1 h2) (((r2.take _).append (.cons ry .nil)).append (r2.drop _))) x12.fro hp⟩
    · cases e
/-- x[k] = e, e with effects -/
def sPutQ (i : Nat) (gk : En → Option D) (g : En → Option (Rz D)) : En → Option Ot := sb g fun d ρ => (ownAt i ρ).bind fun ds => (gk ρ).bind fun k => (asInt k).bind fun k => (ixN ds.length k).map fun j => .nx (ρ.set i (.own (ds.set j d)))
theorem sq_putQ {i : Nat} {x k : Expr} {p1 : Pos} {gk : En → Option D} (hx : PE X x (tVar i)) (hk : PE X k (tPv X.K gk)) (he : PE X e (tQv X.K W g)) (hs : swapsWithSole [.Subscript x k p1] e pos.line X.env = pure false := by rfl) (hw : swappedStores [.Subscript x k p1] e X.env = pure none := by rfl)
    (h : ∀ {tx tk : TE}, PE X x tx → PE X k tk → PG X (.Subscript x k p1) (gSub tx tk L2.rSetL)) : PS X (.Assign [.Subscript x k p1] e pos) (tQs X.K W pb (sPutQ i gk g)) :=
  PS.weaken (ps_asg he (h hx hk) hs hw) fun D σ H ⟨pa, Hf0, H0, ρ, Hf, o, F, hp, e, p⟩ => by
    obtain ⟨r1, e1, p1⟩ := p.bind F hp e
    refine ⟨H0, ρ, Hf, r1, F.st, e1, p1.imp fun d ρ1 Hf1 H1 S1 X1 ⟨e2, F1, p2⟩ v rv => ?_⟩
    obtain ⟨ds, e3, e2⟩ := Option.bind_eq_some_iff.mp e2
    obtain ⟨kd, e4, e2⟩ := Option.bind_eq_some_iff.mp e2
    obtain ⟨n, e5, e2⟩ := Option.bind_eq_some_iff.mp e2
    obtain ⟨j, e6, e2⟩ := Option.map_eq_some_iff.mp e2
    subst e2
    have e3 := ownAt_some e3
    rw [asInt_inv kd n e5] at e4
    obtain ⟨o, f, a, vs, rfl, h0, h1, h2, r⟩ := F1.st.at_ i _ e3
    refine ⟨.ref a, f, H0, ρ1, Hf1, _, S1, e4, fun w Hf2 H2 x2 q2 => ?_⟩
    exact ⟨a, vs, n, j, rfl, q2.int_inv, x2.all _ _ h1, by rw [r.length]; exact e6, p2 σ Hf2 _ ((F1.step x2).mut e3 f h0 (x2.keep _ _ h1 h2) ((r.mono x2.fro).set j (rv.mono x2.fro))) x2.fro hp⟩
/-! ### while, +=, -= -/
variable {R : En → Option Ot}
def whileQ (tc : En → Option (Rz Bool)) (R : En → Option Ot) : Nat → En → Option Ot
  | 0, _ => none
  | m + 1, ρ => sb tc (fun k ρ1 => if k = true then (R ρ1).bind fun o => match o with
    | .nx ρ2 => whileQ tc R m ρ2
    | .ct ρ2 => whileQ tc R m ρ2
    | .bk ρ2 => some (.nx ρ2)
    | .rt d ρ2 => some (.rt d ρ2)
    | .ex x ρ2 => some (.ex x ρ2)
    else some (.nx ρ1)) ρ
def sWhile (fuel : En → Nat) (tc : En → Option (Rz Bool)) (R : En → Option Ot) : En → Option Ot := fun ρ => whileQ tc R (fuel ρ) ρ
theorem sq_while {c : Expr} {body : List Stmt} {tc : En → Option (Rz Bool)} (fuel : En → Nat) (hp : PassesOwn (model X.prog X.w) X.A X.env X.xe) (hc : PT X c (tQt X.K W tc)) (hb : PSs X body (tQs X.K W pb R)) : PS X (.While c body [] pos) (tQs X.K W pb (sWhile fuel tc R)) :=
  PS.weaken (ps_while hp hc hb) fun D σ H ⟨pa, Hf0, H0, ρ, Hf, o, F, hpin, e, p⟩ => by
    refine ⟨fun m σ H => ∃ ρ Hf1, Fr X.K Hf0 H0 ρ σ Hf1 H ∧ Same Hf Hf1 ∧ Pin pb pa σ ∧ whileQ tc R m ρ = some o, ⟨_, ρ, Hf, F, Same.refl _, hpin, e⟩, ?_⟩
    rintro m σ1 H1 ⟨ρ1, Hf1, F1, s1, pn1, e1⟩
    cases m with
    | zero => cases e1
    | succ m =>
      obtain ⟨r1, e2, p1⟩ := (p.mono s1).bind F1 pn1 e1
      refine ⟨H0, ρ1, Hf1, r1, F1.st, e2, p1.imp fun k ρ2 Hf2 H2 S2 X2 ⟨e3, F2, p2⟩ => ?_⟩
      cases k with
      | true =>
        rw [if_pos rfl] at e3 ⊢
        obtain ⟨o3, e4, e3⟩ := Option.bind_eq_some_iff.mp e3
        refine ⟨fun σ H => ∃ ρ Hf1, Fr X.K Hf0 H0 ρ σ Hf1 H ∧ Same Hf Hf1 ∧ Pin pb pa σ ∧ whileQ tc R m ρ = some o, fun σ' H' n => ⟨m, Nat.lt_succ_self _, n⟩, pa, Hf0, H0, ρ2, Hf2, o3, F2, pn1, e4, ?_⟩
        have s2 := s1.trans X2.fro
        cases o3 with
        | nx ρ5 => exact fun σ5 Hf5 H5 F5 s5 pn5 => ⟨ρ5, Hf5, F5, s2.trans s5, pn5, e3⟩
        | ct ρ5 => exact fun σ5 Hf5 H5 F5 s5 pn5 => ⟨ρ5, Hf5, F5, s2.trans s5, pn5, e3⟩
        | bk ρ5 => cases e3; exact p2
        | rt d ρ5 => cases e3; exact p2
        | ex z ρ5 => cases e3; exact p2
      | false =>
        rw [if_neg Bool.false_ne_true] at e3 ⊢
        cases e3
        exact p2 σ1 Hf2 H2 F2 (Same.refl _) pn1
def sAug (i : Nat) (f : D → D → Option D) (g : En → Option D) : En → Option Ot := fun ρ => (vVar i ρ).bind fun a => (g ρ).bind fun b => (f a b).map fun d => .nx (ρ.set i (.val d))
theorem tAug_qs {K : PySem.W.Frag} {i : Nat} {f : D → D → Option D} {h : Int → Int → Int} {ga : En → Option D} (hi0 : pb = false ∨ i ≠ 0) (w : ∀ a b d, f a b = some d → ∃ i j, a = .int i ∧ b = .int j ∧ d = .int (h i j)) {D : Ends} {σ : L2.St} {H : Hp} (hh : tQs K W pb (sAug i f ga) D σ H) : tAug i (tPv K ga) (ipI h) D σ H := by
  obtain ⟨pa, Hf0, H0, ρ, Hf, o, F, hp, e, p⟩ := hh
  obtain ⟨a, e1, e⟩ := Option.bind_eq_some_iff.mp e
  obtain ⟨b, e2, e⟩ := Option.bind_eq_some_iff.mp e
  obtain ⟨d, e3, rfl⟩ := Option.map_eq_some_iff.mp e
  obtain ⟨m, n, rfl, rfl, rfl⟩ := w a b d e3
  unfold vVar at e1
  split at e1
  · rename_i d' hd
    cases e1
    obtain ⟨o, ho, v, rfl, r⟩ := F.st.at_ i _ hd
    exact ⟨v, ho, H0, ρ, Hf, _, F.st, e2, fun y Hf' H' x r' => ⟨m, n, r.int_inv, r'.int_inv, p _ Hf' H' ((F.step x).setV i (.int _)) x.fro (hp.set hi0)⟩⟩
  · cases e1
theorem sq_iadd {i : Nat} {x : Str} {pos' : Pos} {ga : En → Option D} (hi0 : pb = false ∨ i ≠ 0) (hN : X.N.Nodup) (hi : X.N[i]? = some x) (hx : Loc X.env.scope x) (he : PE X e (tPv X.K ga))
    (hf : X.fn x = true ∨ X.env.scope.names.lookup x = some .local := by first | exact .inl rfl | exact .inr rfl | assumption) : PS X (.AugAssign (.Name x pos') .Add e pos) (tQs X.K W pb (sAug i dIAdd ga)) :=
  PS.weaken (ps_aug hN hi hx he ip_add hf) fun _ _ _ h => tAug_qs hi0 (fun a b d h => by
    cases a <;> cases b <;> simp only [dIAdd] at h <;> cases h
    exact ⟨_, _, rfl, rfl, rfl⟩) h
theorem sq_isub {i : Nat} {x : Str} {pos' : Pos} {ga : En → Option D} (hi0 : pb = false ∨ i ≠ 0) (hN : X.N.Nodup) (hi : X.N[i]? = some x) (hx : Loc X.env.scope x) (he : PE X e (tPv X.K ga))
    (hf : X.fn x = true ∨ X.env.scope.names.lookup x = some .local := by first | exact .inl rfl | exact .inr rfl | assumption) : PS X (.AugAssign (.Name x pos') .Sub e pos) (tQs X.K W pb (sAug i dISub ga)) :=
  PS.weaken (ps_aug hN hi hx he ip_sub hf) fun _ _ _ h => tAug_qs hi0 (fun a b d h => by
    cases a <;> cases b <;> simp only [dISub] at h <;> cases h
    exact ⟨_, _, rfl, rfl, rfl⟩) h
/-! ### and, or as values -/
def gAndQ (ga gb : En → Option (Rz D)) : En → Option (Rz D) := qb ga fun d ρ => match d with
  | .bool true => gb ρ
  | .bool false => some (.ok (.bool false) ρ)
  | _ => none
def gOrQ (ga gb : En → Option (Rz D)) : En → Option (Rz D) := qb ga fun d ρ => match d with
  | .bool true => some (.ok (.bool true) ρ)
  | .bool false => gb ρ
  | _ => none
theorem qv_and {a c : Expr} {rest : List Expr} {ga gb : En → Option (Rz D)} (ha : PE X a (tQv X.K W ga)) (hb : PE X (.BoolOp .And (c :: rest) pos) (tQv X.K W gb)) : PE X (.BoolOp .And (a :: c :: rest) pos) (tQv X.K W (gAndQ ga gb)) :=
  PE.weaken (pe_and ha hb) fun σ H Q ⟨H0, ρ, Hf, r, S, e, p⟩ => by
    obtain ⟨r1, e1, p1⟩ := p.bind e
    refine ⟨H0, ρ, Hf, r1, S, e1, p1.imp fun d ρ1 Hf1 H1 S1 X1 ⟨e2, p2⟩ v rv => ?_⟩
    split at e2
    · exact ⟨true, rv.bl_inv, iteT ⟨H0, ρ1, Hf1, r, S1, e2, p2⟩⟩
    · cases e2
      exact ⟨false, rv.bl_inv, iteF (p2 Hf1 H1 S1 .refl _ (.bl _))⟩
    · cases e2
theorem qv_or {a c : Expr} {rest : List Expr} {ga gb : En → Option (Rz D)} (ha : PE X a (tQv X.K W ga)) (hb : PE X (.BoolOp .Or (c :: rest) pos) (tQv X.K W gb)) : PE X (.BoolOp .Or (a :: c :: rest) pos) (tQv X.K W (gOrQ ga gb)) :=
  PE.weaken (pe_or ha hb) fun σ H Q ⟨H0, ρ, Hf, r, S, e, p⟩ => by
    obtain ⟨r1, e1, p1⟩ := p.bind e
    refine ⟨H0, ρ, Hf, r1, S, e1, p1.imp fun d ρ1 Hf1 H1 S1 X1 ⟨e2, p2⟩ v rv => ?_⟩
    split at e2
    · cases e2
      exact ⟨true, rv.bl_inv, iteT (p2 Hf1 H1 S1 .refl _ (.bl _))⟩
    · exact ⟨false, rv.bl_inv, iteF ⟨H0, ρ1, Hf1, r, S1, e2, p2⟩⟩
    · cases e2
/-- x.extend(e), without effects in e -/
def sExtL (i : Nat) (g : En → Option Rs) : En → Option Ot := fun ρ => (ownAt i ρ).bind fun ds => (g ρ).bind fun r => (lstN r).bind fun es => if ds.length + es.length ≤ sizeLine then some (.nx (ρ.set i (.own (ds ++ es)))) else none
theorem sq_extend {i : Nat} {x : Expr} {apos cpos : Pos} {g : En → Option Rs} (hx : PE X x (tVar i)) (he : PE X e (tPu X.K g)) (h : ∀ {tx te : TE}, PE X x tx → PE X e te → PE X (.Call (.Attribute x "extend" apos) [e] [] cpos) (tBM X.K "list" rExtend tx (tCons te tNil)))
    (hs : swapsWith (.Call (.Attribute x "extend" apos) [e] [] cpos) none pos.line X.env = pure false := by rfl) : PS X (.Expr (.Call (.Attribute x "extend" apos) [e] [] cpos) pos) (tQs X.K W pb (sExtL i g)) :=
  PS.weaken (ps_expr (h hx he) hs) fun D σ H ⟨pa, Hf0, H0, ρ, Hf, o, F, hp, e, p⟩ => by
    obtain ⟨ds, e1, e⟩ := Option.bind_eq_some_iff.mp e
    obtain ⟨r0, e2, e⟩ := Option.bind_eq_some_iff.mp e
    obtain ⟨es, e3, e⟩ := Option.bind_eq_some_iff.mp e
    have e1 := ownAt_some e1
    split at e
    · rename_i hl
      cases e
      obtain ⟨o, f, a, vs, rfl, h0, h1, h2, r⟩ := F.st.at_ i _ e1
      refine ⟨.ref a, f, .inl ⟨rfl, _, .of h1⟩, H0, ρ, Hf, r0, F.st, e2, fun v Hf' H' x q => ?_⟩
      obtain ⟨b, zs, rfl, g1, rz⟩ := lstN_of q x.sub e3
      refine ⟨a, b, vs, zs, rfl, rfl, x.all _ _ h1, g1, by rw [r.length, rz.length]; exact hl, ?_⟩
      exact p σ Hf' _ ((F.step x).mut e1 f h0 (x.keep _ _ h1 h2) ((r.mono x.fro).append rz)) x.fro hp
    · cases e
end
end Pu

namespace Pu
open PySem PySem.Spec PyProof.Rows L2
variable [FnTab]
/-! ### reckoning: the readings' own equations -/
theorem bind_s {α β : Type} (a : α) (f : α → Option β) : (some a).bind f = f a := rfl
theorem bind_n {α β : Type} (f : α → Option β) : (none : Option α).bind f = none := rfl
theorem map_s {α β : Type} (a : α) (f : α → β) : (some a).map f = some (f a) := rfl
theorem ite_b {α : Type} (c : Prop) [Decidable c] (a b : α) : (if decide c = true then a else b) = if c then a else b := by
  by_cases h : c <;> simp [h]
theorem fmod_pos (a : Int) {b : Int} (h : 0 < b) : a.fmod b = a % b := Int.fmod_eq_emod_of_nonneg a (by omega)
theorem fdiv_pos (a : Int) {b : Int} (h : 0 < b) : a.fdiv b = a / b := Int.fdiv_eq_ediv_of_nonneg a (by omega)
theorem seq_nx {R1 R2 : En → Option Out} {ρ ρ' : En} (h : R1 ρ = some (.nx ρ')) : rSeq R1 R2 ρ = R2 ρ' := by unfold rSeq; rw [h]; rfl
theorem seq_rt {R1 R2 : En → Option Out} {ρ : En} {d : D} (h : R1 ρ = some (.rt d)) : rSeq R1 R2 ρ = some (.rt d) := by unfold rSeq; rw [h]; rfl
theorem lg_lt {n k : Nat} (h : n < 2 ^ k) (hk : 0 < k) : n.log2 < k := by
  by_cases h0 : n = 0
  · subst h0; simpa using hk
  · exact (Nat.log2_lt h0).mpr h
theorem mul_small_l {i j : Int} (h : i.natAbs < 2 ^ 64) : mulOk i j = true := by unfold mulOk; simp [h]
theorem mul_small_r {i j : Int} (h : j.natAbs < 2 ^ 64) : mulOk i j = true := by unfold mulOk; simp [h]
theorem div_ok {j : Int} (h0 : j ≠ 0) (h : j.natAbs < 2 ^ 8000) : divOk j = true := by
  unfold divOk
  have := lg_lt h (by decide)
  simp only [ne_eq, h0, not_false_eq_true, decide_true, Bool.true_and, decide_eq_true_eq]
  omega
theorem bits_log {z : Int} (h : Builtin.Int.intBits z ≤ 1048576) : z.natAbs.log2 ≤ 1048576 := by
  unfold Builtin.Int.intBits at h
  split at h
  · rename_i hz
    have : z = 0 := by simpa using hz
    subst this
    decide
  · omega
end Pu
namespace Pu
open PySem PySem.Spec PyProof.Rows L2
variable [FnTab]
theorem isi_int_int (n : Int) : dIsi "int" (.int n) = some (.bool true) := by
  have h : kitB "int" "int" = some true := by decide +kernel
  show (if ("int" : String) = "" then none else (kitB "int" "int").map PyData.bool) = _
  rw [if_neg (by decide), h]; rfl
theorem isi_bool_int (n : Int) : dIsi "bool" (.int n) = some (.bool false) := by
  have h : kitB "int" "bool" = some false := by decide +kernel
  show (if ("int" : String) = "" then none else (kitB "int" "bool").map PyData.bool) = _
  rw [if_neg (by decide), h]; rfl
theorem isi_list_list (n : List D) : dIsi "list" (.list n) = some (.bool true) := by
  have h : kitB "list" "list" = some true := by decide +kernel
  show (if ("list" : String) = "" then none else (kitB "list" "list").map PyData.bool) = _
  rw [if_neg (by decide), h]; rfl
theorem isi_tuple_tuple (n : List D) : dIsi "tuple" (.tuple n) = some (.bool true) := by
  have h : kitB "tuple" "tuple" = some true := by decide +kernel
  show (if ("tuple" : String) = "" then none else (kitB "tuple" "tuple").map PyData.bool) = _
  rw [if_neg (by decide), h]; rfl
theorem isi_bool_bool (n : Bool) : dIsi "bool" (.bool n) = some (.bool true) := by
  have h : kitB "bool" "bool" = some true := by decide +kernel
  show (if ("bool" : String) = "" then none else (kitB "bool" "bool").map PyData.bool) = _
  rw [if_neg (by decide), h]; rfl
theorem isi_str_str (n : Str) : dIsi "str" (.str n) = some (.bool true) := by
  have h : kitB "str" "str" = some true := by decide +kernel
  show (if ("str" : String) = "" then none else (kitB "str" "str").map PyData.bool) = _
  rw [if_neg (by decide), h]; rfl
theorem isi_str_int (n : Int) : dIsi "str" (.int n) = some (.bool false) := by
  have h : kitB "int" "str" = some false := by decide +kernel
  show (if ("int" : String) = "" then none else (kitB "int" "str").map PyData.bool) = _
  rw [if_neg (by decide), h]; rfl
/-! == of scalars -/
theorem dEq_int (a b : Int) : dEq (.int a) (.int b) = some (.bool (decide (a = b))) := by
  unfold dEq
  rw [if_pos ⟨rfl, rfl⟩]; rfl
theorem dNe_int (a b : Int) : dNe (.int a) (.int b) = some (.bool (!decide (a = b))) := by
  unfold dNe
  rw [if_pos ⟨rfl, rfl⟩]; rfl
theorem dEq_bool (a b : Bool) : dEq (.bool a) (.bool b) = some (.bool (decide (a = b))) := by
  unfold dEq
  rw [if_pos ⟨rfl, rfl⟩]
  cases a <;> cases b <;> rfl
theorem dNe_bool (a b : Bool) : dNe (.bool a) (.bool b) = some (.bool (!decide (a = b))) := by
  unfold dNe
  rw [if_pos ⟨rfl, rfl⟩]
  cases a <;> cases b <;> rfl
end Pu
namespace Pu
open PySem PySem.Spec PyProof.Rows L2
variable [FnTab]
/-! ### the equations by which a reading is reckoned; what waits for a value is kept closed -/
section
variable {R R1 R2 : En → Option Out} {ρ ρ' : En} {d : D} {b : D → En → Option En} {ds : List D} {g ga gb gk : En → Option D} {gu : En → Option Rs} {gs : En → Option (List D)} {c ca cb : En → Option Bool}
def sq (R : En → Option Out) : Out → Option Out := fun o => match o with
  | .nx ρ' => R ρ'
  | o => some o
theorem e_seq : rSeq R1 R2 ρ = (R1 ρ).bind (sq R2) := rfl
theorem e_sq_nx : sq R (.nx ρ) = R ρ := rfl
theorem e_sq_rt : sq R (.rt d) = some (.rt d) := rfl
theorem e_sq_bk : sq R (.bk ρ) = some (.bk ρ) := rfl
theorem e_sq_ct : sq R (.ct ρ) = some (.ct ρ) := rfl
def iff (R1 R2 : En → Option Out) (ρ : En) : Bool → Option Out := fun b => if b = true then R1 ρ else R2 ρ
theorem e_if : rIf c R1 R2 ρ = (c ρ).bind (iff R1 R2 ρ) := rfl
theorem e_iff_t : iff R1 R2 ρ true = R1 ρ := rfl
theorem e_iff_f : iff R1 R2 ρ false = R2 ρ := rfl
theorem e_iff_d (p : Prop) [Decidable p] : iff R1 R2 ρ (decide p) = if p then R1 ρ else R2 ρ := by unfold iff; simp
theorem e_iff_nd (p : Prop) [Decidable p] : iff R1 R2 ρ (!decide p) = if p then R2 ρ else R1 ρ := by unfold iff; by_cases h : p <;> simp [h]
theorem e_next : rNext ρ = some (.nx ρ) := rfl
def en1 (i : Nat) (ρ : En) : D → Out := fun d => .nx (ρ.set i (.val d))
theorem e_set {i : Nat} : rSet i g ρ = (g ρ).map (en1 i ρ) := rfl
theorem e_en1 {i : Nat} : en1 i ρ d = .nx (ρ.set i (.val d)) := rfl
def on1 (i : Nat) (ρ : En) : Rs → Option Out := fun r => match r with
  | .new ds => some (.nx (ρ.set i (.own ds)))
  | .val d => some (.nx (ρ.set i (.val d)))
  | .view _ => none
theorem e_own {i : Nat} : rOwn i gu ρ = (gu ρ).bind (on1 i ρ) := rfl
theorem e_on_new {i : Nat} : on1 i ρ (.new ds) = some (.nx (ρ.set i (.own ds))) := rfl
theorem e_on_val {i : Nat} : on1 i ρ (.val d) = some (.nx (ρ.set i (.val d))) := rfl
theorem e_ret : rRet g ρ = (g ρ).map .rt := rfl
def run1 : Out → Option D := fun o => match o with
  | .rt d => some d
  | .nx _ => some .none
  | _ => none
theorem e_run {n : Nat} : runDef n R ds = (R (start0 n ds)).bind run1 := rfl
theorem e_run_rt : run1 (.rt d) = some d := rfl
theorem e_run_nx : run1 (.nx ρ) = some .none := rfl
def b2b (f : D → D → Option D) (x : Option D) : D → Option D := fun a => x.bind (f a)
theorem e_b2 {f : D → D → Option D} : b2 f ga gb ρ = (ga ρ).bind (b2b f (gb ρ)) := rfl
theorem e_b2b {f : D → D → Option D} {a y : D} : b2b f (some y) a = f a y := rfl
theorem e_b1 {f : D → Option D} : b1 f ga ρ = (ga ρ).bind f := rfl
theorem e_gv : gv gu ρ = (gu ρ).bind fz := rfl
theorem e_fz_val : fz (.val d) = some d := rfl
theorem e_fz_new : fz (.new ds) = some (.list ds) := rfl
theorem e_gr : gr g ρ = (g ρ).map .val := rfl
theorem e_gw : gw gu ρ = (gu ρ).map vw := rfl
theorem e_vw_val : vw (.val d) = d := rfl
theorem e_vw_new : vw (.new ds) = .list ds := rfl
theorem e_vw_view : vw (.view ds) = .list ds := rfl
theorem e_gR1 {f : Rs → Option Rs} : gR1 f gu ρ = (gu ρ).bind f := rfl
def and1 (x : Option D) : D → Option D := fun d => match d with
  | .bool true => x
  | .bool false => some (.bool false)
  | _ => none
theorem e_and : gAnd ga gb ρ = (ga ρ).bind (and1 (gb ρ)) := by
  unfold gAnd
  cases ga ρ with
  | none => rfl
  | some d => cases d <;> first | rfl | (rename_i k; cases k <;> rfl)
theorem e_and_t {x : Option D} : and1 x (.bool true) = x := rfl
theorem e_and_f {x : Option D} : and1 x (.bool false) = some (.bool false) := rfl
theorem e_and_d {p : Prop} [Decidable p] {x : Option D} : and1 x (.bool (decide p)) = if p then x else some (.bool false) := by by_cases h : p <;> simp [h, and1]
def or1 (x : Option D) : D → Option D := fun d => match d with
  | .bool true => some (.bool true)
  | .bool false => x
  | _ => none
theorem e_or : gOr ga gb ρ = (ga ρ).bind (or1 (gb ρ)) := by
  unfold gOr
  cases ga ρ with
  | none => rfl
  | some d => cases d <;> first | rfl | (rename_i k; cases k <;> rfl)
theorem e_or_t {x : Option D} : or1 x (.bool true) = some (.bool true) := rfl
theorem e_or_f {x : Option D} : or1 x (.bool false) = x := rfl
theorem e_or_d {p : Prop} [Decidable p] {x : Option D} : or1 x (.bool (decide p)) = if p then some (.bool true) else x := by by_cases h : p <;> simp [h, or1]
def if1 (x y : Option D) : Bool → Option D := fun c => if c = true then x else y
theorem e_gIf : gIf c ga gb ρ = (c ρ).bind (if1 (ga ρ) (gb ρ)) := rfl
theorem e_if1_t {x y : Option D} : if1 x y true = x := rfl
theorem e_if1_f {x y : Option D} : if1 x y false = y := rfl
theorem e_if1_d {p : Prop} [Decidable p] {x y : Option D} : if1 x y (decide p) = if p then x else y := by unfold if1; simp
theorem e_gTru : gTru g ρ = (g ρ).bind dTru := rfl
theorem e_tB : Pu.tB g ρ = (g ρ).bind gB := rfl
theorem e_gB {k : Bool} : gB (.bool k) = some k := rfl
def ta1 (x : Option Bool) : Bool → Option Bool := fun c => if c = true then x else some false
def to1 (x : Option Bool) : Bool → Option Bool := fun c => if c = true then some true else x
theorem e_tAnd : tAnd2 ca cb ρ = (ca ρ).bind (ta1 (cb ρ)) := rfl
theorem e_tOr : tOr2 ca cb ρ = (ca ρ).bind (to1 (cb ρ)) := rfl
theorem e_ta_t {x : Option Bool} : ta1 x true = x := rfl
theorem e_ta_f {x : Option Bool} : ta1 x false = some false := rfl
theorem e_to_t {x : Option Bool} : to1 x true = some true := rfl
theorem e_to_f {x : Option Bool} : to1 x false = x := rfl
theorem e_ta {x k : Bool} : ta1 (some x) k = some (k && x) := by cases k <;> rfl
theorem e_to {x k : Bool} : to1 (some x) k = some (k || x) := by cases k <;> rfl
theorem e_tNot : tNot2 c ρ = (c ρ).map (!·) := rfl
def ix1 (x : Option D) : Rs → Option D := fun r => x.bind (dIx r)
theorem e_ix : gIx gu g ρ = (gu ρ).bind (ix1 (g ρ)) := rfl
theorem e_ix1 {y : D} {r : Rs} : ix1 (some y) r = dIx r y := rfl
theorem e_aNil : aNil ρ = some [] := rfl
def ac1 (x : Option (List D)) : D → Option (List D) := fun d => x.bind fun ds => some (d :: ds)
theorem e_aCons : aCons g gs ρ = (g ρ).bind (ac1 (gs ρ)) := rfl
theorem e_ac1 : ac1 (some ds) d = some (d :: ds) := rfl
theorem e_tup : gTup2 gs ρ = (gs ρ).bind fun ds => if ds.length ≤ sizeLine then some (.tuple ds) else none := rfl
def tu1 : List D → Option D := fun ds => if ds.length ≤ sizeLine then some (.tuple ds) else none
def ls1 : List D → Option Rs := fun ds => if ds.length ≤ sizeLine then some (.new ds) else none
theorem e_gTup : gTup2 gs ρ = (gs ρ).bind tu1 := rfl
theorem e_gLst : gLst2 gs ρ = (gs ρ).bind ls1 := rfl
theorem small_line {n : Nat} (h : n ≤ 1000) : n ≤ sizeLine := Nat.le_trans h (by decide)
theorem e_tu2 {x y : D} : tu1 [x, y] = some (.tuple [x, y]) := if_pos (small_line (by decide : 2 ≤ 1000))
theorem e_tu1 {x : D} : tu1 [x] = some (.tuple [x]) := if_pos (small_line (by decide : 1 ≤ 1000))
theorem e_tu3 {x y z : D} : tu1 [x, y, z] = some (.tuple [x, y, z]) := if_pos (small_line (by decide : 3 ≤ 1000))
theorem e_tu4 {x y z u : D} : tu1 [x, y, z, u] = some (.tuple [x, y, z, u]) := if_pos (small_line (by decide : 4 ≤ 1000))
theorem e_ls0 : ls1 [] = some (.new []) := if_pos (small_line (by decide : 0 ≤ 1000))
theorem e_ls (h : ds.length ≤ 1000) : ls1 ds = some (.new ds) := if_pos (small_line h)
def cl1 (n : Nat) (φ : List D → Option D) : List D → Option D := fun ds => if ds.length = n then φ ds else none
theorem e_call {n : Nat} {φ : List D → Option D} : gCall n φ gs ρ = (gs ρ).bind (cl1 n φ) := rfl
theorem e_cl1 {φ : List D → Option D} {x : D} : cl1 1 φ [x] = φ [x] := rfl
theorem e_cl2 {φ : List D → Option D} {x y : D} : cl1 2 φ [x, y] = φ [x, y] := rfl
theorem e_cl3 {φ : List D → Option D} {x y z : D} : cl1 3 φ [x, y, z] = φ [x, y, z] := rfl
theorem e_cl4 {φ : List D → Option D} {x y z u : D} : cl1 4 φ [x, y, z, u] = φ [x, y, z, u] := rfl
theorem e_gFn {f : List D → Option D} : gFn f gs ρ = (gs ρ).bind f := rfl
def is1 (T : String) : Rs → Option D := fun r => dIsi T (vw r)
theorem e_isi {T : String} : gIsi T gu ρ = (gu ρ).bind (is1 T) := rfl
theorem e_is1 {T : String} {r : Rs} : is1 T r = dIsi T (vw r) := rfl
theorem e_vVar {i : Nat} : vVar i ρ = match ρ[i]? with
  | some (.val d) => some d
  | _ => none := rfl
theorem e_rVar {i : Nat} : rVar i ρ = match ρ[i]? with
  | some (.val d) => some (.val d)
  | some (.own ds) => some (.view ds)
  | _ => none := rfl
theorem e_wVar {i : Nat} : wVar i ρ = match ρ[i]? with
  | some (.val d) => some d
  | some (.own ds) => some (.list ds)
  | _ => none := rfl
theorem e_ownAt {i : Nat} : ownAt i ρ = match ρ[i]? with
  | some (.own ds) => some ds
  | _ => none := rfl
theorem e_frz {i : Nat} : frz i ρ = match ρ[i]? with
  | some (.own ds) => ρ.set i (.val (.list ds))
  | _ => ρ := rfl
theorem e_vC : vC d ρ = some d := rfl
theorem e_add {x y : Int} : dAdd (.int x) (.int y) = some (.int (x + y)) := rfl
theorem e_sub {x y : Int} : dSub (.int x) (.int y) = some (.int (x - y)) := rfl
theorem e_mul {x y : Int} : dMul (.int x) (.int y) = if mulOk x y = true then some (.int (x * y)) else none := rfl
theorem e_fdiv {x y : Int} : dFdiv (.int x) (.int y) = if divOk y = true then some (.int (x.fdiv y)) else none := rfl
theorem e_mod {x y : Int} : dMod (.int x) (.int y) = if y ≠ 0 then some (.int (x.fmod y)) else none := rfl
theorem e_pow {x y : Int} : dPow (.int x) (.int y) = if 0 ≤ y ∧ y ≤ 1000000 ∧ x.natAbs < 2 ^ 64 then some (.int (x ^ y.toNat)) else none := rfl
theorem e_neg {x : Int} : dNeg (.int x) = some (.int (-x)) := rfl
theorem e_not {x : Bool} : dNot (.bool x) = some (.bool (!x)) := rfl
theorem e_lt {x y : Int} : dLt (.int x) (.int y) = some (.bool (decide (x < y))) := rfl
theorem e_le {x y : Int} : dLe (.int x) (.int y) = some (.bool (decide (x ≤ y))) := rfl
theorem e_gt {x y : Int} : dGt (.int x) (.int y) = some (.bool (decide (y < x))) := rfl
theorem e_ge {x y : Int} : dGe (.int x) (.int y) = some (.bool (decide (y ≤ x))) := rfl
theorem e_tru_b {x : Bool} : dTru (.bool x) = some x := rfl
theorem e_tru_i {x : Int} : dTru (.int x) = some (x != 0) := rfl
theorem e_tru_l : dTru (.list ds) = some (!ds.isEmpty) := rfl
theorem e_tru_t : dTru (.tuple ds) = some (!ds.isEmpty) := rfl
theorem e_len_v : dLen (.val (.list ds)) = some (.val (.int ds.length)) := rfl
theorem e_len_t : dLen (.val (.tuple ds)) = some (.val (.int ds.length)) := rfl
theorem e_len_w : dLen (.view ds) = some (.val (.int ds.length)) := rfl
theorem e_len_n : dLen (.new ds) = some (.val (.int ds.length)) := rfl
theorem e_len_s : dLen (.val (scrD ds)) = some (.val (.int ds.length)) := rfl
theorem e_int_i {x : Int} : dInt (.val (.int x)) = some (.val (.int x)) := rfl
theorem e_abs {x : Int} : dAbs (.val (.int x)) = some (.val (.int (if x < 0 then -x else x))) := rfl
theorem e_max {x y : Int} : dMax2 [.int x, .int y] = some (.int (if y > x then y else x)) := rfl
theorem e_min {x y : Int} : dMin2 [.int x, .int y] = some (.int (if y < x then y else x)) := rfl
theorem e_ix_l {i : Int} : dIx (.val (.list ds)) (.int i) = atI ds i := rfl
theorem e_ix_w {i : Int} : dIx (.view ds) (.int i) = atI ds i := rfl
theorem e_ix_n {i : Int} : dIx (.new ds) (.int i) = atI ds i := rfl
theorem e_ix_t {i : Int} : dIx (.val (.tuple ds)) (.int i) = atI ds i := rfl
theorem e_ix_s {i : Int} : dIx (.val (scrD ds)) (.int i) = atI ds i := rfl
theorem e_at0 {α : Type} {x : α} {xs : List α} : atI (x :: xs) 0 = some x := atI_nat (j := 0) rfl
theorem e_at1 {α : Type} {x y : α} {xs : List α} : atI (x :: y :: xs) 1 = some y := atI_nat (j := 1) rfl
theorem e_at2 {α : Type} {x y z : α} {xs : List α} : atI (x :: y :: z :: xs) 2 = some z := atI_nat (j := 2) rfl
theorem e_at3 {α : Type} {x y z u : α} {xs : List α} : atI (x :: y :: z :: u :: xs) 3 = some u := atI_nat (j := 3) rfl
theorem e_items {gg : En → Option D} : gItems2 gg ρ = (gg ρ).bind fun d => match d with
    | .list ds => some ds
    | .tuple ds => some ds
    | .dict [(.list ds, .none)] => some ds
    | _ => none := rfl
def it1 : D → Option (List D) := fun d => match d with
    | .list ds => some ds
    | .tuple ds => some ds
    | .dict [(.list ds, .none)] => some ds
    | _ => none
theorem e_gItems {gg : En → Option D} : gItems2 gg ρ = (gg ρ).bind it1 := rfl
theorem e_it_l : it1 (.list ds) = some ds := rfl
theorem e_it_t : it1 (.tuple ds) = some ds := rfl
theorem e_it_s : it1 (scrD ds) = some ds := rfl
theorem e_for {gi : En → Option (List D)} : rFor gi b R ρ = (gi ρ).bind fun ds => forL b R ds ρ := rfl
def fo1 (b : D → En → Option En) (R : En → Option Out) (ρ : En) : List D → Option Out := fun ds => forL b R ds ρ
theorem e_rFor {gi : En → Option (List D)} : rFor gi b R ρ = (gi ρ).bind (fo1 b R ρ) := rfl
theorem e_fo1 : fo1 b R ρ ds = forL b R ds ρ := rfl
def fl2 (b : D → En → Option En) (R : En → Option Out) (ds : List D) : Out → Option Out := fun o => match o with
    | .nx ρ2 => forL b R ds ρ2
    | .ct ρ2 => forL b R ds ρ2
    | .bk ρ2 => some (.nx ρ2)
    | .rt d => some (.rt d)
def fl1 (b : D → En → Option En) (R : En → Option Out) (ds : List D) : En → Option Out := fun ρ1 => (R ρ1).bind (fl2 b R ds)
theorem e_fl_nil : forL b R [] ρ = some (.nx ρ) := rfl
theorem e_fl_cons : forL b R (d :: ds) ρ = (b d ρ).bind (fl1 b R ds) := rfl
theorem e_fl1 : fl1 b R ds ρ = (R ρ).bind (fl2 b R ds) := rfl
theorem e_fl2_nx : fl2 b R ds (.nx ρ) = forL b R ds ρ := rfl
theorem e_fl2_ct : fl2 b R ds (.ct ρ) = forL b R ds ρ := rfl
theorem e_fl2_bk : fl2 b R ds (.bk ρ) = some (.nx ρ) := rfl
theorem e_fl2_rt : fl2 b R ds (.rt d) = some (.rt d) := rfl
theorem e_bName {i : Nat} : bName i d ρ = some (ρ.set i (.val d)) := rfl
theorem e_bTup {n : Nat} {bs : List D → En → Option En} : bTup n bs (.tuple ds) ρ = if ds.length = n then bs ds ρ else none := rfl
theorem e_bTup_l {n : Nat} {bs : List D → En → Option En} : bTup n bs (.list ds) ρ = if ds.length = n then bs ds ρ else none := rfl
theorem e_bNil : bNil [] ρ = some ρ := rfl
theorem e_bCons {bs : List D → En → Option En} : bCons b bs (d :: ds) ρ = (b d ρ).bind (bs ds) := rfl
theorem e_asg : rAsg b g ρ = (g ρ).bind fun d => (b d ρ).map .nx := rfl
def as1 (b : D → En → Option En) (ρ : En) : D → Option Out := fun d => (b d ρ).map .nx
theorem e_rAsg : rAsg b g ρ = (g ρ).bind (as1 b ρ) := rfl
theorem e_as1 : as1 b ρ d = (b d ρ).map .nx := rfl
def ap1 (i : Nat) (ρ : En) (x : Option D) : List D → Option Out := fun ds => x.bind fun d => if ds.length < sizeLine then some (.nx (ρ.set i (.own (ds ++ [d])))) else none
theorem e_app {i : Nat} : rApp i g ρ = (ownAt i ρ).bind (ap1 i ρ (g ρ)) := rfl
theorem e_ap1 {i : Nat} : ap1 i ρ (some d) ds = if ds.length < sizeLine then some (.nx (ρ.set i (.own (ds ++ [d])))) else none := rfl
def pu1 (i : Nat) (ρ : En) (x k : Option D) : List D → Option Out := fun ds => x.bind fun d => k.bind fun k => (asInt k).bind fun k => (ixN ds.length k).map fun j => .nx (ρ.set i (.own (ds.set j d)))
theorem e_put {i : Nat} : rPut i gk g ρ = (ownAt i ρ).bind (pu1 i ρ (g ρ) (gk ρ)) := rfl
theorem e_pu1 {i : Nat} {k : Int} : pu1 i ρ (some d) (some (.int k)) ds = (ixN ds.length k).map fun j => .nx (ρ.set i (.own (ds.set j d))) := rfl
def po1 (i : Nat) (ρ : En) : List D → Option Out := fun ds => if ds = [] then none else some (.nx (ρ.set i (.own ds.dropLast)))
theorem e_pop {i : Nat} : rPopL i ρ = (ownAt i ρ).bind (po1 i ρ) := rfl
def au1 (i : Nat) (ρ : En) (f : D → D → Option D) (x : Option D) : D → Option Out := fun a => x.bind fun b => (f a b).map fun d => .nx (ρ.set i (.val d))
theorem e_aug {i : Nat} {f : D → D → Option D} : rAug i f g ρ = (vVar i ρ).bind (au1 i ρ f (g ρ)) := rfl
theorem e_au1 {i : Nat} {f : D → D → Option D} {x y : D} : au1 i ρ f (some y) x = (f x y).map fun d => .nx (ρ.set i (.val d)) := rfl
theorem e_iadd {x y : Int} : dIAdd (.int x) (.int y) = some (.int (x + y)) := rfl
theorem e_isub {x y : Int} : dISub (.int x) (.int y) = some (.int (x - y)) := rfl
def ra1 : List D → Option (List D) := fun ds => match ds with
  | [.int n] => if -(2 ^ 62) ≤ n ∧ n < 2 ^ 62 then some (rangeD 0 n.toNat 1) else none
  | _ => none
theorem e_range1 : gRange1 gs ρ = (gs ρ).bind ra1 := rfl
theorem e_ra1 {n : Int} : ra1 [.int n] = if -(2 ^ 62) ≤ n ∧ n < 2 ^ 62 then some (rangeD 0 n.toNat 1) else none := rfl
theorem e_start {n : Nat} : start0 n ds = ds.map .val ++ List.replicate (n - ds.length) .un := rfl
end
end Pu
namespace Pu
open PySem PySem.Spec PyProof.Rows L2
variable [FnTab]
theorem e_p18 : dPow (.int 10) (.int 18) = some (.int 1000000000000000000) := by
  rw [e_pow, if_pos (by decide)]; rfl
theorem e_p6 : dPow (.int 10) (.int 6) = some (.int 1000000) := by
  rw [e_pow, if_pos (by decide)]; rfl
theorem e_p24 : dPow (.int 10) (.int 24) = some (.int 1000000000000000000000000) := by
  rw [e_pow, if_pos (by decide)]; rfl
theorem e_mul_l {x y : Int} (h : x.natAbs < 18446744073709551616) : dMul (.int x) (.int y) = some (.int (x * y)) := by
  rw [e_mul, if_pos (mul_small_l h)]
theorem e_mul_r {x y : Int} (h : y.natAbs < 18446744073709551616) : dMul (.int x) (.int y) = some (.int (x * y)) := by
  rw [e_mul, if_pos (mul_small_r h)]
theorem e_mod_p {x y : Int} (h : 0 < y) : dMod (.int x) (.int y) = some (.int (x % y)) := by
  rw [e_mod, if_pos (by omega), fmod_pos _ h]
theorem e_fdiv_p {x y : Int} (h : 0 < y) (h2 : y < 18446744073709551616) : dFdiv (.int x) (.int y) = some (.int (x / y)) := by
  have h3 : y.natAbs < 2 ^ 64 := by omega
  have h4 : y ≠ 0 := by omega
  rw [e_fdiv, if_pos (div_ok h4 (Nat.lt_of_lt_of_le h3 (Nat.pow_le_pow_right (by decide) (by decide)))), fdiv_pos _ h]
theorem e_decT {p : Prop} [Decidable p] (h : p) : decide p = true := by simp [h]
theorem e_decF {p : Prop} [Decidable p] (h : ¬ p) : decide p = false := by simp [h]
theorem d_not (p : Prop) [Decidable p] : (!decide p) = decide (¬ p) := by simp
end Pu
namespace Pu
open PySem PySem.Spec PyProof.Rows L2
variable [FnTab]
theorem e_mul_h {x y : Int} (h : mulOk x y = true) : dMul (.int x) (.int y) = some (.int (x * y)) := by
  rw [e_mul, if_pos h]
section
variable {x1 x2 x3 x4 x5 x6 : D}
theorem e_ls1 : ls1 [x1] = some (.new [x1]) := if_pos (small_line (by decide : 1 ≤ 1000))
theorem e_ls2 : ls1 [x1, x2] = some (.new [x1, x2]) := if_pos (small_line (by decide : 2 ≤ 1000))
theorem e_ls3 : ls1 [x1, x2, x3] = some (.new [x1, x2, x3]) := if_pos (small_line (by decide : 3 ≤ 1000))
theorem e_ls4 : ls1 [x1, x2, x3, x4] = some (.new [x1, x2, x3, x4]) := if_pos (small_line (by decide : 4 ≤ 1000))
theorem e_ls5 : ls1 [x1, x2, x3, x4, x5] = some (.new [x1, x2, x3, x4, x5]) := if_pos (small_line (by decide : 5 ≤ 1000))
theorem e_ls6 : ls1 [x1, x2, x3, x4, x5, x6] = some (.new [x1, x2, x3, x4, x5, x6]) := if_pos (small_line (by decide : 6 ≤ 1000))
end
end Pu

namespace Pu
open PySem PySem.Spec PyProof.Rows L2
variable [FnTab]
/-! ### loops and comprehensions as functions -/
theorem forL_cons {b : D → En → Option En} {R : En → Option Out} {d : D} {ds : List D} {ρ : En} : forL b R (d :: ds) ρ = ((b d ρ).bind R).bind (fl2 b R ds) := by
  rw [e_fl_cons]
  cases b d ρ <;> rfl
/-- a loop over encoded values, by an invariant of what has been walked -/
theorem forL_inv {α : Type} {enc : α → D} {b : D → En → Option En} {R : En → Option Out} (P : List α → En → Prop) (xs : List α)
    (h : ∀ pre x post, xs = pre ++ x :: post → ∀ ρ, P pre ρ → ∃ ρ', ((b (enc x) ρ).bind R = some (.nx ρ') ∨ (b (enc x) ρ).bind R = some (.ct ρ')) ∧ P (pre ++ [x]) ρ') :
    ∀ (post pre : List α), xs = pre ++ post → ∀ ρ, P pre ρ → ∃ ρ', forL b R (post.map enc) ρ = some (.nx ρ') ∧ P xs ρ'
  | [], pre, e, ρ, hp => ⟨ρ, rfl, by rw [e, List.append_nil]; exact hp⟩
  | x :: post, pre, e, ρ, hp => by
    obtain ⟨ρ1, h1, hp1⟩ := h pre x post e ρ hp
    obtain ⟨ρ', h2, hp2⟩ := forL_inv P xs h post (pre ++ [x]) (by rw [e]; simp) ρ1 hp1
    refine ⟨ρ', ?_, hp2⟩
    rw [List.map_cons, forL_cons]
    rcases h1 with h1 | h1 <;> rw [h1] <;> exact h2
theorem for_inv {α : Type} {enc : α → D} {b : D → En → Option En} {R : En → Option Out} {xs : List α} {ρ : En} (P : List α → En → Prop) (h0 : P [] ρ)
    (h : ∀ pre x post, xs = pre ++ x :: post → ∀ ρ, P pre ρ → ∃ ρ', ((b (enc x) ρ).bind R = some (.nx ρ') ∨ (b (enc x) ρ).bind R = some (.ct ρ')) ∧ P (pre ++ [x]) ρ') :
    ∃ ρ', forL b R (xs.map enc) ρ = some (.nx ρ') ∧ P xs ρ' := forL_inv P xs h xs [] rfl ρ h0
/-- the same, of a loop that stands in a goal under a name -/
theorem for_of {α : Type} {enc : α → D} {b : D → En → Option En} {R : En → Option Out} {xs : List α} {ρ : En} {F : Option Out} (hF : forL b R (xs.map enc) ρ = F) (P : List α → En → Prop) (h0 : P [] ρ)
    (h : ∀ pre x post, xs = pre ++ x :: post → ∀ ρ, P pre ρ → ∃ ρ', ((b (enc x) ρ).bind R = some (.nx ρ') ∨ (b (enc x) ρ).bind R = some (.ct ρ')) ∧ P (pre ++ [x]) ρ') :
    ∃ ρ', F = some (.nx ρ') ∧ P xs ρ' := by
  subst hF
  exact for_inv P h0 h
theorem lcL_map {α : Type} {enc : α → D} {f : D → Option (List D)} {g : α → List D} : ∀ {xs : List α}, (∀ x ∈ xs, f (enc x) = some (g x)) → lcL f (xs.map enc) = some (xs.flatMap g)
  | [], _ => rfl
  | x :: xs, h => by
    rw [List.map_cons, lcL, h x (List.mem_cons_self ..), Option.bind_some, lcL_map fun y hy => h y (List.mem_cons_of_mem _ hy)]
    rfl
theorem flat_one {α β : Type} {g : α → β} : ∀ {xs : List α}, (xs.flatMap fun x => [g x]) = xs.map g
  | [] => rfl
  | x :: xs => by rw [List.flatMap_cons, flat_one]; rfl
theorem flat_if {α β : Type} {g : α → β} {p : α → Bool} : ∀ {xs : List α}, (xs.flatMap fun x => if p x = true then [g x] else []) = (xs.filter p).map g
  | [] => rfl
  | x :: xs => by
    rw [List.flatMap_cons, flat_if, List.filter_cons]
    by_cases h : p x = true
    · rw [if_pos h, if_pos h]; rfl
    · rw [if_neg h, if_neg h]; rfl
/-- a comprehension without a test -/
theorem lc_map {α : Type} {enc : α → D} {b : D → En → Option En} {g : En → Option D} {ρ : En} {k : α → D} {xs : List α} (h : ∀ x ∈ xs, (b (enc x) ρ).bind g = some (k x)) :
    lcL (lcF b gYes g ρ) (xs.map enc) = some (xs.map k) := by
  rw [lcL_map (g := fun x => [k x]) fun x hx => ?_, flat_one]
  have := h x hx
  unfold lcF gYes
  cases e : b (enc x) ρ with
  | none => rw [e] at this; cases this
  | some ρ1 =>
    rw [e] at this
    show (g ρ1).map (fun y => [y]) = _
    rw [show g ρ1 = some (k x) from this]; rfl
/-- a comprehension with a test -/
theorem lc_filter {α : Type} {enc : α → D} {b : D → En → Option En} {t : En → Option Bool} {g : En → Option D} {ρ : En} {p : α → Bool} {k : α → D} {xs : List α}
    (ht : ∀ x ∈ xs, (b (enc x) ρ).bind t = some (p x)) (h : ∀ x ∈ xs, p x = true → (b (enc x) ρ).bind g = some (k x)) :
    lcL (lcF b t g ρ) (xs.map enc) = some ((xs.filter p).map k) := by
  rw [lcL_map (g := fun x => if p x = true then [k x] else []) fun x hx => ?_, flat_if]
  have h1 := ht x hx
  have h2 := h x hx
  unfold lcF
  cases e : b (enc x) ρ with
  | none => rw [e] at h1; cases h1
  | some ρ1 =>
    rw [e] at h1 h2
    show (t ρ1).bind _ = _
    rw [show t ρ1 = some (p x) from h1]
    show (if p x = true then _ else _) = _
    by_cases hp : p x = true
    · rw [if_pos hp, if_pos hp, show g ρ1 = some (k x) from h2 hp]; rfl
    · rw [if_neg hp, if_neg hp]
/-! ### more equations for reckoning -/
theorem small_lt {n : Nat} (h : n < 100000) : n < sizeLine := Nat.lt_of_lt_of_le h (by decide)
theorem e_ap1_ok {i : Nat} {ρ : En} {d : D} {ds : List D} (h : ds.length < 100000) : ap1 i ρ (some d) ds = some (.nx (ρ.set i (.own (ds ++ [d])))) := by
  rw [e_ap1, if_pos (small_lt h)]
theorem e_ra1_nat {n : Nat} (h : n < 100000) : ra1 [.int (n : Int)] = some ((List.range n).map fun i : Nat => .int (i : Int)) := by
  rw [e_ra1, if_pos (by omega)]
  unfold rangeD
  congr 2
  funext i
  congr 1
  omega
theorem atI_map {α : Type} {g : α → D} {xs : List α} {k : Nat} (h : k < xs.length) : atI (xs.map g) (k : Int) = some (g xs[k]) := by
  apply atI_nat
  rw [List.getElem?_map, List.getElem?_eq_getElem h]; rfl
theorem range_mid {n x : Nat} {pre post : List Nat} (h : List.range n = pre ++ x :: post) : x = pre.length ∧ pre.length < n := by
  have hl : pre.length < (List.range n).length := by rw [h]; simp
  have h2 : (List.range n)[pre.length]? = some x := by rw [h]; simp
  rw [List.length_range] at hl
  rw [List.getElem?_range hl] at h2
  exact ⟨(Option.some.inj h2).symm, hl⟩
theorem split_mid {α : Type} {xs pre post : List α} {x : α} (h : xs = pre ++ x :: post) : ∃ hl : pre.length < xs.length, xs[pre.length] = x := by
  subst h
  exact ⟨by simp, by simp⟩
def lcO : List D → Option Rs := fun out => if out.length ≤ sizeLine then some (.new out) else none
def lc1 (b : D → En → Option En) (t : En → Option Bool) (g : En → Option D) (L : List Nat) (ρ : En) : List D → Option Rs := fun ds => (lcL (lcF b t g (wipeE ρ L)) ds).bind lcO
theorem e_gLc {gi : En → Option (List D)} {b : D → En → Option En} {t : En → Option Bool} {g : En → Option D} {L : List Nat} {ρ : En} : gLc gi b t g L ρ = (gi ρ).bind (lc1 b t g L ρ) := rfl
theorem e_lcO {ds : List D} (h : ds.length < 100000) : lcO ds = some (.new ds) := if_pos (Nat.le_of_lt (small_lt h))
theorem lc1_map {α : Type} {enc : α → D} {b : D → En → Option En} {g : En → Option D} {L : List Nat} {ρ : En} {k : α → D} {xs : List α} (hl : xs.length < 100000) (h : ∀ x ∈ xs, (b (enc x) (wipeE ρ L)).bind g = some (k x)) :
    lc1 b gYes g L ρ (xs.map enc) = some (.new (xs.map k)) := by
  unfold lc1
  have : lcL (lcF b gYes g (wipeE ρ L)) (xs.map enc) = some (xs.map k) := by
    rw [lcL_map (g := fun x => [k x]) fun x hx => ?_]
    · congr 1
      clear hl h
      induction xs with
      | nil => rfl
      | cons x xs ih => rw [List.flatMap_cons, ih]; rfl
    · have := h x hx
      unfold lcF gYes
      cases e : b (enc x) (wipeE ρ L) with
      | none => rw [e] at this; cases this
      | some ρ1 =>
        rw [e] at this
        show (g ρ1).map (fun y => [y]) = _
        rw [show g ρ1 = some (k x) from this]; rfl
  rw [this, Option.bind_some, e_lcO (by simpa using hl)]
theorem lc1_filter {α : Type} {enc : α → D} {b : D → En → Option En} {t : En → Option Bool} {g : En → Option D} {L : List Nat} {ρ : En} {p : α → Bool} {k : α → D} {xs : List α} (hl : xs.length < 100000)
    (ht : ∀ x ∈ xs, (b (enc x) (wipeE ρ L)).bind t = some (p x)) (h : ∀ x ∈ xs, p x = true → (b (enc x) (wipeE ρ L)).bind g = some (k x)) :
    lc1 b t g L ρ (xs.map enc) = some (.new ((xs.filter p).map k)) := by
  unfold lc1
  rw [lc_filter ht h, Option.bind_some, e_lcO]
  have := List.length_filter_le p xs
  simp
  omega
theorem e_pairD {p : Int × Int} : pairD p = .tuple [.int p.1, .int p.2] := rfl
theorem e_wipe0 {ρ : En} : wipeE ρ [] = ρ := rfl
theorem e_wipe1 {ρ : En} {i : Nat} : wipeE ρ [i] = ρ.set i .un := rfl
theorem e_wipe2 {ρ : En} {i j : Nat} : wipeE ρ [i, j] = (ρ.set j .un).set i .un := rfl
theorem e_gYes {ρ : En} : gYes ρ = some true := rfl
theorem e_and_b {x y : Bool} : and1 (some (.bool y)) (.bool x) = some (.bool (x && y)) := by cases x <;> rfl
theorem e_or_b {x y : Bool} : or1 (some (.bool y)) (.bool x) = some (.bool (x || y)) := by cases x <;> rfl
theorem lcM_of {α : Type} {enc : α → D} {b : D → En → Option En} {g : En → Option D} {L : List Nat} {ρ : En} {xs : List α} {C : Option Rs} (hC : lc1 b gYes g L ρ (xs.map enc) = C) (k : α → D) (hl : xs.length < 100000) (h : ∀ x ∈ xs, (b (enc x) (wipeE ρ L)).bind g = some (k x)) :
    C = some (.new (xs.map k)) := hC.symm.trans (lc1_map hl h)
theorem lcF_of {α : Type} {enc : α → D} {b : D → En → Option En} {t : En → Option Bool} {g : En → Option D} {L : List Nat} {ρ : En} {xs : List α} {C : Option Rs} (hC : lc1 b t g L ρ (xs.map enc) = C) (p : α → Bool) (k : α → D) (hl : xs.length < 100000)
    (ht : ∀ x ∈ xs, (b (enc x) (wipeE ρ L)).bind t = some (p x)) (h : ∀ x ∈ xs, p x = true → (b (enc x) (wipeE ρ L)).bind g = some (k x)) : C = some (.new ((xs.filter p).map k)) := hC.symm.trans (lc1_filter hl ht h)
/-! ### lists of ints, bools, pairs -/
theorem allOf_cod {α : Type} {f : D → Option α} {g : α → D} (h : ∀ x, f (g x) = some x) : ∀ (xs : List α), allOf f (xs.map g) = some xs
  | [] => rfl
  | x :: xs => by rw [List.map_cons, allOf, h, allOf_cod h xs]; rfl
theorem allOf_ints (ns : List Int) : allOf asInt (ns.map PyData.int) = some ns := allOf_cod (g := PyData.int) (fun _ => rfl) ns
theorem allOf_bools (ns : List Bool) : allOf asBool (ns.map PyData.bool) = some ns := allOf_cod (g := PyData.bool) (fun _ => rfl) ns
theorem allOf_pairs (ns : List (Int × Int)) : allOf asPair (ns.map pairD) = some ns := allOf_cod (g := pairD) (fun _ => rfl) ns
theorem sorted_pairs (ps : List (Int × Int)) {r : Rs} (h : lstOf r = some (ps.map pairD)) : dSorted r = some (.new ((sortP ps).map pairD)) := by
  unfold dSorted
  rw [h, Option.bind_some]
  cases ps with
  | nil => simp [allOf, sortI, sortP]
  | cons p ps =>
    have e1 : allOf asInt ((p :: ps).map pairD) = none := rfl
    rw [e1, allOf_pairs]
    rfl
theorem sorted_ints (ns : List Int) {r : Rs} (h : lstOf r = some (ns.map PyData.int)) : dSorted r = some (.new ((sortI ns).map .int)) := by
  unfold dSorted
  rw [h, Option.bind_some, allOf_ints]
theorem any_bools (ns : List Bool) {r : Rs} (h : lstOf r = some (ns.map PyData.bool)) : dAny r = some (.val (.bool (ns.any id))) := by
  unfold dAny
  rw [h, Option.bind_some, allOf_bools]; rfl
theorem all_bools (ns : List Bool) {r : Rs} (h : lstOf r = some (ns.map PyData.bool)) : dAll r = some (.val (.bool (ns.all id))) := by
  unfold dAll
  rw [h, Option.bind_some, allOf_bools]; rfl
theorem e_any_map {α : Type} {f : α → Bool} {xs : List α} : dAny (.new (xs.map fun x => PyData.bool (f x))) = some (.val (.bool (xs.any f))) := by
  rw [any_bools (xs.map f) (by rw [List.map_map]; rfl), List.any_map]; rfl
theorem e_all_map {α : Type} {f : α → Bool} {xs : List α} : dAll (.new (xs.map fun x => PyData.bool (f x))) = some (.val (.bool (xs.all f))) := by
  rw [all_bools (xs.map f) (by rw [List.map_map]; rfl), List.all_map]; rfl
theorem atI_last {α : Type} (xs : List α) (x : α) : atI (xs ++ [x]) (-1) = some x := by
  unfold atI ixN
  have hl : (xs ++ [x]).length = xs.length + 1 := by simp
  rw [if_neg (by decide), hl, if_pos (by omega), Option.bind_some]
  have : ((-1 : Int) + ((xs.length + 1 : Nat) : Int)).toNat = xs.length := by omega
  rw [this]
  simp
theorem ixN_last {n : Nat} (h : 0 < n) : ixN n (-1) = some (n - 1) := by
  unfold ixN
  rw [if_neg (by decide), if_pos (by omega)]
  congr 1
  omega
theorem set_last {α : Type} (xs : List α) (x y : α) : (xs ++ [x]).set ((xs ++ [x]).length - 1) y = xs ++ [y] := by
  rw [List.length_append, List.length_singleton, Nat.add_sub_cancel, List.set_append_right _ _ (Nat.le_refl _), Nat.sub_self]
  rfl
theorem e_ix_last {xs : List D} {x : D} : atI (xs ++ [x]) (-1) = some x := atI_last xs x
theorem e_tru_app {xs : List D} {x : D} : (xs ++ [x]).isEmpty = false := by cases xs <;> rfl
theorem e_pu1_last {i : Nat} {ρ : En} {d x : D} {xs : List D} : pu1 i ρ (some d) (some (.int (-1))) (xs ++ [x]) = some (.nx (ρ.set i (.own (xs ++ [d])))) := by
  rw [e_pu1, ixN_last (by simp), Option.map_some, set_last]
theorem cut_take {α : Type} (xs : List α) (n : Nat) : cutL xs none (some (n : Int)) = xs.take n := by
  unfold cutL
  have h0 : HT.sIx xs.length 0 none = 0 := rfl
  have h1 : HT.sIx xs.length xs.length (some (n : Int)) = min n xs.length := by
    unfold HT.sIx
    simp only
    try (unfold PySem.sliceIndex)
    split <;> omega
  rw [h0, h1, Nat.sub_zero, List.drop_zero]
  simp [List.take_eq_take_iff]
/-! ### == of lists of pairs -/
theorem eqv_int (a b : Int) : PyData.eqv (.int a) (.int b) = decide (a = b) := by rw [PyData.eqv]; rfl
theorem eqv_pair (p q : Int × Int) : PyData.eqv (pairD p) (pairD q) = decide (p = q) := by
  unfold pairD
  rw [PyData.eqv, PyData.eqvAll, PyData.eqvAll, PyData.eqvAll, eqv_int, eqv_int]
  obtain ⟨a, b⟩ := p
  obtain ⟨c, d⟩ := q
  simp
theorem eqv_all {α : Type} [DecidableEq α] {enc : α → D} (h : ∀ x y, PyData.eqv (enc x) (enc y) = decide (x = y)) : ∀ (xs ys : List α), PyData.eqvAll (xs.map enc) (ys.map enc) = decide (xs = ys)
  | [], [] => by rw [List.map_nil, PyData.eqvAll]; rfl
  | [], y :: ys => by rw [List.map_nil, List.map_cons, PyData.eqvAll]; rfl
  | x :: xs, [] => by rw [List.map_nil, List.map_cons, PyData.eqvAll]; rfl
  | x :: xs, y :: ys => by
    rw [List.map_cons, List.map_cons, PyData.eqvAll, h, eqv_all h xs ys]
    simp
theorem depthAll_le {n : Nat} : ∀ (ds : List D), (∀ d ∈ ds, d.depth ≤ n) → PyData.depthAll ds ≤ n
  | [], _ => by rw [PyData.depthAll]; omega
  | d :: ds, h => by
    rw [PyData.depthAll]
    have h1 := h d (List.mem_cons_self ..)
    have h2 := depthAll_le ds fun x hx => h x (List.mem_cons_of_mem _ hx)
    omega
theorem canLayAll_of : ∀ (ds : List D), (∀ d ∈ ds, d.canLay0 = true) → PyData.canLayAll0 ds = true
  | [], _ => by rw [PyData.canLayAll0]
  | d :: ds, h => by
    rw [PyData.canLayAll0, h d (List.mem_cons_self ..), canLayAll_of ds fun x hx => h x (List.mem_cons_of_mem _ hx)]
    rfl
/-- data that == may be asked of, of a depth of at most n -/
def Shp (n : Nat) (d : D) : Prop := d.canLay0 = true ∧ d.depth ≤ n
theorem Shp.shaped {n : Nat} {d : D} (h : Shp n d) (hn : n ≤ 64) : SeqAt.shaped d = true := by
  unfold SeqAt.shaped
  rw [h.1, Bool.true_and, decide_eq_true_eq]
  exact Nat.le_trans h.2 hn
theorem Shp.mono {n m : Nat} {d : D} (h : Shp n d) (hn : n ≤ m) : Shp m d := ⟨h.1, Nat.le_trans h.2 hn⟩
theorem Shp.int (z : Int) : Shp 1 (.int z) := ⟨by rw [PyData.canLay0], by rw [PyData.depth]; omega⟩
theorem Shp.bool (z : Bool) : Shp 1 (.bool z) := ⟨by rw [PyData.canLay0], by rw [PyData.depth]; omega⟩
theorem Shp.str {z : Str} (h : PyData.strOk z = true) : Shp 1 (.str z) := ⟨by rw [PyData.canLay0]; exact h, by rw [PyData.depth]; omega⟩
theorem Shp.none : Shp 1 PyData.none := ⟨by rw [PyData.canLay0], by rw [PyData.depth]; omega⟩
theorem Shp.list {n : Nat} {ds : List D} (h : ∀ d ∈ ds, Shp n d) : Shp (n + 1) (.list ds) :=
  ⟨by rw [PyData.canLay0]; exact canLayAll_of ds fun d hd => (h d hd).1, by rw [PyData.depth]; have := depthAll_le ds fun d hd => (h d hd).2; omega⟩
theorem Shp.tuple {n : Nat} {ds : List D} (h : ∀ d ∈ ds, Shp n d) : Shp (n + 1) (.tuple ds) :=
  ⟨by rw [PyData.canLay0]; exact canLayAll_of ds fun d hd => (h d hd).1, by rw [PyData.depth]; have := depthAll_le ds fun d hd => (h d hd).2; omega⟩
theorem Shp.pair (p : Int × Int) : Shp 2 (pairD p) := Shp.tuple fun d hd => by
  rcases List.mem_cons.mp hd with rfl | hd
  · exact .int _
  · rcases List.mem_cons.mp hd with rfl | hd
    · exact .int _
    · cases hd
theorem Shp.map {α : Type} {n : Nat} {enc : α → D} (h : ∀ x, Shp n (enc x)) (xs : List α) : Shp (n + 1) (.list (xs.map enc)) := Shp.list fun d hd => by
  obtain ⟨x, _, rfl⟩ := List.mem_map.mp hd
  exact h x
theorem dEq_of {n m : Nat} {a b : D} (ha : Shp n a) (hb : Shp m b) (hn : n ≤ 64) (hm : m ≤ 64) : dEq a b = some (.bool (PyData.eqv a b)) := by
  unfold dEq; rw [if_pos ⟨ha.shaped hn, hb.shaped hm⟩]
theorem dNe_of {n m : Nat} {a b : D} (ha : Shp n a) (hb : Shp m b) (hn : n ≤ 64) (hm : m ≤ 64) : dNe a b = some (.bool (!PyData.eqv a b)) := by
  unfold dNe; rw [if_pos ⟨ha.shaped hn, hb.shaped hm⟩]
theorem dEq_pairs (ps qs : List (Int × Int)) : dEq (.list (ps.map pairD)) (.list (qs.map pairD)) = some (.bool (decide (ps = qs))) := by
  rw [dEq_of (.map Shp.pair ps) (.map Shp.pair qs) (by omega) (by omega), PyData.eqv, eqv_all eqv_pair]
theorem dNe_pairs (ps qs : List (Int × Int)) : dNe (.list (ps.map pairD)) (.list (qs.map pairD)) = some (.bool (!decide (ps = qs))) := by
  rw [dNe_of (.map Shp.pair ps) (.map Shp.pair qs) (by omega) (by omega), PyData.eqv, eqv_all eqv_pair]
theorem dEq_ints (ps qs : List Int) : dEq (.list (ps.map .int)) (.list (qs.map .int)) = some (.bool (decide (ps = qs))) := by
  rw [dEq_of (.map Shp.int ps) (.map Shp.int qs) (by omega) (by omega), PyData.eqv, eqv_all eqv_int]
theorem dNe_ints (ps qs : List Int) : dNe (.list (ps.map .int)) (.list (qs.map .int)) = some (.bool (!decide (ps = qs))) := by
  rw [dNe_of (.map Shp.int ps) (.map Shp.int qs) (by omega) (by omega), PyData.eqv, eqv_all eqv_int]
/-! ### numbers below bounds -/
def Under : List Int → List Int → Prop
  | [], [] => True
  | v :: vs, b :: bs => (0 ≤ v ∧ v < b) ∧ Under vs bs
  | _, _ => False
theorem Under.len : ∀ {vs bs : List Int}, Under vs bs → vs.length = bs.length
  | [], [], _ => rfl
  | v :: vs, b :: bs, h => by rw [List.length_cons, List.length_cons, Under.len h.2]
theorem Under.snoc : ∀ {vs bs : List Int} {v b : Int}, Under vs bs → 0 ≤ v → v < b → Under (vs ++ [v]) (bs ++ [b])
  | [], [], _, _, _, h1, h2 => ⟨⟨h1, h2⟩, trivial⟩
  | v :: vs, b :: bs, _, _, h, h1, h2 => ⟨h.1, Under.snoc h.2 h1 h2⟩
theorem Under.two {vs : List Int} {a b : Int} (h : Under vs [a, b]) : ∃ x y, vs = [x, y] ∧ 0 ≤ x ∧ x < a ∧ 0 ≤ y ∧ y < b := by
  match vs, h with
  | [x, y], h => exact ⟨x, y, rfl, h.1.1, h.1.2, h.2.1.1, h.2.1.2⟩
theorem Under.three {vs : List Int} {a b c : Int} (h : Under vs [a, b, c]) : ∃ x y z, vs = [x, y, z] ∧ 0 ≤ x ∧ x < a ∧ 0 ≤ y ∧ y < b ∧ 0 ≤ z ∧ z < c := by
  match vs, h with
  | [x, y, z], h => exact ⟨x, y, z, rfl, h.1.1, h.1.2, h.2.1.1, h.2.1.2, h.2.2.1.1, h.2.2.1.2⟩
theorem Under.four {vs : List Int} {a b c d : Int} (h : Under vs [a, b, c, d]) : ∃ x y z u, vs = [x, y, z, u] ∧ 0 ≤ x ∧ x < a ∧ 0 ≤ y ∧ y < b ∧ 0 ≤ z ∧ z < c ∧ 0 ≤ u ∧ u < d := by
  match vs, h with
  | [x, y, z, u], h => exact ⟨x, y, z, u, rfl, h.1.1, h.1.2, h.2.1.1, h.2.1.2, h.2.2.1.1, h.2.2.1.2, h.2.2.2.1.1, h.2.2.2.1.2⟩
/-! ### spans: sorted, apart, none empty -/
abbrev PP := Int × Int
def lastOf (out : List PP) : Option PP := out.getLast?
def joinS (out : List PP) (p : PP) : List PP := match out.getLast? with
  | .none => out ++ [p]
  | some l => if p.1 ≤ l.2 then out.dropLast ++ [(l.1, max l.2 p.2)] else out ++ [p]
theorem joinS_nil (p : PP) : joinS [] p = [p] := rfl
theorem joinS_le {o : List PP} {l p : PP} (h : p.1 ≤ l.2) : joinS (o ++ [l]) p = o ++ [(l.1, max l.2 p.2)] := by
  unfold joinS
  rw [List.getLast?_concat]
  simp [h]
theorem joinS_gt {o : List PP} {l p : PP} (h : ¬ p.1 ≤ l.2) : joinS (o ++ [l]) p = o ++ [l] ++ [p] := by
  unfold joinS
  rw [List.getLast?_concat]
  simp [h]
theorem joinS_len (o : List PP) (p : PP) : (joinS o p).length ≤ o.length + 1 := by
  rcases List.eq_nil_or_concat o with rfl | ⟨o, l, rfl⟩
  · simp [joinS_nil]
  · rw [List.concat_eq_append]
    by_cases h : p.1 ≤ l.2
    · rw [joinS_le h]; simp
    · rw [joinS_gt h]; simp
theorem foldJ_len' : ∀ (ps o : List PP), (ps.foldl joinS o).length ≤ o.length + ps.length
  | [], o => by simp
  | p :: ps, o => by
    have h1 := foldJ_len' ps (joinS o p)
    have h2 := joinS_len o p
    rw [List.foldl_cons, List.length_cons]
    omega
theorem foldJ_len (ps : List PP) : (ps.foldl joinS []).length ≤ ps.length := by simpa using foldJ_len' ps []
structure NF (s : List PP) : Prop where
  ord : s.Pairwise fun p q => p.2 < q.1
  ne : ∀ p ∈ s, p.1 < p.2
def Mem (n : Int) (s : List PP) : Prop := ∃ p ∈ s, p.1 ≤ n ∧ n < p.2
theorem Mem.nil (n : Int) : ¬ Mem n [] := fun ⟨_, h, _⟩ => by cases h
theorem mem_app {n : Int} {s t : List PP} : Mem n (s ++ t) ↔ Mem n s ∨ Mem n t := by
  unfold Mem
  constructor
  · rintro ⟨p, h, q⟩
    rcases List.mem_append.mp h with h | h
    · exact .inl ⟨p, h, q⟩
    · exact .inr ⟨p, h, q⟩
  · rintro (⟨p, h, q⟩ | ⟨p, h, q⟩)
    · exact ⟨p, List.mem_append_left _ h, q⟩
    · exact ⟨p, List.mem_append_right _ h, q⟩
theorem mem_one {n : Int} {p : PP} : Mem n [p] ↔ p.1 ≤ n ∧ n < p.2 := by
  unfold Mem
  constructor
  · rintro ⟨q, h, r⟩
    rw [List.mem_singleton.mp h] at r
    exact r
  · exact fun r => ⟨p, List.mem_singleton.mpr rfl, r⟩
theorem NF.snoc {o : List PP} {l : PP} (h : NF (o ++ [l])) : NF o ∧ l.1 < l.2 ∧ ∀ q ∈ o, q.2 < l.1 :=
  ⟨⟨(List.pairwise_append.mp h.ord).1, fun p hp => h.ne p (List.mem_append_left _ hp)⟩, h.ne l (by simp), fun q hq => (List.pairwise_append.mp h.ord).2.2 q hq l (by simp)⟩
theorem NF.mk_snoc {o : List PP} {l : PP} (h : NF o) (h1 : l.1 < l.2) (h2 : ∀ q ∈ o, q.2 < l.1) : NF (o ++ [l]) :=
  ⟨List.pairwise_append.mpr ⟨h.ord, by simp, fun q hq p hp => by rw [List.mem_singleton.mp hp]; exact h2 q hq⟩, fun p hp => by
    rcases List.mem_append.mp hp with hp | hp
    · exact h.ne p hp
    · rw [List.mem_singleton.mp hp]; exact h1⟩
theorem joinS_ok {o : List PP} {p : PP} (h : NF o) (hp : p.1 < p.2) (hl : ∀ q ∈ o, q.1 ≤ p.1) : NF (joinS o p) ∧ (∀ n, Mem n (joinS o p) ↔ Mem n o ∨ (p.1 ≤ n ∧ n < p.2)) ∧ ∀ q ∈ joinS o p, q.1 ≤ p.1 := by
  rcases List.eq_nil_or_concat o with rfl | ⟨o, l, rfl⟩
  · rw [joinS_nil]
    refine ⟨.mk_snoc (o := []) h hp (by simp), fun n => ?_, fun q hq => by rw [List.mem_singleton.mp hq]; exact Int.le_refl _⟩
    rw [mem_one]
    exact ⟨.inr, fun r => r.elim (fun r => (Mem.nil n r).elim) id⟩
  · rw [List.concat_eq_append] at *
    obtain ⟨h0, h1, h2⟩ := h.snoc
    have h3 := hl l (by simp)
    by_cases c : p.1 ≤ l.2
    · rw [joinS_le c]
      refine ⟨.mk_snoc h0 (by show l.1 < max l.2 p.2; omega) h2, fun n => ?_, fun q hq => ?_⟩
      · rw [mem_app, mem_app, mem_one, mem_one, or_assoc]
        refine or_congr Iff.rfl ?_
        show l.1 ≤ n ∧ n < max l.2 p.2 ↔ _
        omega
      · rcases List.mem_append.mp hq with hq | hq
        · exact hl q (List.mem_append_left _ hq)
        · rw [List.mem_singleton.mp hq]; exact h3
    · rw [joinS_gt c]
      refine ⟨.mk_snoc h hp fun q hq => ?_, fun n => ?_, fun q hq => ?_⟩
      · rcases List.mem_append.mp hq with hq | hq
        · have := h2 q hq; omega
        · rw [List.mem_singleton.mp hq]; omega
      · rw [mem_app, mem_one]
      · rcases List.mem_append.mp hq with hq | hq
        · exact hl q hq
        · rw [List.mem_singleton.mp hq]; exact Int.le_refl _
theorem fold_ok : ∀ (ps o : List PP), NF o → (∀ p ∈ ps, p.1 < p.2) → (∀ p ∈ ps, ∀ q ∈ o, q.1 ≤ p.1) → ps.Pairwise (fun p q => p.1 ≤ q.1) → NF (ps.foldl joinS o) ∧ ∀ n, Mem n (ps.foldl joinS o) ↔ Mem n o ∨ Mem n ps
  | [], o, h, _, _, _ => ⟨h, fun n => ⟨.inl, fun r => r.elim id fun r => (Mem.nil n r).elim⟩⟩
  | p :: ps, o, h, hne, hl, hs => by
    obtain ⟨a, b, c⟩ := joinS_ok h (hne p (by simp)) (hl p (by simp))
    have hs' := List.pairwise_cons.mp hs
    obtain ⟨d, e⟩ := fold_ok ps (joinS o p) a (fun q hq => hne q (List.mem_cons_of_mem _ hq)) (fun q hq r hr => Int.le_trans (c r hr) (hs'.1 q hq)) hs'.2
    refine ⟨d, fun n => ?_⟩
    rw [List.foldl_cons, e n, b n, or_assoc, show p :: ps = [p] ++ ps from rfl, mem_app, mem_one]
/-- the one list of spans of what some pair holds -/
def spansN (ps : List PP) : List PP := ((sortP ps).filter fun p => decide (p.1 < p.2)).foldl joinS []
theorem spansN_ok (ps : List PP) : NF (spansN ps) ∧ ∀ n, Mem n (spansN ps) ↔ Mem n ps := by
  obtain ⟨a, b⟩ := fold_ok ((sortP ps).filter fun p => decide (p.1 < p.2)) [] ⟨.nil, by simp⟩ (fun p hp => by simpa using (List.mem_filter.mp hp).2) (by simp)
    (((sortP_sorted ps).imp fun h => by rw [leP_iff] at h; omega).filter _)
  refine ⟨a, fun n => ?_⟩
  unfold spansN
  rw [b n]
  constructor
  · rintro (h | ⟨p, hp, h⟩)
    · exact (Mem.nil n h).elim
    · exact ⟨p, (sortP_perm ps).mem_iff.mp (List.mem_filter.mp hp).1, h⟩
  · rintro ⟨p, hp, h⟩
    exact .inr ⟨p, List.mem_filter.mpr ⟨(sortP_perm ps).mem_iff.mpr hp, by simp; omega⟩, h⟩
theorem spansN_filter (ps : List PP) : spansN ps = (sortP (ps.filter fun p => decide (p.1 < p.2))).foldl joinS [] := by
  unfold spansN
  rw [← sortP_uniq ((sortP_perm ps).filter _) ((sortP_sorted ps).filter _)]
/-- spans in normal form are told by their members -/
theorem NF.uniq : ∀ {s t : List PP}, NF s → NF t → (∀ n, Mem n s ↔ Mem n t) → s = t
  | [], [], _, _, _ => rfl
  | [], q :: t, _, ht, h => ((Mem.nil q.1) ((h q.1).mpr ⟨q, by simp, Int.le_refl _, ht.ne q (by simp)⟩)).elim
  | p :: s, [], hs, _, h => ((Mem.nil p.1) ((h p.1).mp ⟨p, by simp, Int.le_refl _, hs.ne p (by simp)⟩)).elim
  | p :: s, q :: t, hs, ht, h => by
    have hp := hs.ne p (by simp)
    have hq := ht.ne q (by simp)
    have os := List.pairwise_cons.mp hs.ord
    have ot := List.pairwise_cons.mp ht.ord
    have ls : ∀ n, Mem n (p :: s) → n < p.2 ∨ p.2 < n := by
      rintro n ⟨r, hr, h1, h2⟩
      rcases List.mem_cons.mp hr with rfl | hr
      · exact .inl h2
      · have := os.1 r hr; omega
    have lt : ∀ n, Mem n (q :: t) → n < q.2 ∨ q.2 < n := by
      rintro n ⟨r, hr, h1, h2⟩
      rcases List.mem_cons.mp hr with rfl | hr
      · exact .inl h2
      · have := ot.1 r hr; omega
    have ms : ∀ n, Mem n (p :: s) → p.1 ≤ n := by
      rintro n ⟨r, hr, h1, h2⟩
      rcases List.mem_cons.mp hr with rfl | hr
      · exact h1
      · have := os.1 r hr; omega
    have mt : ∀ n, Mem n (q :: t) → q.1 ≤ n := by
      rintro n ⟨r, hr, h1, h2⟩
      rcases List.mem_cons.mp hr with rfl | hr
      · exact h1
      · have := ot.1 r hr; omega
    have inp : ∀ n, p.1 ≤ n → n < p.2 → Mem n (p :: s) := fun n h1 h2 => ⟨p, by simp, h1, h2⟩
    have inq : ∀ n, q.1 ≤ n → n < q.2 → Mem n (q :: t) := fun n h1 h2 => ⟨q, by simp, h1, h2⟩
    have e1 : p.1 = q.1 := Int.le_antisymm (ms _ ((h _).mpr (inq q.1 (Int.le_refl _) hq))) (mt _ ((h _).mp (inp p.1 (Int.le_refl _) hp)))
    have e2 : p.2 = q.2 := by
      have a : ¬ p.2 < q.2 := fun c => by
        have := ls _ ((h p.2).mpr (inq p.2 (by omega) c)); omega
      have b : ¬ q.2 < p.2 := fun c => by
        have := lt _ ((h q.2).mp (inp q.2 (by omega) c)); omega
      omega
    have e : p = q := Prod.ext e1 e2
    subst e
    rw [NF.uniq (s := s) (t := t) ⟨os.2, fun r hr => hs.ne r (List.mem_cons_of_mem _ hr)⟩ ⟨ot.2, fun r hr => ht.ne r (List.mem_cons_of_mem _ hr)⟩ fun n => ?_]
    constructor
    · rintro ⟨r, hr, h1, h2⟩
      obtain ⟨r', hr', h3, h4⟩ := (h n).mp ⟨r, List.mem_cons_of_mem _ hr, h1, h2⟩
      rcases List.mem_cons.mp hr' with rfl | hr'
      · have := os.1 r hr; omega
      · exact ⟨r', hr', h3, h4⟩
    · rintro ⟨r, hr, h1, h2⟩
      obtain ⟨r', hr', h3, h4⟩ := (h n).mpr ⟨r, List.mem_cons_of_mem _ hr, h1, h2⟩
      rcases List.mem_cons.mp hr' with rfl | hr'
      · have := ot.1 r hr; omega
      · exact ⟨r', hr', h3, h4⟩
theorem any_mem (n : Int) (s : List PP) : (s.any fun p => decide (p.1 ≤ n) && decide (n < p.2)) = true ↔ Mem n s := by
  rw [List.any_eq_true]
  unfold Mem
  simp
theorem any_congr_mem {n : Int} {s u : List PP} (h : ∀ n, Mem n s ↔ Mem n u) : (s.any fun p => decide (p.1 ≤ n) && decide (n < p.2)) = (u.any fun p => decide (p.1 ≤ n) && decide (n < p.2)) := by
  rw [Bool.eq_iff_iff, any_mem, any_mem, h]
theorem e_sl_take {ds : List D} {n : Nat} {r : Rs} (h : lstOf r = some ds) : dSl r none (some (n : Int)) = some (.new (ds.take n)) := by
  unfold dSl
  rw [h]
  show some (Rs.new _) = _
  rw [cut_take]
theorem NF.at {s : List PP} (h : NF s) {k : Nat} (hk : k < s.length) : s[k].1 < s[k].2 := h.ne _ (List.getElem_mem hk)
theorem NF.at2 {s : List PP} (h : NF s) {k : Nat} (hk : k < s.length) (h0 : 0 < k) : (s[k - 1]'(by omega)).2 < s[k].1 := List.pairwise_iff_getElem.mp h.ord (k - 1) k (by omega) hk (by omega)
def sl1 (lo hi : Option (Option Int)) : Rs → Option Rs := fun r => lo.bind fun lo => hi.bind fun hi => dSl r lo hi
theorem e_gSl {g : En → Option Rs} {l h : En → Option (Option Int)} {ρ : En} : gSl g l h ρ = (g ρ).bind (sl1 (l ρ) (h ρ)) := rfl
theorem e_sl1 {lo hi : Option Int} {r : Rs} : sl1 (some lo) (some hi) r = dSl r lo hi := rfl
theorem e_oNone {ρ : En} : oNone ρ = some none := rfl
theorem e_list_w {ds : List D} : dList (.view ds) = some (.new ds) := rfl
theorem e_list_n {ds : List D} : dList (.new ds) = some (.new ds) := rfl
theorem e_list_l {ds : List D} : dList (.val (.list ds)) = some (.new ds) := rfl
theorem e_list_t {ds : List D} : dList (.val (.tuple ds)) = some (.new ds) := rfl
theorem e_list_s {ds : List D} : dList (.val (scrD ds)) = some (.new ds) := rfl
def os1 : D → Option (Option Int) := fun d => (asInt d).map some
theorem e_oSome {g : En → Option D} {ρ : En} : oSome g ρ = (g ρ).bind os1 := rfl
theorem e_os1 {i : Int} : os1 (.int i) = some (some i) := rfl
/-! ### bounds and parity -/
theorem bool_xor_dec (a b : Nat) : decide ((a + b) % 2 = 1) = (decide (a % 2 = 1) != decide (b % 2 = 1)) := by
  rcases Nat.mod_two_eq_zero_or_one a with h | h <;> rcases Nat.mod_two_eq_zero_or_one b with h2 | h2 <;> simp [Nat.add_mod, h, h2]
/-- an odd number of them is at most n -/
def par (B : List Int) (n : Int) : Bool := decide (B.countP (fun b => decide (b ≤ n)) % 2 = 1)
theorem par_nil (n : Int) : par [] n = false := rfl
theorem par_app (A B : List Int) (n : Int) : par (A ++ B) n = (par A n != par B n) := by
  unfold par; rw [List.countP_append, bool_xor_dec]
theorem par_one (b n : Int) : par [b] n = decide (b ≤ n) := by
  unfold par
  by_cases h : b ≤ n <;> simp [h]
theorem par_perm {A B : List Int} (h : A.Perm B) (n : Int) : par A n = par B n := by unfold par; rw [h.countP_eq]
def flat (s : List PP) : List Int := s.flatMap fun p => [p.1, p.2]
theorem flat_cons (p : PP) (s : List PP) : flat (p :: s) = [p.1] ++ ([p.2] ++ flat s) := rfl
theorem mem_flat {x : Int} {s : List PP} : x ∈ flat s ↔ ∃ p ∈ s, x = p.1 ∨ x = p.2 := by
  unfold flat
  simp [List.mem_flatMap]
theorem par_none {B : List Int} {n : Int} (h : ∀ b ∈ B, n < b) : par B n = false := by
  unfold par
  have : B.countP (fun b => decide (b ≤ n)) = 0 := List.countP_eq_zero.mpr fun b hb => by
    have := h b hb
    simp; omega
  rw [this]; rfl
theorem NF.tail {p : PP} {s : List PP} (h : NF (p :: s)) : NF s ∧ p.1 < p.2 ∧ ∀ q ∈ s, p.2 < q.1 :=
  ⟨⟨(List.pairwise_cons.mp h.ord).2, fun q hq => h.ne q (List.mem_cons_of_mem _ hq)⟩, h.ne p (by simp), (List.pairwise_cons.mp h.ord).1⟩
theorem mem_cons {n : Int} {p : PP} {s : List PP} : Mem n (p :: s) ↔ (p.1 ≤ n ∧ n < p.2) ∨ Mem n s := by
  rw [show p :: s = [p] ++ s from rfl, mem_app, mem_one]
theorem par_flat : ∀ {s : List PP} (n : Int), NF s → (par (flat s) n = true ↔ Mem n s)
  | [], n, _ => ⟨fun h => (Bool.false_ne_true h).elim, fun h => (Mem.nil n h).elim⟩
  | p :: s, n, h => by
    obtain ⟨h1, h2, h3⟩ := h.tail
    rw [flat_cons, par_app, par_app, par_one, par_one, mem_cons, ← par_flat n h1]
    by_cases c : p.2 ≤ n
    · have c1 : p.1 ≤ n := by omega
      simp [c, c1, show ¬ n < p.2 by omega]
    · have far : par (flat s) n = false := par_none fun b hb => by
        obtain ⟨q, hq, e⟩ := mem_flat.mp hb
        have a1 := h3 q hq
        have a2 := h1.ne q hq
        rcases e with rfl | rfl <;> omega
      rw [far]
      by_cases c1 : p.1 ≤ n
      · simp [c, c1, show n < p.2 by omega]
      · simp [c, c1]
def pairUp : List Int → List PP
  | a :: b :: r => (a, b) :: pairUp r
  | _ => []
theorem flat_pairUp : ∀ {B : List Int}, B.length % 2 = 0 → flat (pairUp B) = B
  | [], _ => rfl
  | [_], h => by simp at h
  | a :: b :: r, h => by
    have : r.length % 2 = 0 := by simp only [List.length_cons] at h; omega
    rw [pairUp, flat_cons, flat_pairUp this]; rfl
theorem mem_pairUp : ∀ {B : List Int} {p : PP}, p ∈ pairUp B → p.1 ∈ B ∧ p.2 ∈ B
  | [], p, h => by cases h
  | [_], p, h => by cases h
  | a :: b :: r, p, h => by
    rcases List.mem_cons.mp h with rfl | h
    · simp
    · obtain ⟨x, y⟩ := mem_pairUp h
      simp [x, y]
theorem NF_pairUp : ∀ {B : List Int}, B.Pairwise (· < ·) → NF (pairUp B)
  | [], _ => ⟨.nil, by simp [pairUp]⟩
  | [_], _ => ⟨.nil, by simp [pairUp]⟩
  | a :: b :: r, h => by
    obtain ⟨h1, h2⟩ := List.pairwise_cons.mp h
    obtain ⟨h3, h4⟩ := List.pairwise_cons.mp h2
    have ih := NF_pairUp h4
    exact ⟨List.pairwise_cons.mpr ⟨fun q hq => h3 _ (mem_pairUp hq).1, ih.ord⟩, fun p hp => by
      rcases List.mem_cons.mp hp with rfl | hp
      · exact h1 b (by simp)
      · exact ih.ne p hp⟩
theorem pairUp_at : ∀ (B : List Int), (List.range (B.length / 2)).map (fun i => (B.getD (2 * i) 0, B.getD (2 * i + 1) 0)) = pairUp B
  | [] => rfl
  | [x] => by simp [pairUp]
  | a :: b :: r => by
    have e : (a :: b :: r).length / 2 = r.length / 2 + 1 := by simp only [List.length_cons]; omega
    rw [e, List.range_succ_eq_map, List.map_cons, List.map_map, pairUp, ← pairUp_at r]
    congr 1
/-! ### the walk over the bounds of two sets of spans -/
abbrev Fp := Int × Int
def hx (k : Int) (F : List Fp) (n : Int) : Bool := decide (F.countP (fun f => decide (f.2 = k) && decide (f.1 ≤ n)) % 2 = 1)
theorem hx_app (k : Int) (A B : List Fp) (n : Int) : hx k (A ++ B) n = (hx k A n != hx k B n) := by
  unfold hx; rw [List.countP_append, bool_xor_dec]
theorem hx_perm {k : Int} {A B : List Fp} (h : A.Perm B) (n : Int) : hx k A n = hx k B n := by unfold hx; rw [h.countP_eq]
theorem hx_one (k : Int) (f : Fp) (n : Int) : hx k [f] n = (decide (f.2 = k) && decide (f.1 ≤ n)) := by
  unfold hx
  by_cases h : f.2 = k <;> by_cases h2 : f.1 ≤ n <;> simp [h, h2]
theorem hx_same (k : Int) (B : List Int) (n : Int) : hx k (B.map fun b => (b, k)) n = par B n := by
  unfold hx par
  rw [List.countP_map]
  have : ((fun f : Fp => decide (f.2 = k) && decide (f.1 ≤ n)) ∘ fun b => (b, k)) = fun b => decide (b ≤ n) := by funext b; simp
  rw [this]
theorem hx_other {k j : Int} (h : j ≠ k) (B : List Int) (n : Int) : hx k (B.map fun b => (b, j)) n = false := by
  unfold hx
  rw [List.countP_map]
  have : B.countP ((fun f : Fp => decide (f.2 = k) && decide (f.1 ≤ n)) ∘ fun b => (b, j)) = 0 := List.countP_eq_zero.mpr fun b _ => by simp [h]
  rw [this]; rfl
/-- one flip: the new bounds -/
def flipB (w0 w1 : Bool) (B : List Int) (x : Int) : List Int := if w1 = w0 then B else if B.getLast? = some x then B.dropLast else B ++ [x]
/-- what holds once some flips are walked -/
structure Walked (W : Bool → Bool → Bool) (F : List Fp) (B : List Int) (h1 h2 : Bool) : Prop where
  asc : B.Pairwise (· < ·)
  low : ∀ b ∈ B, ∃ f ∈ F, b ≤ f.1
  pr : ∀ n, Pu.par B n = W (hx 1 F n) (hx 2 F n)
  all1 : ∀ n, (∀ f ∈ F, f.1 ≤ n) → hx 1 F n = h1
  all2 : ∀ n, (∀ f ∈ F, f.1 ≤ n) → hx 2 F n = h2
theorem Walked.start {W : Bool → Bool → Bool} (h : W false false = false) : Walked W [] [] false false :=
  ⟨.nil, by simp, fun n => h.symm, fun _ _ => rfl, fun _ _ => rfl⟩
theorem hx_big {k : Int} {F : List Fp} {n m : Int} (h1 : ∀ f ∈ F, f.1 ≤ n) (h2 : ∀ f ∈ F, f.1 ≤ m) : hx k F n = hx k F m := by
  unfold hx
  rw [List.countP_congr (q := fun f => decide (f.2 = k) && decide (f.1 ≤ m)) fun f hf => by simp [h1 f hf, h2 f hf]]
theorem Walked.step {W : Bool → Bool → Bool} {F : List Fp} {B : List Int} {h1 h2 : Bool} {x k : Int} (S : Walked W F B h1 h2) (hF : ∀ f ∈ F, f.1 ≤ x) :
    Walked W (F ++ [(x, k)]) (flipB (W h1 h2) (W (h1 != decide (k = 1)) (h2 != decide (k = 2))) B x) (h1 != decide (k = 1)) (h2 != decide (k = 2)) := by
  have e1 : ∀ n, x ≤ n → hx 1 F n = h1 := fun n hn => S.all1 n fun f hf => Int.le_trans (hF f hf) hn
  have e2 : ∀ n, x ≤ n → hx 2 F n = h2 := fun n hn => S.all2 n fun f hf => Int.le_trans (hF f hf) hn
  have nw : ∀ j n, hx j (F ++ [(x, k)]) n = (hx j F n != (decide (k = j) && decide (x ≤ n))) := fun j n => by rw [hx_app, hx_one]
  have le : ∀ b ∈ B, b ≤ x := fun b hb => by
    obtain ⟨f, hf, h⟩ := S.low b hb
    exact Int.le_trans h (hF f hf)
  have key : ∀ n, par (flipB (W h1 h2) (W (h1 != decide (k = 1)) (h2 != decide (k = 2))) B x) n = (par B n != (decide (W (h1 != decide (k = 1)) (h2 != decide (k = 2)) ≠ W h1 h2) && decide (x ≤ n))) := fun n => by
    unfold flipB
    by_cases c : W (h1 != decide (k = 1)) (h2 != decide (k = 2)) = W h1 h2
    · rw [if_pos c]; simp [c]
    · rw [if_neg c]
      by_cases d : B.getLast? = some x
      · rw [if_pos d]
        have eB : B = B.dropLast ++ [x] := by
          rcases List.eq_nil_or_concat B with rfl | ⟨o, l, rfl⟩
          · cases d
          · rw [List.concat_eq_append, List.getLast?_concat] at d
            cases d
            simp
        conv => rhs; rw [eB, par_app, par_one]
        simp [c]
      · rw [if_neg d, par_app, par_one]
        simp [c]
  refine ⟨?_, ?_, fun n => ?_, fun n hn => ?_, fun n hn => ?_⟩
  · unfold flipB
    split
    · exact S.asc
    · split
      · exact S.asc.sublist (List.dropLast_sublist _)
      · rename_i d
        refine List.pairwise_append.mpr ⟨S.asc, by simp, fun b hb y hy => ?_⟩
        rw [List.mem_singleton.mp hy]
        have hb2 := le b hb
        rcases Int.lt_or_eq_of_le hb2 with h | h
        · exact h
        · exfalso
          subst h
          apply d
          rcases List.eq_nil_or_concat B with rfl | ⟨o, l, rfl⟩
          · cases hb
          · rw [List.concat_eq_append, List.getLast?_concat]
            rw [List.concat_eq_append] at hb le
            rcases List.mem_append.mp hb with hb | hb
            · have a := S.asc
              rw [List.concat_eq_append] at a
              have z := (List.pairwise_append.mp a).2.2 _ hb l (by simp)
              have y := le l (by simp)
              omega
            · rw [List.mem_singleton.mp hb]
  · intro b hb
    have : b ∈ B ∨ b = x := by
      unfold flipB at hb
      split at hb
      · exact .inl hb
      · split at hb
        · exact .inl (List.dropLast_sublist B |>.subset hb)
        · rcases List.mem_append.mp hb with h | h
          · exact .inl h
          · exact .inr (List.mem_singleton.mp h)
    exact ⟨(x, k), by simp, this.elim (le b) fun h => h ▸ Int.le_refl _⟩
  · rw [key n, nw, nw, S.pr n]
    by_cases c : x ≤ n
    · rw [e1 n c, e2 n c]
      simp only [c, decide_true, Bool.and_true]
      cases hA : W h1 h2 <;> cases hB : W (h1 != decide (k = 1)) (h2 != decide (k = 2)) <;> simp
    · simp [c]
  · have hx := hn (x, k) (by simp)
    rw [nw, e1 n hx]
    simp [show x ≤ n from hx]
  · have hx := hn (x, k) (by simp)
    rw [nw, e2 n hx]
    simp [show x ≤ n from hx]
theorem par_even {B : List Int} {n : Int} (h : ∀ b ∈ B, b ≤ n) (e : par B n = false) : B.length % 2 = 0 := by
  unfold par at e
  have : B.countP (fun b => decide (b ≤ n)) = B.length := List.countP_eq_length.mpr fun b hb => by simpa using h b hb
  rw [this] at e
  simp at e
  omega
/-! ### spans from the bounds of two others -/
def memB (s : List PP) (n : Int) : Bool := s.any fun p => decide (p.1 ≤ n) && decide (n < p.2)
theorem memB_iff {s : List PP} {n : Int} : memB s n = true ↔ Mem n s := any_mem n s
theorem memB_congr {s : List PP} {a n : Int} (h : ∀ p ∈ s, (p.1 ≤ a ↔ p.1 ≤ n) ∧ (a < p.2 ↔ n < p.2)) : memB s a = memB s n := by
  rw [Bool.eq_iff_iff, memB_iff, memB_iff]
  constructor
  · rintro ⟨p, hp, h1, h2⟩
    exact ⟨p, hp, (h p hp).1.mp h1, (h p hp).2.mp h2⟩
  · rintro ⟨p, hp, h1, h2⟩
    exact ⟨p, hp, (h p hp).1.mpr h1, (h p hp).2.mpr h2⟩
theorem asc_gap {n : Int} : ∀ {B : List Int}, B.Pairwise (· < ·) → (∃ x ∈ B, x ≤ n) → (∃ y ∈ B, n < y) → ∃ k, k + 1 < B.length ∧ B.getD k 0 ≤ n ∧ n < B.getD (k + 1) 0
  | [], _, ⟨_, h, _⟩, _ => by cases h
  | [a], _, ⟨x, hx, h1⟩, ⟨y, hy, h2⟩ => by
    rw [List.mem_singleton.mp hx] at h1
    rw [List.mem_singleton.mp hy] at h2
    omega
  | a :: b :: r, h, ⟨x, hx, h1⟩, ⟨y, hy, h2⟩ => by
    obtain ⟨h3, h4⟩ := List.pairwise_cons.mp h
    by_cases c : b ≤ n
    · have hy' : y ∈ b :: r := by
        rcases List.mem_cons.mp hy with rfl | hy
        · have := h3 b (by simp); omega
        · exact hy
      obtain ⟨k, e1, e2, e3⟩ := asc_gap h4 ⟨b, by simp, c⟩ ⟨y, hy', h2⟩
      exact ⟨k + 1, by simp only [List.length_cons] at *; omega, e2, e3⟩
    · have hx' : x = a := by
        rcases List.mem_cons.mp hx with e | hx
        · exact e
        · rcases List.mem_cons.mp hx with e | hx
          · omega
          · have := (List.pairwise_cons.mp h4).1 x hx; omega
      subst hx'
      exact ⟨0, by simp, h1, by show n < b; omega⟩
theorem asc_split {B : List Int} (h : B.Pairwise (· < ·)) {k : Nat} (hk : k + 1 < B.length) {b : Int} (hb : b ∈ B) : b ≤ B.getD k 0 ∨ B.getD (k + 1) 0 ≤ b := by
  obtain ⟨j, hj, rfl⟩ := List.mem_iff_getElem.mp hb
  have w := List.pairwise_iff_getElem.mp h
  rw [List.getD_eq_getElem?_getD, List.getElem?_eq_getElem (by omega), List.getD_eq_getElem?_getD, List.getElem?_eq_getElem hk, Option.getD_some, Option.getD_some]
  rcases Nat.lt_trichotomy j k with c | c | c
  · exact .inl (Int.le_of_lt (w j k hj (by omega) c))
  · subst c; exact .inl (Int.le_refl _)
  · rcases Nat.lt_or_eq_of_le (show k + 1 ≤ j from c) with c | c
    · exact .inr (Int.le_of_lt (w (k + 1) j hk hj c))
    · subst c; exact .inr (Int.le_refl _)
def bnds (f s : List PP) : List Int := sortU ((f ++ s).map (·.1) ++ (f ++ s).map (·.2))
def dueP (W : Bool → Bool → Bool) (f s : List PP) : List PP :=
  ((List.range ((bnds f s).length - 1)).filter fun k => W (memB f ((bnds f s).getD k 0)) (memB s ((bnds f s).getD k 0))).map fun k => ((bnds f s).getD k 0, (bnds f s).getD (k + 1) 0)
theorem mem_bnds {f s : List PP} {x : Int} : x ∈ bnds f s ↔ ∃ p, (p ∈ f ∨ p ∈ s) ∧ (x = p.1 ∨ x = p.2) := by
  unfold bnds
  rw [mem_sortU, List.mem_append, List.mem_map, List.mem_map]
  constructor
  · rintro (⟨p, hp, rfl⟩ | ⟨p, hp, rfl⟩)
    · exact ⟨p, List.mem_append.mp hp, .inl rfl⟩
    · exact ⟨p, List.mem_append.mp hp, .inr rfl⟩
  · rintro ⟨p, hp, rfl | rfl⟩
    · exact .inl ⟨p, List.mem_append.mpr hp, rfl⟩
    · exact .inr ⟨p, List.mem_append.mpr hp, rfl⟩
theorem due_ok {W : Bool → Bool → Bool} (h0 : W false false = false) (f s : List PP) (n : Int) : Mem n (dueP W f s) ↔ W (memB f n) (memB s n) = true := by
  have asc : (bnds f s).Pairwise (· < ·) := sortU_sorted _
  have same : ∀ k, k + 1 < (bnds f s).length → (bnds f s).getD k 0 ≤ n → n < (bnds f s).getD (k + 1) 0 → memB f ((bnds f s).getD k 0) = memB f n ∧ memB s ((bnds f s).getD k 0) = memB s n := by
    intro k hk h1 h2
    have go : ∀ p, (p ∈ f ∨ p ∈ s) → (p.1 ≤ (bnds f s).getD k 0 ↔ p.1 ≤ n) ∧ ((bnds f s).getD k 0 < p.2 ↔ n < p.2) := fun p hp => by
      have a := asc_split asc hk (mem_bnds.mpr ⟨p, hp, .inl rfl⟩)
      have b := asc_split asc hk (mem_bnds.mpr ⟨p, hp, .inr rfl⟩)
      omega
    exact ⟨memB_congr fun p hp => go p (.inl hp), memB_congr fun p hp => go p (.inr hp)⟩
  constructor
  · rintro ⟨p, hp, h1, h2⟩
    obtain ⟨k, hk, rfl⟩ := List.mem_map.mp hp
    obtain ⟨hk1, hk2⟩ := List.mem_filter.mp hk
    have hk1 := List.mem_range.mp hk1
    obtain ⟨e1, e2⟩ := same k (by omega) h1 h2
    rw [e1, e2] at hk2
    exact hk2
  · intro h
    have : Mem n f ∨ Mem n s := by
      cases ef : memB f n with
      | true => exact .inl (memB_iff.mp ef)
      | false =>
        cases es : memB s n with
        | true => exact .inr (memB_iff.mp es)
        | false => rw [ef, es, h0] at h; cases h
    have pt : ∃ p, (p ∈ f ∨ p ∈ s) ∧ p.1 ≤ n ∧ n < p.2 := by
      rcases this with ⟨p, hp, q⟩ | ⟨p, hp, q⟩
      · exact ⟨p, .inl hp, q⟩
      · exact ⟨p, .inr hp, q⟩
    obtain ⟨p, hp, q1, q2⟩ := pt
    obtain ⟨k, hk, k1, k2⟩ := asc_gap asc ⟨p.1, mem_bnds.mpr ⟨p, hp, .inl rfl⟩, q1⟩ ⟨p.2, mem_bnds.mpr ⟨p, hp, .inr rfl⟩, q2⟩
    obtain ⟨e1, e2⟩ := same k hk k1 k2
    exact ⟨_, List.mem_map.mpr ⟨k, List.mem_filter.mpr ⟨List.mem_range.mpr (by omega), by rw [e1, e2]; exact h⟩, rfl⟩, k1, k2⟩
theorem cut_drop {α : Type} (xs : List α) (n : Nat) : cutL xs (some (n : Int)) none = xs.drop n := by
  unfold cutL
  rw [HT.sIx_nat, HT.sIx_none]
  by_cases h : n ≤ xs.length
  · rw [Nat.min_eq_left h, List.take_of_length_le (by rw [List.length_drop]; omega)]
  · rw [Nat.min_eq_right (by omega), List.drop_of_length_le (Nat.le_refl _), List.drop_of_length_le (by omega)]; simp
theorem cut_mid {α : Type} (xs : List α) (a b : Nat) : cutL xs (some (a : Int)) (some (b : Int)) = (xs.take b).drop a := by
  unfold cutL
  rw [HT.sIx_nat, HT.sIx_nat, List.drop_take]
  by_cases h : a ≤ xs.length
  · rw [Nat.min_eq_left h]
    by_cases h2 : b ≤ xs.length
    · rw [Nat.min_eq_left h2]
    · rw [Nat.min_eq_right (by omega), List.take_of_length_le (by rw [List.length_drop]; omega), List.take_of_length_le (by rw [List.length_drop]; omega)]
  · rw [show min a xs.length = xs.length by omega, List.drop_of_length_le (Nat.le_refl _), List.drop_of_length_le (show xs.length ≤ a by omega)]; simp
theorem e_sl_drop {ds : List D} {n : Nat} {r : Rs} (h : lstOf r = some ds) : dSl r (some (n : Int)) none = some (.new (ds.drop n)) := by
  unfold dSl; rw [h]; show some (Rs.new _) = _; rw [cut_drop]
theorem e_sl_mid {ds : List D} {a b : Nat} {r : Rs} (h : lstOf r = some ds) : dSl r (some (a : Int)) (some (b : Int)) = some (.new ((ds.take b).drop a)) := by
  unfold dSl; rw [h]; show some (Rs.new _) = _; rw [cut_mid]
theorem e_lcL_nil {f : D → Option (List D)} : lcL f [] = some [] := rfl
def lc3 (f : D → Option (List D)) (ds : List D) : List D → Option (List D) := fun xs => (lcL f ds).map (xs ++ ·)
theorem e_lcL_cons {f : D → Option (List D)} {d : D} {ds : List D} : lcL f (d :: ds) = (f d).bind (lc3 f ds) := rfl
theorem e_lc3 {f : D → Option (List D)} {ds xs : List D} : lc3 f ds xs = (lcL f ds).map (xs ++ ·) := rfl
def lf2 (g : En → Option D) (ρ : En) : Bool → Option (List D) := fun c => if c = true then (g ρ).map fun y => [y] else some []
def lf1 (t : En → Option Bool) (g : En → Option D) : En → Option (List D) := fun ρ => (t ρ).bind (lf2 g ρ)
theorem e_lcF {b : D → En → Option En} {t : En → Option Bool} {g : En → Option D} {ρ : En} {d : D} : lcF b t g ρ d = (b d ρ).bind (lf1 t g) := rfl
theorem e_lf1 {t : En → Option Bool} {g : En → Option D} {ρ : En} : lf1 t g ρ = (t ρ).bind (lf2 g ρ) := rfl
theorem e_lf2_t {g : En → Option D} {ρ : En} : lf2 g ρ true = (g ρ).map fun y => [y] := rfl
theorem e_lf2_f {g : En → Option D} {ρ : En} : lf2 g ρ false = some [] := rfl
def lg3 (b1 : D → En → Option En) (t1 : En → Option Bool) (g : En → Option D) (L1 : List Nat) (ρ : En) : List D → Option (List D) := fun es => lcL (lcF b1 t1 g (wipeE ρ L1)) es
def lg2 (gi1 : En → Option (List D)) (b1 : D → En → Option En) (t1 : En → Option Bool) (g : En → Option D) (L1 : List Nat) (ρ : En) : Bool → Option (List D) := fun c => if c = true then (gi1 ρ).bind (lg3 b1 t1 g L1 ρ) else some []
def lg1 (t : En → Option Bool) (gi1 : En → Option (List D)) (b1 : D → En → Option En) (t1 : En → Option Bool) (g : En → Option D) (L1 : List Nat) : En → Option (List D) := fun ρ => (t ρ).bind (lg2 gi1 b1 t1 g L1 ρ)
theorem e_lcF2 {b b1 : D → En → Option En} {t t1 : En → Option Bool} {gi1 : En → Option (List D)} {g : En → Option D} {L1 : List Nat} {ρ : En} {d : D} : lcF2 b t gi1 b1 t1 g L1 ρ d = (b d ρ).bind (lg1 t gi1 b1 t1 g L1) := rfl
theorem e_lg1 {b1 : D → En → Option En} {t t1 : En → Option Bool} {gi1 : En → Option (List D)} {g : En → Option D} {L1 : List Nat} {ρ : En} : lg1 t gi1 b1 t1 g L1 ρ = (t ρ).bind (lg2 gi1 b1 t1 g L1 ρ) := rfl
theorem e_lg2_t {b1 : D → En → Option En} {t1 : En → Option Bool} {gi1 : En → Option (List D)} {g : En → Option D} {L1 : List Nat} {ρ : En} : lg2 gi1 b1 t1 g L1 ρ true = (gi1 ρ).bind (lg3 b1 t1 g L1 ρ) := rfl
theorem e_lg2_f {b1 : D → En → Option En} {t1 : En → Option Bool} {gi1 : En → Option (List D)} {g : En → Option D} {L1 : List Nat} {ρ : En} : lg2 gi1 b1 t1 g L1 ρ false = some [] := rfl
theorem e_lg3 {b1 : D → En → Option En} {t1 : En → Option Bool} {g : En → Option D} {L1 : List Nat} {ρ : En} {es : List D} : lg3 b1 t1 g L1 ρ es = lcL (lcF b1 t1 g (wipeE ρ L1)) es := rfl
def lc2r (b : D → En → Option En) (t : En → Option Bool) (gi1 : En → Option (List D)) (b1 : D → En → Option En) (t1 : En → Option Bool) (g : En → Option D) (L L1 : List Nat) (ρ : En) : List D → Option Rs := fun ds => (lcL (lcF2 b t gi1 b1 t1 g L1 (wipeE ρ L)) ds).bind lcO
theorem e_gLc2 {gi : En → Option (List D)} {b b1 : D → En → Option En} {t t1 : En → Option Bool} {gi1 : En → Option (List D)} {g : En → Option D} {L L1 : List Nat} {ρ : En} : gLc2 gi b t gi1 b1 t1 g L L1 ρ = (gi ρ).bind (lc2r b t gi1 b1 t1 g L L1 ρ) := rfl
theorem lc2_of {α : Type} {enc : α → D} {b b1 : D → En → Option En} {t t1 : En → Option Bool} {gi1 : En → Option (List D)} {g : En → Option D} {L L1 : List Nat} {ρ : En} {xs : List α} {C : Option Rs} (hC : lc2r b t gi1 b1 t1 g L L1 ρ (xs.map enc) = C) (k : α → List D) (hl : (xs.flatMap k).length < 100000) (h : ∀ x ∈ xs, lcF2 b t gi1 b1 t1 g L1 (wipeE ρ L) (enc x) = some (k x)) :
    C = some (.new (xs.flatMap k)) := by
  subst hC
  unfold lc2r
  rw [lcL_map h, Option.bind_some, e_lcO hl]
def p1 (i : Nat) (ρ : En) : List D → Option Out := fun ds => if ds = [] then none else some (.nx (ρ.set i (.own ds.dropLast)))
theorem e_po1 {i : Nat} {ρ : En} {xs : List D} {x : D} : po1 i ρ (xs ++ [x]) = some (.nx (ρ.set i (.own xs))) := by
  unfold po1
  rw [if_neg (by simp)]
  simp
theorem e_sum_map {α : Type} {f : α → Int} {xs : List α} : dSum (.new (xs.map fun x => PyData.int (f x))) = some (.val (.int (xs.map f).sum)) := by
  unfold dSum
  have : xs.map (fun x => PyData.int (f x)) = (xs.map f).map PyData.int := by rw [List.map_map]; rfl
  show (allOf asInt _).map _ = _
  rw [this, allOf_ints]; rfl
theorem e_sortSet {r : Rs} {ns : List Int} (h : lstOf r = some (ns.map .int)) (hl : ns.length < 4000) : dSortSet r = some (.new ((sortU ns).map .int)) := by
  unfold dSortSet
  rw [h, Option.bind_some, allOf_ints, Option.bind_some, if_pos hl]
theorem e_ra1_sub {n : Nat} (h : n < 100000) : ra1 [.int ((n : Int) - 1)] = some ((List.range (n - 1)).map fun i : Nat => .int (i : Int)) := by
  rw [e_ra1, if_pos (by omega)]
  unfold rangeD
  rw [show ((n : Int) - 1).toNat = n - 1 by omega]
  congr 2
  funext i
  congr 1
  omega
def ra3 : List D → Option (List D) := fun ds => match ds with
  | [.int a, .int b, .int c] => if c ≠ 0 ∧ c.natAbs < 1073741824 ∧ Builtin.Range.small a b c = true ∧ 0 ≤ Builtin.Range.rangeSize a b c then some (rangeD a (Builtin.Range.rangeSize a b c).toNat c) else none
  | _ => none
theorem e_gRange3 {gs : En → Option (List D)} {ρ : En} : gRange3 gs ρ = (gs ρ).bind ra3 := rfl
theorem e_catL {xs ys : List D} (h : xs.length + ys.length < 100000) : dAdd (.list xs) (.list ys) = some (.list (xs ++ ys)) := by
  unfold dAdd
  exact if_pos (Nat.le_of_lt (small_lt h))
theorem x_ra3 {a b c : Int} : ra3 [.int a, .int b, .int c] = if c ≠ 0 ∧ c.natAbs < 1073741824 ∧ Builtin.Range.small a b c = true ∧ 0 ≤ Builtin.Range.rangeSize a b c then some (rangeD a (Builtin.Range.rangeSize a b c).toNat c) else none := rfl
theorem rfits {x : Int} (h1 : -1000000 ≤ x) (h2 : x ≤ 1000000) : Builtin.Range.rangeFitsLong x = true := by
  unfold Builtin.Range.rangeFitsLong
  simp only [Bool.and_eq_true, decide_eq_true_eq]
  omega
theorem rsize2 (n : Nat) : Builtin.Range.rangeSize 0 (n : Int) 2 = (((n + 1) / 2 : Nat) : Int) := by
  unfold Builtin.Range.rangeSize
  rw [if_pos (by decide)]
  split <;> omega
theorem rsmall2 {n : Nat} (h : n < 100000) : Builtin.Range.small 0 (n : Int) 2 = true := by
  unfold Builtin.Range.small
  rw [rsize2, rfits (by omega) (by omega), rfits (by omega) (by omega), rfits (by omega) (by omega), rfits (by omega) (by omega), if_pos (by decide), rfits (by omega) (by omega), Bool.or_true]
  rfl
theorem e_ra3_2 {n : Nat} (h : n < 100000) : ra3 [.int 0, .int (n : Int), .int 2] = some ((List.range ((n + 1) / 2)).map fun i : Nat => .int ((i : Int) * 2)) := by
  have hs := rsize2 n
  have hm := rsmall2 h
  have hc : (2 : Int) ≠ 0 ∧ (2 : Int).natAbs < 1073741824 ∧ Builtin.Range.small 0 (n : Int) 2 = true ∧ 0 ≤ Builtin.Range.rangeSize 0 (n : Int) 2 := ⟨by omega, by omega, hm, by rw [hs]; omega⟩
  rw [x_ra3, if_pos hc, hs, Int.toNat_natCast]
  unfold rangeD
  exact congrArg some (List.map_congr_left fun i _ => congrArg PyData.int (by omega))
def wh2 (c : En → Option Bool) (R : En → Option Out) (n : Nat) : Out → Option Out := fun o => match o with
    | .nx ρ2 => whileL c R n ρ2
    | .ct ρ2 => whileL c R n ρ2
    | .bk ρ2 => some (.nx ρ2)
    | .rt d => some (.rt d)
def wh1 (c : En → Option Bool) (R : En → Option Out) (n : Nat) (ρ : En) : Bool → Option Out := fun b => if b = true then (R ρ).bind (wh2 c R n) else some (.nx ρ)
theorem e_whileL {c : En → Option Bool} {R : En → Option Out} {n : Nat} {ρ : En} : whileL c R (n + 1) ρ = (c ρ).bind (wh1 c R n ρ) := rfl
theorem e_wh1_t {c : En → Option Bool} {R : En → Option Out} {n : Nat} {ρ : En} : wh1 c R n ρ true = (R ρ).bind (wh2 c R n) := rfl
theorem e_wh1_f {c : En → Option Bool} {R : En → Option Out} {n : Nat} {ρ : En} : wh1 c R n ρ false = some (.nx ρ) := rfl
theorem e_wh2_nx {c : En → Option Bool} {R : En → Option Out} {n : Nat} {ρ : En} : wh2 c R n (.nx ρ) = whileL c R n ρ := rfl
theorem e_wh2_ct {c : En → Option Bool} {R : En → Option Out} {n : Nat} {ρ : En} : wh2 c R n (.ct ρ) = whileL c R n ρ := rfl
theorem e_wh2_bk {c : En → Option Bool} {R : En → Option Out} {n : Nat} {ρ : En} : wh2 c R n (.bk ρ) = some (.nx ρ) := rfl
theorem e_wh2_rt {c : En → Option Bool} {R : En → Option Out} {n : Nat} {d : D} : wh2 c R n (.rt d) = some (.rt d) := rfl
theorem e_rWhile {c : En → Option Bool} {R : En → Option Out} {fuel : En → Nat} {ρ : En} : rWhile fuel c R ρ = whileL c R (fuel ρ) ρ := rfl
theorem exists_ge : ∀ (l : List Int), ∃ n, ∀ x ∈ l, x ≤ n
  | [] => ⟨0, by simp⟩
  | a :: l => by
    obtain ⟨n, h⟩ := exists_ge l
    refine ⟨max a n, fun x hx => ?_⟩
    rcases List.mem_cons.mp hx with rfl | hx
    · omega
    · have := h x hx; omega
theorem par_full {B : List Int} {n : Int} (h : ∀ b ∈ B, b ≤ n) (e : B.length % 2 = 0) : par B n = false := by
  unfold par
  have : B.countP (fun b => decide (b ≤ n)) = B.length := List.countP_eq_length.mpr fun b hb => by simpa using h b hb
  rw [this]
  simp [e]
theorem getD0_at {B : List Int} {k : Nat} (h : k < B.length) : B.getD k 0 = B[k] := by
  rw [List.getD_eq_getElem?_getD, List.getElem?_eq_getElem h]; rfl
theorem NF.ends {s : List PP} (h : NF s) : (s.map (·.2)).Pairwise (· ≤ ·) := by
  rw [List.pairwise_map]
  exact h.ord.imp_of_mem fun hp hq h1 => by
    have := h.ne _ hq
    omega
theorem e_ra1_3 : ra1 [.int 3] = some [.int 0, .int 1, .int 2] := (e_ra1_nat (n := 3) (by omega)).trans rfl
theorem shp_spans (f : List PP) : Shp 3 (.list (f.map pairD)) := .map Shp.pair f
theorem eqv_spans (f g : List PP) : PyData.eqv (.list (f.map pairD)) (.list (g.map pairD)) = decide (f = g) := by rw [PyData.eqv, eqv_all eqv_pair]
theorem dEq_two (f s : List PP) : dEq (.list [.list (f.map pairD), .list (s.map pairD)]) (.list [.list (f.map pairD), .list (s.map pairD)]) = some (.bool true) := by
  have h : Shp 4 (.list [.list (f.map pairD), .list (s.map pairD)]) := Shp.list fun d hd => by
    rcases List.mem_cons.mp hd with rfl | hd
    · exact shp_spans f
    · rcases List.mem_cons.mp hd with rfl | hd
      · exact shp_spans s
      · cases hd
  rw [dEq_of h h (by omega) (by omega), PyData.eqv, PyData.eqvAll, PyData.eqvAll, PyData.eqvAll, eqv_spans, eqv_spans]
  simp
/-! ### sorted set comprehensions, zip, defs as values -/
def sc2r (b : D → En → Option En) (t : En → Option Bool) (gi1 : En → Option (List D)) (b1 : D → En → Option En) (t1 : En → Option Bool) (g : En → Option D) (L L1 : List Nat) (ρ : En) : List D → Option Rs :=
  fun ds => (lcL (lcF2 b t gi1 b1 t1 g L1 (wipeE ρ L)) ds).bind fun out => (allOf asInt out).bind fun ns => if ns.length < 4000 then some (.new ((sortU ns).map .int)) else none
theorem e_gSc2 {gi : En → Option (List D)} {b b1 : D → En → Option En} {t t1 : En → Option Bool} {gi1 : En → Option (List D)} {g : En → Option D} {L L1 : List Nat} {ρ : En} : gSc2 gi b t gi1 b1 t1 g L L1 ρ = (gi ρ).bind (sc2r b t gi1 b1 t1 g L L1 ρ) := rfl
theorem sc2_of {α : Type} {enc : α → D} {b b1 : D → En → Option En} {t t1 : En → Option Bool} {gi1 : En → Option (List D)} {g : En → Option D} {L L1 : List Nat} {ρ : En} {xs : List α} {C : Option Rs} (hC : sc2r b t gi1 b1 t1 g L L1 ρ (xs.map enc) = C) (k : α → List Int) (hl : (xs.flatMap k).length < 4000) (h : ∀ x ∈ xs, lcF2 b t gi1 b1 t1 g L1 (wipeE ρ L) (enc x) = some ((k x).map .int)) :
    C = some (.new ((sortU (xs.flatMap k)).map .int)) := by
  subst hC
  unfold sc2r
  rw [lcL_map h, Option.bind_some, show xs.flatMap (fun x => (k x).map PyData.int) = (xs.flatMap k).map PyData.int from List.map_flatMap.symm, allOf_ints, Option.bind_some, if_pos hl]
def zi1 : List D → Option (List D) := fun ds => match ds with
  | [.list xs, .list ys] => some (zipD xs ys)
  | _ => none
theorem e_gZip {gs : En → Option (List D)} {ρ : En} : gZip gs ρ = (gs ρ).bind zi1 := rfl
theorem e_zi1 {xs ys : List D} : zi1 [.list xs, .list ys] = some (zipD xs ys) := rfl
theorem zipD_next : ∀ (ks : List Int), zipD (ks.map .int) ((ks.drop 1).map .int) = (List.range (ks.length - 1)).map fun i => pairD (ks.getD i 0, ks.getD (i + 1) 0)
  | [] => rfl
  | [a] => rfl
  | a :: b :: r => by
    have ih := zipD_next (b :: r)
    show PyData.tuple [.int a, .int b] :: zipD ((b :: r).map .int) (((b :: r).drop 1).map .int) = _
    rw [ih, show (a :: b :: r).length - 1 = r.length + 1 by simp, List.range_succ_eq_map, List.map_cons, List.map_map]
    rfl
def cv3 (gs : En → Option (List D)) (ρ : En) : Nat × (List D → Option D) → Option D := fun p => gCall p.1 p.2 gs ρ
def cv2 (F : FnS) (gs : En → Option (List D)) (ρ : En) : Nat → Option D := fun k => (F k).bind (cv3 gs ρ)
def cv1 (F : FnS) (gs : En → Option (List D)) (ρ : En) : D → Option D := fun d => (asFn d).bind (cv2 F gs ρ)
theorem e_gCallV {i : Nat} {F : FnS} {gs : En → Option (List D)} {ρ : En} : gCallV i F gs ρ = (vVar i ρ).bind (cv1 F gs ρ) := rfl
theorem e_cv1 {F : FnS} {gs : En → Option (List D)} {ρ : En} {k : Nat} : cv1 F gs ρ (fnD k) = cv2 F gs ρ k := by
  show (asFn (fnD k)).bind _ = _
  have : asFn (fnD k) = some k := by
    unfold fnD asFn
    simp
  rw [this]; rfl
theorem e_cv2 {F : FnS} {gs : En → Option (List D)} {ρ : En} {k : Nat} : cv2 F gs ρ k = (F k).bind (cv3 gs ρ) := rfl
theorem e_cv3 {gs : En → Option (List D)} {ρ : En} {n : Nat} {φ : List D → Option D} : cv3 gs ρ (n, φ) = gCall n φ gs ρ := rfl
theorem e_ls7 {x1 x2 x3 x4 x5 x6 x7 : D} : ls1 [x1, x2, x3, x4, x5, x6, x7] = some (.new [x1, x2, x3, x4, x5, x6, x7]) := if_pos (small_line (by decide : 7 ≤ 1000))
theorem e_ls8 {x1 x2 x3 x4 x5 x6 x7 x8 : D} : ls1 [x1, x2, x3, x4, x5, x6, x7, x8] = some (.new [x1, x2, x3, x4, x5, x6, x7, x8]) := if_pos (small_line (by decide : 8 ≤ 1000))
theorem e_ls9 {x1 x2 x3 x4 x5 x6 x7 x8 x9 : D} : ls1 [x1, x2, x3, x4, x5, x6, x7, x8, x9] = some (.new [x1, x2, x3, x4, x5, x6, x7, x8, x9]) := if_pos (small_line (by decide : 9 ≤ 1000))
theorem e_ls10 {x1 x2 x3 x4 x5 x6 x7 x8 x9 x10 : D} : ls1 [x1, x2, x3, x4, x5, x6, x7, x8, x9, x10] = some (.new [x1, x2, x3, x4, x5, x6, x7, x8, x9, x10]) := if_pos (small_line (by decide : 10 ≤ 1000))
theorem e_ls11 {x1 x2 x3 x4 x5 x6 x7 x8 x9 x10 x11 : D} : ls1 [x1, x2, x3, x4, x5, x6, x7, x8, x9, x10, x11] = some (.new [x1, x2, x3, x4, x5, x6, x7, x8, x9, x10, x11]) := if_pos (small_line (by decide : 11 ≤ 1000))
theorem e_ls12 {x1 x2 x3 x4 x5 x6 x7 x8 x9 x10 x11 x12 : D} : ls1 [x1, x2, x3, x4, x5, x6, x7, x8, x9, x10, x11, x12] = some (.new [x1, x2, x3, x4, x5, x6, x7, x8, x9, x10, x11, x12]) := if_pos (small_line (by decide : 12 ≤ 1000))
theorem e_tu5 {x1 x2 x3 x4 x5 : D} : tu1 [x1, x2, x3, x4, x5] = some (.tuple [x1, x2, x3, x4, x5]) := if_pos (small_line (by decide : 5 ≤ 1000))
theorem e_tu6 {x1 x2 x3 x4 x5 x6 : D} : tu1 [x1, x2, x3, x4, x5, x6] = some (.tuple [x1, x2, x3, x4, x5, x6]) := if_pos (small_line (by decide : 6 ≤ 1000))
theorem e_tu7 {x1 x2 x3 x4 x5 x6 x7 : D} : tu1 [x1, x2, x3, x4, x5, x6, x7] = some (.tuple [x1, x2, x3, x4, x5, x6, x7]) := if_pos (small_line (by decide : 7 ≤ 1000))
theorem e_tu8 {x1 x2 x3 x4 x5 x6 x7 x8 : D} : tu1 [x1, x2, x3, x4, x5, x6, x7, x8] = some (.tuple [x1, x2, x3, x4, x5, x6, x7, x8]) := if_pos (small_line (by decide : 8 ≤ 1000))
theorem e_tu9 {x1 x2 x3 x4 x5 x6 x7 x8 x9 : D} : tu1 [x1, x2, x3, x4, x5, x6, x7, x8, x9] = some (.tuple [x1, x2, x3, x4, x5, x6, x7, x8, x9]) := if_pos (small_line (by decide : 9 ≤ 1000))
theorem e_cl5 {φ : List D → Option D} {x1 x2 x3 x4 x5 : D} : cl1 5 φ [x1, x2, x3, x4, x5] = φ [x1, x2, x3, x4, x5] := rfl
theorem e_cl6 {φ : List D → Option D} {x1 x2 x3 x4 x5 x6 : D} : cl1 6 φ [x1, x2, x3, x4, x5, x6] = φ [x1, x2, x3, x4, x5, x6] := rfl
theorem e_cl7 {φ : List D → Option D} {x1 x2 x3 x4 x5 x6 x7 : D} : cl1 7 φ [x1, x2, x3, x4, x5, x6, x7] = φ [x1, x2, x3, x4, x5, x6, x7] := rfl
theorem e_cl8 {φ : List D → Option D} {x1 x2 x3 x4 x5 x6 x7 x8 : D} : cl1 8 φ [x1, x2, x3, x4, x5, x6, x7, x8] = φ [x1, x2, x3, x4, x5, x6, x7, x8] := rfl
theorem e_cl9 {φ : List D → Option D} {x1 x2 x3 x4 x5 x6 x7 x8 x9 : D} : cl1 9 φ [x1, x2, x3, x4, x5, x6, x7, x8, x9] = φ [x1, x2, x3, x4, x5, x6, x7, x8, x9] := rfl
end Pu

namespace Pu
open PySem PySem.Spec PyProof.Rows L2
variable [FnTab]
/-! ### regions: strips, ascending, none empty, neighbours joined -/
abbrev Strip := Int × Int × List PP
def stripD (s : Strip) : D := .tuple [.int s.1, .int s.2.1, .list (s.2.2.map pairD)]
structure NFR (R : List Strip) : Prop where
  ord : R.Pairwise fun s t => s.2.1 ≤ t.1
  each : ∀ s ∈ R, s.1 < s.2.1 ∧ s.2.2 ≠ [] ∧ NF s.2.2
  apart : ∀ l1 a b l2, R = l1 ++ a :: b :: l2 → a.2.1 = b.1 → a.2.2 ≠ b.2.2
def atR (k : Int) : List Strip → List PP
  | [] => []
  | s :: r => if s.1 ≤ k ∧ k < s.2.1 then s.2.2 else atR k r
theorem NFR.nil : NFR [] := ⟨.nil, by simp, fun l1 a b l2 e => by simp at e⟩
theorem NFR.tail {s : Strip} {r : List Strip} (h : NFR (s :: r)) : NFR r :=
  ⟨(List.pairwise_cons.mp h.ord).2, fun t ht => h.each t (List.mem_cons_of_mem _ ht), fun l1 a b l2 e => h.apart (s :: l1) a b l2 (by rw [e]; rfl)⟩
theorem NFR.after {s : Strip} {r : List Strip} (h : NFR (s :: r)) : ∀ t ∈ r, s.2.1 ≤ t.1 := (List.pairwise_cons.mp h.ord).1
theorem atR_before {k : Int} : ∀ {R : List Strip}, (∀ t ∈ R, k < t.1) → atR k R = []
  | [], _ => rfl
  | s :: r, h => by
    have := h s (by simp)
    unfold atR
    rw [if_neg (by omega), atR_before fun t ht => h t (List.mem_cons_of_mem _ ht)]
theorem atR_mem {k : Int} : ∀ {R : List Strip}, atR k R ≠ [] → ∃ s ∈ R, s.1 ≤ k ∧ k < s.2.1 ∧ atR k R = s.2.2
  | [], h => (h rfl).elim
  | s :: r, h => by
    unfold atR at h ⊢
    by_cases c : s.1 ≤ k ∧ k < s.2.1
    · rw [if_pos c]; exact ⟨s, by simp, c.1, c.2, rfl⟩
    · rw [if_neg c] at h ⊢
      obtain ⟨t, ht, q⟩ := atR_mem h
      exact ⟨t, List.mem_cons_of_mem _ ht, q⟩
theorem atR_of {k : Int} : ∀ {R : List Strip}, R.Pairwise (fun s t => s.2.1 ≤ t.1) → ∀ {s : Strip}, s ∈ R → s.1 ≤ k → k < s.2.1 → atR k R = s.2.2
  | [], _, _, h, _, _ => by cases h
  | t :: r, o, s, h, h1, h2 => by
    obtain ⟨o1, o2⟩ := List.pairwise_cons.mp o
    unfold atR
    rcases List.mem_cons.mp h with rfl | h
    · rw [if_pos ⟨h1, h2⟩]
    · have := o1 s h
      rw [if_neg (by omega)]
      exact atR_of o2 h h1 h2
theorem NFR.uniq : ∀ {R Q : List Strip}, NFR R → NFR Q → (∀ k, atR k R = atR k Q) → R = Q
  | [], [], _, _, _ => rfl
  | [], t :: q, _, hq, h => by
    have e := hq.each t (by simp)
    have := h t.1
    unfold atR at this
    rw [if_pos ⟨Int.le_refl _, e.1⟩] at this
    exact (e.2.1 this.symm).elim
  | s :: r, [], hr, _, h => by
    have e := hr.each s (by simp)
    have := h s.1
    unfold atR at this
    rw [if_pos ⟨Int.le_refl _, e.1⟩] at this
    exact (e.2.1 this).elim
  | s :: r, t :: q, hr, hq, h => by
    have es := hr.each s (by simp)
    have et := hq.each t (by simp)
    have as := hr.after
    have at_ := hq.after
    have fs : atR s.1 (s :: r) = s.2.2 := by unfold atR; rw [if_pos ⟨Int.le_refl _, es.1⟩]
    have ft : atR t.1 (t :: q) = t.2.2 := by unfold atR; rw [if_pos ⟨Int.le_refl _, et.1⟩]
    have e1 : s.1 = t.1 := by
      rcases Int.lt_trichotomy s.1 t.1 with c | c | c
      · have z : atR s.1 (t :: q) = [] := atR_before fun u hu => by
          rcases List.mem_cons.mp hu with rfl | hu
          · exact c
          · have := at_ u hu; omega
        rw [← h, fs] at z
        exact (es.2.1 z).elim
      · exact c
      · have z : atR t.1 (s :: r) = [] := atR_before fun u hu => by
          rcases List.mem_cons.mp hu with rfl | hu
          · exact c
          · have := as u hu; omega
        rw [h, ft] at z
        exact (et.2.1 z).elim
    have e2 : s.2.2 = t.2.2 := by rw [← fs, h, e1, ft]
    have side : ∀ (s t : Strip) (r q : List Strip), NFR (s :: r) → NFR (t :: q) → (∀ k, atR k (s :: r) = atR k (t :: q)) → s.1 = t.1 → s.2.2 = t.2.2 → ¬ s.2.1 < t.2.1 := by
      intro s t r q hr hq h e1 e2 c
      have es := hr.each s (by simp)
      have et := hq.each t (by simp)
      have z : atR s.2.1 (t :: q) = t.2.2 := by unfold atR; rw [if_pos ⟨by omega, c⟩]
      rw [← h] at z
      have z2 : atR s.2.1 r = t.2.2 := by
        unfold atR at z
        rwa [if_neg (by omega)] at z
      obtain ⟨u, hu, u1, u2, u3⟩ := atR_mem (R := r) (k := s.2.1) (by rw [z2]; exact et.2.1)
      have u4 := hr.after u hu
      have u5 : u.1 = s.2.1 := by omega
      cases r with
      | nil => cases hu
      | cons v r =>
        have hv : u = v := by
          rcases List.mem_cons.mp hu with e | hu
          · exact e
          · have a := hr.tail.after u hu
            have b := hr.after v (by simp)
            have c := (hr.each v (by simp)).1
            omega
        subst hv
        exact hr.apart [] s u r rfl u5.symm (by rw [e2, ← z2, u3])
    have e3 : s.2.1 = t.2.1 := by
      have a := side s t r q hr hq h e1 e2
      have b := side t s q r hq hr (fun k => (h k).symm) e1.symm e2.symm
      omega
    have e : s = t := Prod.ext e1 (Prod.ext e3 e2)
    subst e
    rw [NFR.uniq hr.tail hq.tail fun k => ?_]
    by_cases c : k < s.2.1
    · rw [atR_before fun t ht => by have := as t ht; omega, atR_before fun t ht => by have := at_ t ht; omega]
    · have := h k
      unfold atR at this
      rwa [if_neg (by omega), if_neg (by omega)] at this
/-- one strip more -/
def joinR (R : List Strip) (p : Strip) : List Strip :=
  if p.2.2 = [] then R else match R.getLast? with
    | .none => R ++ [p]
    | some l => if l.2.1 = p.1 ∧ l.2.2 = p.2.2 then R.dropLast ++ [(l.1, p.2.1, p.2.2)] else R ++ [p]
theorem joinR_empty {R : List Strip} {p : Strip} (h : p.2.2 = []) : joinR R p = R := if_pos h
theorem joinR_first {p : Strip} (h : p.2.2 ≠ []) : joinR [] p = [p] := if_neg h
theorem joinR_in {o : List Strip} {l p : Strip} (h : p.2.2 ≠ []) (h1 : l.2.1 = p.1) (h2 : l.2.2 = p.2.2) : joinR (o ++ [l]) p = o ++ [(l.1, p.2.1, p.2.2)] := by
  unfold joinR
  rw [if_neg h, List.getLast?_concat]
  simp [h1, h2]
theorem joinR_on {o : List Strip} {l p : Strip} (h : p.2.2 ≠ []) (h1 : ¬ (l.2.1 = p.1 ∧ l.2.2 = p.2.2)) : joinR (o ++ [l]) p = o ++ [l] ++ [p] := by
  unfold joinR
  rw [if_neg h, List.getLast?_concat]
  simp only [if_neg h1]
theorem atR_app {k : Int} : ∀ {A B : List Strip}, atR k (A ++ B) = if (∃ s ∈ A, s.1 ≤ k ∧ k < s.2.1) then atR k A else atR k B
  | [], B => by simp
  | s :: A, B => by
    show (if s.1 ≤ k ∧ k < s.2.1 then s.2.2 else atR k (A ++ B)) = if _ then (if s.1 ≤ k ∧ k < s.2.1 then s.2.2 else atR k A) else _
    by_cases c : s.1 ≤ k ∧ k < s.2.1
    · rw [if_pos c, if_pos ⟨s, by simp, c⟩, if_pos c]
    · rw [if_neg c, if_neg c, atR_app]
      have : (∃ t ∈ s :: A, t.1 ≤ k ∧ k < t.2.1) ↔ ∃ t ∈ A, t.1 ≤ k ∧ k < t.2.1 := by
        constructor
        · rintro ⟨t, ht, q⟩
          rcases List.mem_cons.mp ht with rfl | ht
          · exact (c q).elim
          · exact ⟨t, ht, q⟩
        · rintro ⟨t, ht, q⟩
          exact ⟨t, List.mem_cons_of_mem _ ht, q⟩
      simp only [this]
theorem split_snoc {α : Type} {o l1 l2 : List α} {x a b : α} (e : o ++ [x] = l1 ++ a :: b :: l2) : (∃ l3, o = l1 ++ a :: b :: l3) ∨ (o = l1 ++ [a] ∧ b = x) := by
  rcases List.eq_nil_or_concat l2 with rfl | ⟨l3, y, rfl⟩
  · right
    have : l1 ++ [a, b] = (l1 ++ [a]) ++ [b] := by simp
    rw [this] at e
    have := List.append_inj' e rfl
    exact ⟨this.1, (List.cons.inj this.2).1.symm⟩
  · left
    rw [List.concat_eq_append] at e
    have : l1 ++ a :: b :: (l3 ++ [y]) = (l1 ++ a :: b :: l3) ++ [y] := by simp
    rw [this] at e
    exact ⟨l3, (List.append_inj' e rfl).1⟩
theorem joinR_ok {R : List Strip} {p : Strip} (h : NFR R) (hp : p.1 < p.2.1) (hn : NF p.2.2) (hl : ∀ s ∈ R, s.2.1 ≤ p.1) :
    NFR (joinR R p) ∧ (∀ k, atR k (joinR R p) = if p.1 ≤ k ∧ k < p.2.1 then p.2.2 else atR k R) ∧ ∀ s ∈ joinR R p, s.2.1 ≤ p.2.1 := by
  by_cases z : p.2.2 = []
  · rw [joinR_empty z]
    refine ⟨h, fun k => ?_, fun s hs => by have := hl s hs; omega⟩
    by_cases c : p.1 ≤ k ∧ k < p.2.1
    · rw [if_pos c, z]
      by_cases d : atR k R = []
      · exact d
      · obtain ⟨s, hs, s1, s2, _⟩ := atR_mem d
        have := hl s hs
        omega
    · rw [if_neg c]
  rcases List.eq_nil_or_concat R with rfl | ⟨o, l, rfl⟩
  · rw [joinR_first z]
    refine ⟨⟨by simp, fun s hs => ?_, fun l1 a b l2 e => ?_⟩, fun k => rfl, fun s hs => ?_⟩
    · rw [List.mem_singleton.mp hs]; exact ⟨hp, z, hn⟩
    · have := congrArg List.length e
      simp at this
      omega
    · rw [List.mem_singleton.mp hs]; exact Int.le_refl _
  · rw [List.concat_eq_append] at *
    have ol := (List.pairwise_append.mp h.ord).2.2
    have el := h.each l (by simp)
    have hll := hl l (by simp)
    by_cases c : l.2.1 = p.1 ∧ l.2.2 = p.2.2
    · rw [joinR_in z c.1 c.2]
      refine ⟨⟨?_, fun s hs => ?_, fun l1 a b l2 e => ?_⟩, fun k => ?_, fun s hs => ?_⟩
      · exact List.pairwise_append.mpr ⟨(List.pairwise_append.mp h.ord).1, by simp, fun s hs t ht => by
          rw [List.mem_singleton.mp ht]; exact ol s hs l (by simp)⟩
      · rcases List.mem_append.mp hs with hs | hs
        · exact h.each s (List.mem_append_left _ hs)
        · rw [List.mem_singleton.mp hs]
          exact ⟨by show l.1 < p.2.1; omega, z, hn⟩
      · rcases split_snoc e with ⟨l3, e2⟩ | ⟨e2, rfl⟩
        · exact h.apart l1 a b (l3 ++ [l]) (by rw [e2]; simp)
        · intro q
          have := h.apart l1 a l [] (by rw [e2]; simp) q
          rw [c.2] at this
          exact this
      · rw [atR_app, atR_app]
        by_cases d : ∃ s ∈ o, s.1 ≤ k ∧ k < s.2.1
        · rw [if_pos d, if_pos d]
          obtain ⟨s, hs, q1, q2⟩ := d
          have := ol s hs l (by simp)
          rw [if_neg (by omega)]
        · rw [if_neg d, if_neg d]
          show (if l.1 ≤ k ∧ k < p.2.1 then p.2.2 else []) = if p.1 ≤ k ∧ k < p.2.1 then p.2.2 else if l.1 ≤ k ∧ k < l.2.1 then l.2.2 else []
          rw [c.2, c.1]
          have e1 := el.1
          rw [c.1] at e1
          by_cases k1 : p.1 ≤ k ∧ k < p.2.1
          · rw [if_pos (by omega), if_pos k1]
          · rw [if_neg k1]
            by_cases k2 : l.1 ≤ k ∧ k < p.1
            · rw [if_pos (by omega), if_pos k2]
            · rw [if_neg (by omega), if_neg k2]
      · rcases List.mem_append.mp hs with hs | hs
        · have := ol s hs l (by simp); omega
        · rw [List.mem_singleton.mp hs]; exact Int.le_refl _
    · rw [joinR_on z c]
      refine ⟨⟨?_, fun s hs => ?_, fun l1 a b l2 e => ?_⟩, fun k => ?_, fun s hs => ?_⟩
      · exact List.pairwise_append.mpr ⟨h.ord, by simp, fun s hs t ht => by rw [List.mem_singleton.mp ht]; exact hl s hs⟩
      · rcases List.mem_append.mp hs with hs | hs
        · exact h.each s hs
        · rw [List.mem_singleton.mp hs]; exact ⟨hp, z, hn⟩
      · rcases split_snoc e with ⟨l3, e2⟩ | ⟨e2, rfl⟩
        · exact h.apart l1 a b l3 e2
        · have := List.append_inj' e2 rfl
          rw [← (List.cons.inj this.2).1]
          exact fun q1 q2 => c ⟨q1, q2⟩
      · rw [atR_app]
        by_cases d : ∃ s ∈ o ++ [l], s.1 ≤ k ∧ k < s.2.1
        · rw [if_pos d]
          obtain ⟨s, hs, q1, q2⟩ := d
          have := hl s hs
          rw [if_neg (by omega)]
        · rw [if_neg d]
          have e : atR k (o ++ [l]) = [] := by
            by_cases e : atR k (o ++ [l]) = []
            · exact e
            · obtain ⟨s, hs, q1, q2, _⟩ := atR_mem e
              exact (d ⟨s, hs, q1, q2⟩).elim
          rw [e]; rfl
      · rcases List.mem_append.mp hs with hs | hs
        · have := hl s hs; omega
        · rw [List.mem_singleton.mp hs]; exact Int.le_refl _
theorem foldR_ok : ∀ (ps R : List Strip), NFR R → (∀ p ∈ ps, p.1 < p.2.1 ∧ NF p.2.2) → ps.Pairwise (fun p q => p.2.1 ≤ q.1) → (∀ p ∈ ps, ∀ s ∈ R, s.2.1 ≤ p.1) →
    NFR (ps.foldl joinR R) ∧ ∀ k, atR k (ps.foldl joinR R) = if (∃ p ∈ ps, p.1 ≤ k ∧ k < p.2.1) then atR k ps else atR k R
  | [], R, h, _, _, _ => ⟨h, fun k => by simp⟩
  | p :: ps, R, h, hp, hs, hl => by
    obtain ⟨hs1, hs2⟩ := List.pairwise_cons.mp hs
    obtain ⟨a, b, c⟩ := joinR_ok h (hp p (by simp)).1 (hp p (by simp)).2 (hl p (by simp))
    obtain ⟨d, e⟩ := foldR_ok ps (joinR R p) a (fun q hq => hp q (List.mem_cons_of_mem _ hq)) hs2 (fun q hq s hs => Int.le_trans (c s hs) (hs1 q hq))
    refine ⟨d, fun k => ?_⟩
    rw [List.foldl_cons, e k, b k]
    show _ = if _ then (if p.1 ≤ k ∧ k < p.2.1 then p.2.2 else atR k ps) else _
    by_cases k1 : p.1 ≤ k ∧ k < p.2.1
    · rw [if_pos (show ∃ q ∈ p :: ps, q.1 ≤ k ∧ k < q.2.1 from ⟨p, by simp, k1⟩), if_pos k1]
      split
      · rename_i d
        obtain ⟨q, hq, q1, q2⟩ := d
        have := hs1 q hq
        omega
      · rfl
    · rw [if_neg k1]
      by_cases d : ∃ q ∈ ps, q.1 ≤ k ∧ k < q.2.1
      · rw [if_pos d, if_pos (by obtain ⟨q, hq, r⟩ := d; exact ⟨q, List.mem_cons_of_mem _ hq, r⟩), if_neg k1]
      · rw [if_neg d, if_neg (by
          rintro ⟨q, hq, r⟩
          rcases List.mem_cons.mp hq with rfl | hq
          · exact k1 r
          · exact d ⟨q, hq, r⟩)]
theorem mem_atR {R : List Strip} (h : NFR R) {m k : Int} : Mem m (atR k R) ↔ ∃ s ∈ R, s.1 ≤ k ∧ k < s.2.1 ∧ Mem m s.2.2 := by
  constructor
  · intro q
    have ne : atR k R ≠ [] := fun z => by rw [z] at q; exact Mem.nil m q
    obtain ⟨s, hs, s1, s2, e⟩ := atR_mem ne
    exact ⟨s, hs, s1, s2, e ▸ q⟩
  · rintro ⟨s, hs, s1, s2, q⟩
    rw [atR_of h.ord hs s1 s2]
    exact q
theorem NF_atR {R : List Strip} (h : NFR R) (k : Int) : NF (atR k R) := by
  by_cases ne : atR k R = []
  · rw [ne]; exact ⟨.nil, by simp⟩
  · obtain ⟨s, hs, _, _, e⟩ := atR_mem ne
    rw [e]; exact (h.each s hs).2.2
/-- regions are told by their points -/
theorem NFR.same {R Q : List Strip} (hr : NFR R) (hq : NFR Q) (h : ∀ m k, Mem m (atR k R) ↔ Mem m (atR k Q)) : R = Q :=
  hr.uniq hq fun k => (NF_atR hr k).uniq (NF_atR hq k) fun m => h m k
/-- strips between ascending bounds -/
def cutsOf (ks : List Int) (row : Int → List PP) : List Strip := (List.range (ks.length - 1)).map fun i => (ks.getD i 0, ks.getD (i + 1) 0, row (ks.getD i 0))
theorem asc_lt {ks : List Int} (h : ks.Pairwise (· < ·)) {i j : Nat} (hij : i < j) (hj : j < ks.length) : ks.getD i 0 < ks.getD j 0 := by
  rw [getD0_at (by omega), getD0_at hj]
  exact List.pairwise_iff_getElem.mp h i j (by omega) hj hij
theorem mem_cuts {ks : List Int} {row : Int → List PP} {p : Strip} : p ∈ cutsOf ks row ↔ ∃ i, i + 1 < ks.length ∧ p = (ks.getD i 0, ks.getD (i + 1) 0, row (ks.getD i 0)) := by
  unfold cutsOf
  rw [List.mem_map]
  constructor
  · rintro ⟨i, hi, rfl⟩
    have := List.mem_range.mp hi
    exact ⟨i, by omega, rfl⟩
  · rintro ⟨i, hi, rfl⟩
    exact ⟨i, List.mem_range.mpr (by omega), rfl⟩
theorem cuts_ord {ks : List Int} {row : Int → List PP} (h : ks.Pairwise (· < ·)) : (cutsOf ks row).Pairwise fun p q => p.2.1 ≤ q.1 := by
  unfold cutsOf
  rw [List.pairwise_map]
  refine List.pairwise_iff_getElem.mpr fun i j hi hj hij => ?_
  have hj' : j < ks.length - 1 := by simpa using hj
  simp only [List.getElem_range]
  show ks.getD (i + 1) 0 ≤ ks.getD j 0
  rcases Nat.lt_or_eq_of_le (show i + 1 ≤ j from hij) with c | c
  · exact Int.le_of_lt (asc_lt h c (by omega))
  · rw [c]; exact Int.le_refl _
/-- what holds of rows that only change at the bounds -/
theorem cuts_mem {ks : List Int} {row : Int → List PP} {H : Int → Int → Bool} (h : ks.Pairwise (· < ·)) (hn : ∀ k, NF (row k)) (hr : ∀ i, i + 1 < ks.length → ∀ m, Mem m (row (ks.getD i 0)) ↔ H m (ks.getD i 0) = true)
    (hc : ∀ i k m, i + 1 < ks.length → ks.getD i 0 ≤ k → k < ks.getD (i + 1) 0 → H m (ks.getD i 0) = H m k) (ho : ∀ m k, H m k = true → (∃ x ∈ ks, x ≤ k) ∧ ∃ y ∈ ks, k < y) :
    NFR ((cutsOf ks row).foldl joinR []) ∧ ∀ m k, Mem m (atR k ((cutsOf ks row).foldl joinR [])) ↔ H m k = true := by
  have ord := cuts_ord (row := row) h
  obtain ⟨a, b⟩ := foldR_ok (cutsOf ks row) [] .nil (fun p hp => by
    obtain ⟨i, hi, rfl⟩ := mem_cuts.mp hp
    exact ⟨asc_lt h (Nat.lt_succ_self i) hi, hn _⟩) ord (by simp)
  refine ⟨a, fun m k => ?_⟩
  rw [b k]
  split
  · rename_i c
    obtain ⟨p, hp, k1, k2⟩ := c
    have hm := hp
    obtain ⟨i, hi, rfl⟩ := mem_cuts.mp hp
    rw [atR_of ord hm k1 k2, hr i hi, hc i k m hi k1 k2]
  · rename_i c
    refine ⟨fun q => (Mem.nil m q).elim, fun q => ?_⟩
    obtain ⟨x, y⟩ := ho m k q
    obtain ⟨i, hi, k1, k2⟩ := asc_gap h x y
    exact (c ⟨_, mem_cuts.mpr ⟨i, hi, rfl⟩, k1, k2⟩).elim
/-! ### rectangles -/
abbrev Rect := Int × Int × Int × Int
def rectD (r : Rect) : D := .tuple [.int r.1, .int r.2.1, .int r.2.2.1, .int r.2.2.2]
def holdB (rs : List Rect) (m k : Int) : Bool := rs.any fun r => decide (r.1 ≤ m) && (decide (m < r.2.1) && (decide (r.2.2.1 ≤ k) && decide (k < r.2.2.2)))
theorem holdB_iff {rs : List Rect} {m k : Int} : holdB rs m k = true ↔ ∃ r ∈ rs, r.1 ≤ m ∧ m < r.2.1 ∧ r.2.2.1 ≤ k ∧ k < r.2.2.2 := by
  unfold holdB
  rw [List.any_eq_true]
  simp
theorem holdB_congr {rs : List Rect} {m k m' k' : Int} (h : ∀ r ∈ rs, (r.1 ≤ m ∧ m < r.2.1 ∧ r.2.2.1 ≤ k ∧ k < r.2.2.2) ↔ (r.1 ≤ m' ∧ m' < r.2.1 ∧ r.2.2.1 ≤ k' ∧ k' < r.2.2.2)) : holdB rs m k = holdB rs m' k' := by
  rw [Bool.eq_iff_iff, holdB_iff, holdB_iff]
  constructor
  · rintro ⟨r, hr, q⟩; exact ⟨r, hr, (h r hr).mp q⟩
  · rintro ⟨r, hr, q⟩; exact ⟨r, hr, (h r hr).mpr q⟩
theorem e_stripD {s : Strip} : stripD s = .tuple [.int s.1, .int s.2.1, .list (s.2.2.map pairD)] := rfl
theorem e_rectD {r : Rect} : rectD r = .tuple [.int r.1, .int r.2.1, .int r.2.2.1, .int r.2.2.2] := rfl
def cellX (xs : List Int) (i : Nat) : PP := (xs.getD i 0, xs.getD (i + 1) 0)
def rowS (xs : List Int) (f : Int → Bool) : List PP := (((List.range (xs.length - 1)).filter fun i => f (xs.getD i 0)).map (cellX xs)).foldl joinS []
theorem rowS_ok {xs : List Int} (h : xs.Pairwise (· < ·)) (f : Int → Bool) : NF (rowS xs f) ∧ ∀ m, Mem m (rowS xs f) ↔ ∃ i, i + 1 < xs.length ∧ f (xs.getD i 0) = true ∧ xs.getD i 0 ≤ m ∧ m < xs.getD (i + 1) 0 := by
  have mem : ∀ p, p ∈ (((List.range (xs.length - 1)).filter fun i => f (xs.getD i 0)).map (cellX xs)) ↔ ∃ i, i + 1 < xs.length ∧ f (xs.getD i 0) = true ∧ p = cellX xs i := fun p => by
    rw [List.mem_map]
    constructor
    · rintro ⟨i, hi, rfl⟩
      obtain ⟨h1, h2⟩ := List.mem_filter.mp hi
      have := List.mem_range.mp h1
      exact ⟨i, by omega, h2, rfl⟩
    · rintro ⟨i, hi, hf, rfl⟩
      exact ⟨i, List.mem_filter.mpr ⟨List.mem_range.mpr (by omega), hf⟩, rfl⟩
  obtain ⟨a, b⟩ := fold_ok (((List.range (xs.length - 1)).filter fun i => f (xs.getD i 0)).map (cellX xs)) [] ⟨.nil, by simp⟩ (fun p hp => by
    obtain ⟨i, hi, _, rfl⟩ := (mem p).mp hp
    exact asc_lt h (Nat.lt_succ_self i) hi) (by simp) (by
    rw [List.pairwise_map]
    have : (List.range (xs.length - 1)).Pairwise fun i j => xs.getD i 0 ≤ xs.getD j 0 := by
      refine List.pairwise_iff_getElem.mpr fun i j hi hj hij => ?_
      have hj' : j < xs.length - 1 := by simpa using hj
      simp only [List.getElem_range]
      exact Int.le_of_lt (asc_lt h hij (by omega))
    exact this.filter _)
  refine ⟨a, fun m => ?_⟩
  have := b m
  unfold rowS
  rw [this]
  constructor
  · rintro (q | ⟨p, hp, q1, q2⟩)
    · exact (Mem.nil m q).elim
    · obtain ⟨i, hi, hf, rfl⟩ := (mem p).mp hp
      exact ⟨i, hi, hf, q1, q2⟩
  · rintro ⟨i, hi, hf, q1, q2⟩
    exact .inr ⟨_, (mem _).mpr ⟨i, hi, hf, rfl⟩, q1, q2⟩
theorem joinS_bound {S : List PP} {p : PP} {b : Int} (h : ∀ q ∈ S, q.2 ≤ b) (hp : p.2 ≤ b) : ∀ q ∈ joinS S p, q.2 ≤ b := by
  rcases List.eq_nil_or_concat S with rfl | ⟨o, l, rfl⟩
  · intro q hq
    rw [joinS_nil] at hq
    rw [List.mem_singleton.mp hq]; exact hp
  · rw [List.concat_eq_append] at *
    have hl := h l (by simp)
    intro q hq
    by_cases c : p.1 ≤ l.2
    · rw [joinS_le c] at hq
      rcases List.mem_append.mp hq with hq | hq
      · exact h q (List.mem_append_left _ hq)
      · rw [List.mem_singleton.mp hq]
        show max l.2 p.2 ≤ b
        omega
    · rw [joinS_gt c] at hq
      rcases List.mem_append.mp hq with hq | hq
      · exact h q hq
      · rw [List.mem_singleton.mp hq]; exact hp
def lawG (xs ks : List Int) (H : Int → Int → Bool) : List Strip := (cutsOf ks fun k => rowS xs fun x => H x k).foldl joinR []
theorem lawG_ok {xs ks : List Int} {H : Int → Int → Bool} (hx : xs.Pairwise (· < ·)) (hk : ks.Pairwise (· < ·)) (cx : ∀ i m k, i + 1 < xs.length → xs.getD i 0 ≤ m → m < xs.getD (i + 1) 0 → H (xs.getD i 0) k = H m k)
    (ck : ∀ i k m, i + 1 < ks.length → ks.getD i 0 ≤ k → k < ks.getD (i + 1) 0 → H m (ks.getD i 0) = H m k) (ox : ∀ m k, H m k = true → (∃ x ∈ xs, x ≤ m) ∧ ∃ y ∈ xs, m < y) (ok : ∀ m k, H m k = true → (∃ x ∈ ks, x ≤ k) ∧ ∃ y ∈ ks, k < y) :
    NFR (lawG xs ks H) ∧ ∀ m k, Mem m (atR k (lawG xs ks H)) ↔ H m k = true := by
  refine cuts_mem hk (fun k => (rowS_ok hx _).1) (fun i hi m => ?_) ck ok
  rw [(rowS_ok hx _).2 m]
  constructor
  · rintro ⟨j, hj, hf, q1, q2⟩
    rw [← cx j m _ hj q1 q2]; exact hf
  · intro q
    obtain ⟨x, y⟩ := ox m _ q
    obtain ⟨j, hj, q1, q2⟩ := asc_gap hx x y
    exact ⟨j, hj, by rw [cx j m _ hj q1 q2]; exact q, q1, q2⟩
def xsOf (rs : List Rect) : List Int := sortU (rs.map (·.1) ++ rs.map (·.2.1))
def ksOf (rs : List Rect) : List Int := sortU (rs.map (·.2.2.1) ++ rs.map (·.2.2.2))
theorem mem_xsOf {rs : List Rect} {r : Rect} (h : r ∈ rs) : r.1 ∈ xsOf rs ∧ r.2.1 ∈ xsOf rs := by
  unfold xsOf
  rw [mem_sortU, mem_sortU, List.mem_append, List.mem_append]
  exact ⟨.inl (List.mem_map.mpr ⟨r, h, rfl⟩), .inr (List.mem_map.mpr ⟨r, h, rfl⟩)⟩
theorem mem_ksOf {rs : List Rect} {r : Rect} (h : r ∈ rs) : r.2.2.1 ∈ ksOf rs ∧ r.2.2.2 ∈ ksOf rs := by
  unfold ksOf
  rw [mem_sortU, mem_sortU, List.mem_append, List.mem_append]
  exact ⟨.inl (List.mem_map.mpr ⟨r, h, rfl⟩), .inr (List.mem_map.mpr ⟨r, h, rfl⟩)⟩
theorem xs_same {rs all : List Rect} (sub : ∀ r ∈ rs, r ∈ all) {i : Nat} {m k : Int} (hi : i + 1 < (xsOf all).length) (h1 : (xsOf all).getD i 0 ≤ m) (h2 : m < (xsOf all).getD (i + 1) 0) : holdB rs ((xsOf all).getD i 0) k = holdB rs m k :=
  holdB_congr fun r hr => by
    have a := asc_split (sortU_sorted _) hi (mem_xsOf (sub r hr)).1
    have b := asc_split (sortU_sorted _) hi (mem_xsOf (sub r hr)).2
    unfold xsOf at *
    omega
theorem ks_same {rs all : List Rect} (sub : ∀ r ∈ rs, r ∈ all) {i : Nat} {m k : Int} (hi : i + 1 < (ksOf all).length) (h1 : (ksOf all).getD i 0 ≤ k) (h2 : k < (ksOf all).getD (i + 1) 0) : holdB rs m ((ksOf all).getD i 0) = holdB rs m k :=
  holdB_congr fun r hr => by
    have a := asc_split (sortU_sorted _) hi (mem_ksOf (sub r hr)).1
    have b := asc_split (sortU_sorted _) hi (mem_ksOf (sub r hr)).2
    unfold ksOf at *
    omega
def lawR (rs : List Rect) : List Strip := lawG (xsOf rs) (ksOf rs) (holdB rs)
theorem lawR_ok (rs : List Rect) : NFR (lawR rs) ∧ ∀ m k, Mem m (atR k (lawR rs)) ↔ holdB rs m k = true :=
  lawG_ok (sortU_sorted _) (sortU_sorted _) (fun i m k hi h1 h2 => xs_same (fun _ h => h) hi h1 h2) (fun i k m hi h1 h2 => ks_same (fun _ h => h) hi h1 h2)
    (fun m k h => by
      obtain ⟨r, hr, q1, q2, q3, q4⟩ := holdB_iff.mp h
      exact ⟨⟨r.1, (mem_xsOf hr).1, q1⟩, r.2.1, (mem_xsOf hr).2, q2⟩)
    (fun m k h => by
      obtain ⟨r, hr, q1, q2, q3, q4⟩ := holdB_iff.mp h
      exact ⟨⟨r.2.2.1, (mem_ksOf hr).1, q3⟩, r.2.2.2, (mem_ksOf hr).2, q4⟩)
theorem joinR_len (R : List Strip) (p : Strip) : (joinR R p).length ≤ R.length + 1 := by
  by_cases z : p.2.2 = []
  · rw [joinR_empty z]; omega
  rcases List.eq_nil_or_concat R with rfl | ⟨o, l, rfl⟩
  · rw [joinR_first z]; simp
  · rw [List.concat_eq_append]
    by_cases c : l.2.1 = p.1 ∧ l.2.2 = p.2.2
    · rw [joinR_in z c.1 c.2]; simp
    · rw [joinR_on z c]; simp
theorem foldR_len' : ∀ (ps R : List Strip), (ps.foldl joinR R).length ≤ R.length + ps.length
  | [], R => by simp
  | p :: ps, R => by
    have h1 := foldR_len' ps (joinR R p)
    have h2 := joinR_len R p
    rw [List.foldl_cons, List.length_cons]
    omega
theorem foldR_len (ps : List Strip) : (ps.foldl joinR []).length ≤ ps.length := by simpa using foldR_len' ps []
theorem sortX_pairs (ps : List (Int × Int)) {r : Rs} (h : lstOf r = some (ps.map pairD)) : dSortX r = some (.new ((sortP ps).map pairD)) := by
  unfold dSortX
  rw [sorted_pairs ps h]
theorem rect_key (sh : Nat → Bool) (h : ∀ i, sh i = false) (r : Rect) : dKey sh (rectD r) = some [.inl r.1, .inl r.2.1, .inl r.2.2.1, .inl r.2.2.2] := by
  show itKey sh 0 [.int r.1, .int r.2.1, .int r.2.2.1, .int r.2.2.2] = _
  simp [itKey, h]
theorem map_of_perm {rs : List Rect} {ds : List D} (h : ds.Perm (rs.map rectD)) : ∃ qs : List Rect, ds = qs.map rectD ∧ qs.Perm rs := by
  generalize hm : rs.map rectD = m at h
  induction h generalizing rs with
  | nil =>
    cases rs with
    | nil => exact ⟨[], rfl, .nil⟩
    | cons _ _ => cases hm
  | cons x p ih =>
    cases rs with
    | nil => cases hm
    | cons r rs =>
      injection hm with h1 h2
      obtain ⟨qs, e, pq⟩ := ih h2
      exact ⟨r :: qs, by rw [List.map_cons, e, h1], .cons r pq⟩
  | swap x y l =>
    match rs, hm with
    | a :: b :: rs, hm =>
      injection hm with h1 h2
      injection h2 with h2 h3
      exact ⟨b :: a :: rs, by rw [List.map_cons, List.map_cons, h1, h2, h3], .swap _ _ _⟩
  | trans p q ih1 ih2 =>
    obtain ⟨qs, e, pq⟩ := ih2 hm
    obtain ⟨ws, e2, pq2⟩ := ih1 e.symm
    exact ⟨ws, e2, pq2.trans pq⟩
theorem sortX_rects (rs : List Rect) {r : Rs} (h : lstOf r = some (rs.map rectD)) : ∃ qs : List Rect, dSortX r = some (.new (qs.map rectD)) ∧ qs.Perm rs ∧ qs.Pairwise fun p q => p.1 ≤ q.1 := by
  cases rs with
  | nil =>
    refine ⟨[], ?_, .refl _, .nil⟩
    have := sorted_pairs [] (r := r) h
    unfold dSortX
    rw [this]
    simp [sortP]
  | cons r0 rs =>
    have hn : dSorted r = none := by
      unfold dSorted
      rw [h, Option.bind_some]
      have e1 : allOf asInt ((r0 :: rs).map rectD) = none := rfl
      have e2 : allOf asPair ((r0 :: rs).map rectD) = none := rfl
      rw [e1, e2]; rfl
    have hs : ∀ i, shOf (rectD r0) i = false := fun i => by
      match i with
      | 0 => rfl
      | 1 => rfl
      | 2 => rfl
      | 3 => rfl
      | i + 4 => rfl
    obtain ⟨qs, e, pq⟩ := map_of_perm (rs := r0 :: rs) (sortT_perm (shOf (rectD r0)) ((r0 :: rs).map rectD))
    refine ⟨qs, ?_, pq, ?_⟩
    · unfold dSortX
      rw [hn, h, Option.bind_some]
      show (if (((r0 :: rs).map rectD).all fun d => (dKey (shOf (rectD r0)) d).isSome) = true then some (Rs.new (sortT (shOf (rectD r0)) ((r0 :: rs).map rectD))) else none) = _
      rw [if_pos (List.all_eq_true.mpr fun d hd => by
        obtain ⟨x, _, rfl⟩ := List.mem_map.mp hd
        rw [rect_key _ hs]; rfl), e]
    · have so := sortT_sorted (shOf (rectD r0)) ((r0 :: rs).map rectD)
      rw [e, List.pairwise_map] at so
      refine so.imp fun {a b} hab => ?_
      unfold leT at hab
      rw [rect_key _ hs, rect_key _ hs, Bool.not_eq_true', Option.getD_some, Option.getD_some] at hab
      have : (decide (b.1 < a.1) || (!decide (a.1 < b.1) && _)) = false := hab
      rw [Bool.or_eq_false_iff] at this
      have := of_decide_eq_false this.1
      omega
theorem foldJ_bound : ∀ (ps S : List PP) (b : Int), (∀ p ∈ ps, p.2 ≤ b) → (∀ q ∈ S, q.2 ≤ b) → ∀ q ∈ ps.foldl joinS S, q.2 ≤ b
  | [], _, _, _, h => h
  | p :: ps, S, b, hp, hS => foldJ_bound ps (joinS S p) b (fun q hq => hp q (List.mem_cons_of_mem _ hq)) (joinS_bound hS (hp p (by simp)))
theorem e_wipec {ρ : En} {i : Nat} {is : List Nat} : wipeE ρ (i :: is) = (wipeE ρ is).set i .un := rfl
def rowsOf (R : List Strip) : List Rect := R.flatMap fun s => s.2.2.map fun p => (p.1, p.2, s.1, s.2.1)
theorem mem_rowsOf {R : List Strip} {r : Rect} : r ∈ rowsOf R ↔ ∃ s ∈ R, ∃ p ∈ s.2.2, r = (p.1, p.2, s.1, s.2.1) := by
  unfold rowsOf
  rw [List.mem_flatMap]
  constructor
  · rintro ⟨s, hs, h⟩
    obtain ⟨p, hp, rfl⟩ := List.mem_map.mp h
    exact ⟨s, hs, p, hp, rfl⟩
  · rintro ⟨s, hs, p, hp, rfl⟩
    exact ⟨s, hs, List.mem_map.mpr ⟨p, hp, rfl⟩⟩
theorem holdB_rows {R : List Strip} (h : NFR R) (m k : Int) : holdB (rowsOf R) m k = memB (atR k R) m := by
  rw [Bool.eq_iff_iff, holdB_iff, memB_iff, mem_atR h]
  constructor
  · rintro ⟨r, hr, q1, q2, q3, q4⟩
    obtain ⟨s, hs, p, hp, rfl⟩ := mem_rowsOf.mp hr
    exact ⟨s, hs, q3, q4, p, hp, q1, q2⟩
  · rintro ⟨s, hs, q3, q4, p, hp, q1, q2⟩
    exact ⟨_, mem_rowsOf.mpr ⟨s, hs, p, hp, rfl⟩, q1, q2, q3, q4⟩
theorem rows_pair {R : List Strip} (h : NFR R) : (rowsOf R).Pairwise fun a b => (a.2.2 = b.2.2 ∧ a.2.1 < b.1) ∨ a.2.2.2 ≤ b.2.2.1 := by
  unfold rowsOf
  rw [List.pairwise_flatMap]
  refine ⟨fun s hs => ?_, h.ord.imp fun {a b} hab x hx y hy => ?_⟩
  · rw [List.pairwise_map]
    exact (h.each s hs).2.2.ord.imp fun {p q} z => .inl ⟨rfl, z⟩
  · obtain ⟨p, _, rfl⟩ := List.mem_map.mp hx
    obtain ⟨q, _, rfl⟩ := List.mem_map.mp hy
    exact .inr hab
theorem rows_ne {R : List Strip} (h : NFR R) : ∀ r ∈ rowsOf R, r.1 < r.2.1 ∧ r.2.2.1 < r.2.2.2 := fun r hr => by
  obtain ⟨s, hs, p, hp, rfl⟩ := mem_rowsOf.mp hr
  exact ⟨(h.each s hs).2.2.ne p hp, (h.each s hs).1⟩
def swapR (r : Rect) : Rect := (r.2.2.1, r.2.2.2, r.1, r.2.1)
theorem holdB_swap (rs : List Rect) (m k : Int) : holdB (rs.map swapR) k m = holdB rs m k := by
  rw [Bool.eq_iff_iff, holdB_iff, holdB_iff]
  constructor
  · rintro ⟨r, hr, q1, q2, q3, q4⟩
    obtain ⟨x, hx, rfl⟩ := List.mem_map.mp hr
    exact ⟨x, hx, q3, q4, q1, q2⟩
  · rintro ⟨r, hr, q1, q2, q3, q4⟩
    exact ⟨_, List.mem_map.mpr ⟨r, hr, rfl⟩, q3, q4, q1, q2⟩
theorem sum_nf : ∀ {s : List PP} {lo hi : Int}, NF s → (∀ p ∈ s, lo ≤ p.1 ∧ p.2 ≤ hi) → lo ≤ hi → 0 ≤ (s.map fun p => p.2 - p.1).sum ∧ (s.map fun p => p.2 - p.1).sum ≤ hi - lo
  | [], lo, hi, _, _, h => by simp; omega
  | p :: s, lo, hi, hn, hb, h => by
    obtain ⟨h1, h2, h3⟩ := hn.tail
    have hp := hb p (by simp)
    obtain ⟨a, b⟩ := sum_nf (lo := p.2) (hi := hi) h1 (fun q hq => ⟨Int.le_of_lt (h3 q hq), (hb q (List.mem_cons_of_mem _ hq)).2⟩) hp.2
    rw [List.map_cons, List.sum_cons]
    omega
theorem nf_within {s : List PP} {lo hi : Int} (h : NF s) (hm : ∀ m, Mem m s → lo ≤ m ∧ m < hi) : ∀ p ∈ s, lo ≤ p.1 ∧ p.2 ≤ hi := fun p hp => by
  have a := hm p.1 ⟨p, hp, Int.le_refl _, h.ne p hp⟩
  have b := hm (p.2 - 1) ⟨p, hp, by have := h.ne p hp; omega, by omega⟩
  omega
theorem joinR_spans {R : List Strip} {p s : Strip} (h : s ∈ joinR R p) : s ∈ R ∨ s.2.2 = p.2.2 := by
  by_cases z : p.2.2 = []
  · rw [joinR_empty z] at h; exact .inl h
  rcases List.eq_nil_or_concat R with rfl | ⟨o, l, rfl⟩
  · rw [joinR_first z] at h
    rw [List.mem_singleton.mp h]; exact .inr rfl
  · rw [List.concat_eq_append] at *
    by_cases c : l.2.1 = p.1 ∧ l.2.2 = p.2.2
    · rw [joinR_in z c.1 c.2] at h
      rcases List.mem_append.mp h with h | h
      · exact .inl (List.mem_append_left _ h)
      · rw [List.mem_singleton.mp h]; exact .inr rfl
    · rw [joinR_on z c] at h
      rcases List.mem_append.mp h with h | h
      · exact .inl h
      · rw [List.mem_singleton.mp h]; exact .inr rfl
theorem foldR_spans : ∀ (ps R : List Strip) {s : Strip}, s ∈ ps.foldl joinR R → s ∈ R ∨ ∃ p ∈ ps, s.2.2 = p.2.2
  | [], _, _, h => .inl h
  | p :: ps, R, s, h => by
    rcases foldR_spans ps (joinR R p) h with h | ⟨q, hq, e⟩
    · rcases joinR_spans h with h | h
      · exact .inl h
      · exact .inr ⟨p, by simp, h⟩
    · exact .inr ⟨q, List.mem_cons_of_mem _ hq, e⟩
theorem lawR_size (rs : List Rect) (n : Nat) (h : rs.length ≤ n) : (lawR rs).length ≤ 2 * n ∧ ∀ s ∈ lawR rs, s.2.2.length ≤ 2 * n := by
  have l1 : (xsOf rs).length ≤ 2 * n := Nat.le_trans (sortU_len _) (by simp only [List.length_append, List.length_map]; omega)
  have l2 : (ksOf rs).length ≤ 2 * n := Nat.le_trans (sortU_len _) (by simp only [List.length_append, List.length_map]; omega)
  constructor
  · refine Nat.le_trans (foldR_len _) ?_
    unfold cutsOf
    rw [List.length_map, List.length_range]
    omega
  · intro s hs
    rcases foldR_spans _ _ hs with h | ⟨p, hp, e⟩
    · cases h
    · obtain ⟨i, _, rfl⟩ := mem_cuts.mp hp
      rw [e]
      refine Nat.le_trans (foldJ_len _) ?_
      rw [List.length_map]
      refine Nat.le_trans (List.length_filter_le _ _) ?_
      rw [List.length_range]
      omega
theorem rowsOf_len {R : List Strip} {n m : Nat} (h : ∀ s ∈ R, s.2.2.length ≤ n) (h2 : R.length ≤ m) : (rowsOf R).length ≤ m * n := by
  have : ∀ (R : List Strip), (∀ s ∈ R, s.2.2.length ≤ n) → (rowsOf R).length ≤ R.length * n := by
    intro R
    induction R with
    | nil => intro _; simp [rowsOf]
    | cons s r ih =>
      intro h
      have a := ih fun t ht => h t (List.mem_cons_of_mem _ ht)
      have b := h s (by simp)
      show (List.length (s.2.2.map _ ++ rowsOf r)) ≤ _
      rw [List.length_append, List.length_map, List.length_cons, Nat.succ_mul]
      omega
  exact Nat.le_trans (this R h) (Nat.mul_le_mul_right n h2)
theorem sum_rows (R : List Strip) : ((rowsOf R).map fun r => (r.2.1 - r.1) * (r.2.2.2 - r.2.2.1)).sum = (R.map fun s => (s.2.1 - s.1) * (s.2.2.map fun p => p.2 - p.1).sum).sum := by
  induction R with
  | nil => rfl
  | cons s r ih =>
    show ((s.2.2.map (fun p => ((p.1, p.2, s.1, s.2.1) : Rect)) ++ rowsOf r).map _).sum = _
    rw [List.map_append, List.sum_append, ih, List.map_cons, List.sum_cons]
    congr 1
    rw [List.map_map]
    generalize s.2.2 = sp
    induction sp with
    | nil => simp
    | cons p sp ih2 =>
      rw [List.map_cons, List.sum_cons, List.map_cons, List.sum_cons, ih2, Int.mul_add]
      congr 1
      exact Int.mul_comm _ _
theorem eqv_rect (p q : Rect) : PyData.eqv (rectD p) (rectD q) = decide (p = q) := by
  unfold rectD
  rw [PyData.eqv, PyData.eqvAll, PyData.eqvAll, PyData.eqvAll, PyData.eqvAll, PyData.eqvAll, eqv_int, eqv_int, eqv_int, eqv_int]
  obtain ⟨a, b, c, d⟩ := p
  obtain ⟨a', b', c', d'⟩ := q
  simp
theorem eqv_strip (p q : Strip) : PyData.eqv (stripD p) (stripD q) = decide (p = q) := by
  unfold stripD
  rw [PyData.eqv, PyData.eqvAll, PyData.eqvAll, PyData.eqvAll, PyData.eqvAll, eqv_int, eqv_int, eqv_spans]
  obtain ⟨a, b, c⟩ := p
  obtain ⟨a', b', c'⟩ := q
  simp
theorem Shp.rect (r : Rect) : Shp 2 (rectD r) := Shp.tuple fun d hd => by
  simp only [List.mem_cons, List.not_mem_nil, or_false] at hd
  rcases hd with rfl | rfl | rfl | rfl <;> exact .int _
theorem Shp.strip (s : Strip) : Shp 4 (stripD s) := Shp.tuple fun d hd => by
  simp only [List.mem_cons, List.not_mem_nil, or_false] at hd
  rcases hd with rfl | rfl | rfl
  · exact (Shp.int _).mono (by omega)
  · exact (Shp.int _).mono (by omega)
  · exact shp_spans _
theorem dEq_rects (ps qs : List Rect) : dEq (.list (ps.map rectD)) (.list (qs.map rectD)) = some (.bool (decide (ps = qs))) := by
  rw [dEq_of (.map Shp.rect ps) (.map Shp.rect qs) (by omega) (by omega), PyData.eqv, eqv_all eqv_rect]
theorem dEq_strips (ps qs : List Strip) : dEq (.list (ps.map stripD)) (.list (qs.map stripD)) = some (.bool (decide (ps = qs))) := by
  rw [dEq_of (.map Shp.strip ps) (.map Shp.strip qs) (by omega) (by omega), PyData.eqv, eqv_all eqv_strip]
theorem dNe_rects (ps qs : List Rect) : dNe (.list (ps.map rectD)) (.list (qs.map rectD)) = some (.bool (!decide (ps = qs))) := by
  rw [dNe_of (.map Shp.rect ps) (.map Shp.rect qs) (by omega) (by omega), PyData.eqv, eqv_all eqv_rect]
theorem dNe_strips (ps qs : List Strip) : dNe (.list (ps.map stripD)) (.list (qs.map stripD)) = some (.bool (!decide (ps = qs))) := by
  rw [dNe_of (.map Shp.strip ps) (.map Shp.strip qs) (by omega) (by omega), PyData.eqv, eqv_all eqv_strip]
theorem rowsOf_app (A : List Strip) (s : Strip) : rowsOf (A ++ [s]) = rowsOf A ++ s.2.2.map fun p => (p.1, p.2, s.1, s.2.1) := by
  unfold rowsOf
  rw [List.flatMap_append]
  simp
end Pu

namespace Pu
open PySem PySem.Spec PyProof.Rows L2
variable [FnTab]
/-! ### equations for readings with effects -/
section
variable {α β : Type} {ρ : En} {a : α} {d : D} {ds : List D}
def up1 (ρ : En) : α → Rz α := fun a => .ok a ρ
theorem e_up {g : En → Option α} : up g ρ = (g ρ).map (up1 ρ) := rfl
theorem e_up1 : up1 ρ a = .ok a ρ := rfl
theorem e_upc {o : Option α} : upc o ρ = o.map (up1 ρ) := rfl
def qb1 (k : α → En → Option (Rz β)) : Rz α → Option (Rz β) := fun r => match r with
  | .ok a ρ' => k a ρ'
  | .ex x ρ' => some (.ex x ρ')
theorem e_qb {g : En → Option (Rz α)} {k : α → En → Option (Rz β)} : qb g k ρ = (g ρ).bind (qb1 k) := rfl
theorem e_qb_ok {k : α → En → Option (Rz β)} : qb1 k (.ok a ρ) = k a ρ := rfl
theorem e_qb_ex {k : α → En → Option (Rz β)} {x : Nat} : qb1 k (.ex x ρ) = some (.ex x ρ) := rfl
def sb1 (k : α → En → Option Ot) : Rz α → Option Ot := fun r => match r with
  | .ok a ρ' => k a ρ'
  | .ex x ρ' => some (.ex x ρ')
theorem e_sb {g : En → Option (Rz α)} {k : α → En → Option Ot} : sb g k ρ = (g ρ).bind (sb1 k) := rfl
theorem e_sb_ok {k : α → En → Option Ot} : sb1 k (.ok a ρ) = k a ρ := rfl
theorem e_sb_ex {k : α → En → Option Ot} {x : Nat} : sb1 k (.ex x ρ) = some (.ex x ρ) := rfl
def ss1 (R : En → Option Ot) : Ot → Option Ot := fun o => match o with
  | .nx ρ' => R ρ'
  | o => some o
theorem e_sSeq {R1 R2 : En → Option Ot} : sSeq R1 R2 ρ = (R1 ρ).bind (ss1 R2) := rfl
theorem e_ss_nx {R : En → Option Ot} : ss1 R (.nx ρ) = R ρ := rfl
theorem e_ss_rt {R : En → Option Ot} : ss1 R (.rt d ρ) = some (.rt d ρ) := rfl
theorem e_ss_bk {R : En → Option Ot} : ss1 R (.bk ρ) = some (.bk ρ) := rfl
theorem e_ss_ct {R : En → Option Ot} : ss1 R (.ct ρ) = some (.ct ρ) := rfl
theorem e_ss_ex {R : En → Option Ot} {x : Nat} : ss1 R (.ex x ρ) = some (.ex x ρ) := rfl
theorem e_sNext : sNext ρ = some (.nx ρ) := rfl
def sr1 (d : D) (ρ : En) : Option Ot := some (.rt d ρ)
theorem e_sRet {g : En → Option (Rz D)} : sRet g ρ = (g ρ).bind (sb1 sr1) := rfl
theorem e_sr1 : sr1 d ρ = some (.rt d ρ) := rfl
def sd1 (_ : D) (ρ : En) : Option Ot := some (.nx ρ)
theorem e_sDrop {g : En → Option (Rz D)} : sDrop g ρ = (g ρ).bind (sb1 sd1) := rfl
theorem e_sd1 : sd1 d ρ = some (.nx ρ) := rfl
def sif1 (R1 R2 : En → Option Ot) (b : Bool) (ρ : En) : Option Ot := if b = true then R1 ρ else R2 ρ
theorem e_sIf {c : En → Option (Rz Bool)} {R1 R2 : En → Option Ot} : sIf c R1 R2 ρ = (c ρ).bind (sb1 (sif1 R1 R2)) := by
  show (c ρ).bind _ = _
  congr 1
  funext r
  cases r with
  | ok b ρ' => cases b <;> rfl
  | ex x ρ' => rfl
theorem e_sif_t {R1 R2 : En → Option Ot} : sif1 R1 R2 true ρ = R1 ρ := rfl
theorem e_sif_f {R1 R2 : En → Option Ot} : sif1 R1 R2 false ρ = R2 ρ := rfl
def sv1 (i : Nat) (d : D) (ρ : En) : Option Ot := some (.nx (ρ.set i (.val d)))
theorem e_sSet {i : Nat} {g : En → Option (Rz D)} : sSet i g ρ = (g ρ).bind (sb1 (sv1 i)) := rfl
theorem e_sv1 {i : Nat} : sv1 i d ρ = some (.nx (ρ.set i (.val d))) := rfl
def so1 (i : Nat) (ρ : En) : Rs → Option Ot := fun r => match r with
  | .new ds => some (.nx (ρ.set i (.own ds)))
  | .val d => some (.nx (ρ.set i (.val d)))
  | .view _ => none
theorem e_sOwn {i : Nat} {g : En → Option Rs} : sOwn i g ρ = (g ρ).bind (so1 i ρ) := rfl
theorem e_so_new {i : Nat} : so1 i ρ (.new ds) = some (.nx (ρ.set i (.own ds))) := rfl
theorem e_so_val {i : Nat} : so1 i ρ (.val d) = some (.nx (ρ.set i (.val d))) := rfl
def sa1 (b : D → En → Option En) (d : D) (ρ : En) : Option Ot := (b d ρ).map .nx
theorem e_sAsg {b : D → En → Option En} {g : En → Option (Rz D)} : sAsg b g ρ = (g ρ).bind (sb1 (sa1 b)) := rfl
theorem e_sa1 {b : D → En → Option En} : sa1 b d ρ = (b d ρ).map .nx := rfl
def sp2 (i : Nat) (d : D) (ρ : En) : List D → Option Ot := fun ds => if ds.length < sizeLine then some (.nx (ρ.set i (.own (ds ++ [d])))) else none
def sp1 (i : Nat) (d : D) (ρ : En) : Option Ot := (ownAt i ρ).bind (sp2 i d ρ)
def sp0 (i : Nat) (g : En → Option (Rz D)) (ρ : En) : List D → Option Ot := fun _ => (g ρ).bind (sb1 (sp1 i))
theorem e_sApp {i : Nat} {g : En → Option (Rz D)} : sApp i g ρ = (ownAt i ρ).bind (sp0 i g ρ) := rfl
theorem e_sp0 {i : Nat} {g : En → Option (Rz D)} : sp0 i g ρ ds = (g ρ).bind (sb1 (sp1 i)) := rfl
theorem e_sp1 {i : Nat} : sp1 i d ρ = (ownAt i ρ).bind (sp2 i d ρ) := rfl
theorem e_sp2 {i : Nat} (h : ds.length < 100000) : sp2 i d ρ ds = some (.nx (ρ.set i (.own (ds ++ [d])))) := if_pos (small_lt h)
theorem e_sFor {gi : En → Option (Rz (List D))} {b : D → En → Option En} {R : En → Option Ot} : sFor gi b R ρ = (gi ρ).bind (sb1 (forQ b R)) := rfl
def fq2 (b : D → En → Option En) (R : En → Option Ot) (ds : List D) : Ot → Option Ot := fun o => match o with
  | .nx ρ2 => forQ b R ds ρ2
  | .ct ρ2 => forQ b R ds ρ2
  | .bk ρ2 => some (.nx ρ2)
  | .rt d ρ2 => some (.rt d ρ2)
  | .ex x ρ2 => some (.ex x ρ2)
theorem forQ_nil {b : D → En → Option En} {R : En → Option Ot} : forQ b R [] ρ = some (.nx ρ) := rfl
theorem forQ_cons {b : D → En → Option En} {R : En → Option Ot} : forQ b R (d :: ds) ρ = ((b d ρ).bind R).bind (fq2 b R ds) := by
  show (b d ρ).bind _ = _
  cases b d ρ <;> rfl
theorem e_fq_nx {b : D → En → Option En} {R : En → Option Ot} : fq2 b R ds (.nx ρ) = forQ b R ds ρ := rfl
theorem e_fq_ct {b : D → En → Option En} {R : En → Option Ot} : fq2 b R ds (.ct ρ) = forQ b R ds ρ := rfl
theorem e_fq_bk {b : D → En → Option En} {R : En → Option Ot} : fq2 b R ds (.bk ρ) = some (.nx ρ) := rfl
theorem e_fq_rt {b : D → En → Option En} {R : En → Option Ot} : fq2 b R ds (.rt d ρ) = some (.rt d ρ) := rfl
theorem e_fq_ex {b : D → En → Option En} {R : En → Option Ot} {x : Nat} : fq2 b R ds (.ex x ρ) = some (.ex x ρ) := rfl
def sy2 (Rs : En → Option Ot) (x : Nat) (ρ : En) : Bool → Option Ot := fun k => if k = true then (Rs ρ).bind noEx else some (.ex x ρ)
def sy1 (m : Nat → Option Bool) (Rs : En → Option Ot) : Ot → Option Ot := fun o => match o with
  | .ex x ρ' => (m x).bind (sy2 Rs x ρ')
  | o => some o
theorem e_sTry {m : Nat → Option Bool} {R Rs : En → Option Ot} : sTry m R Rs ρ = (R ρ).bind (sy1 m Rs) := by
  show (R ρ).bind _ = _
  congr 1
theorem e_sy_nx {m : Nat → Option Bool} {Rs : En → Option Ot} : sy1 m Rs (.nx ρ) = some (.nx ρ) := rfl
theorem e_sy_rt {m : Nat → Option Bool} {Rs : En → Option Ot} : sy1 m Rs (.rt d ρ) = some (.rt d ρ) := rfl
theorem e_sy_ex {m : Nat → Option Bool} {Rs : En → Option Ot} {x : Nat} : sy1 m Rs (.ex x ρ) = (m x).bind (sy2 Rs x ρ) := rfl
theorem e_sy2_t {Rs : En → Option Ot} {x : Nat} : sy2 Rs x ρ true = (Rs ρ).bind noEx := rfl
theorem e_sy2_f {Rs : En → Option Ot} {x : Nat} : sy2 Rs x ρ false = some (.ex x ρ) := rfl
theorem e_noEx_nx : noEx (.nx ρ) = some (.nx ρ) := rfl
theorem e_noEx_rt : noEx (.rt d ρ) = some (.rt d ρ) := rfl
def sz4 (i j : Nat) (ρ : En) : Bool → Ot := fun b => .nx (((ρ.set i .un).set j (.val (.bool b))).set i .un)
def sz3 (bx : Nat → Option Bool) (i j x : Nat) (ρ : En) : Sl → Option Ot := fun _ => (bx x).map (sz4 i j ρ)
def sz2 (bx : Nat → Option Bool) (i j x : Nat) (ρ : En) : Bool → Option Ot := fun k => if k = true then (ρ[i]?).bind (sz3 bx i j x ρ) else some (.ex x ρ)
def sz1 (m bx : Nat → Option Bool) (i j : Nat) : Ot → Option Ot := fun o => match o with
  | .ex x ρ' => (m x).bind (sz2 bx i j x ρ')
  | o => some o
theorem e_sTryB {m bx : Nat → Option Bool} {i j : Nat} {R : En → Option Ot} : sTryB m bx i j R ρ = (R ρ).bind (sz1 m bx i j) := by
  show (R ρ).bind _ = _
  congr 1
theorem e_sz_nx {m bx : Nat → Option Bool} {i j : Nat} : sz1 m bx i j (.nx ρ) = some (.nx ρ) := rfl
theorem e_sz_ex {m bx : Nat → Option Bool} {i j x : Nat} : sz1 m bx i j (.ex x ρ) = (m x).bind (sz2 bx i j x ρ) := rfl
theorem e_sz2_t {bx : Nat → Option Bool} {i j x : Nat} : sz2 bx i j x ρ true = (ρ[i]?).bind (sz3 bx i j x ρ) := rfl
theorem e_sz3 {bx : Nat → Option Bool} {i j x : Nat} {s : Sl} : sz3 bx i j x ρ s = (bx x).map (sz4 i j ρ) := rfl
theorem e_sz4 {i j : Nat} {b : Bool} : sz4 i j ρ b = .nx (((ρ.set i .un).set j (.val (.bool b))).set i .un) := rfl
def rx1 : Ot → Option Rx := fun o => match o with
  | .rt d _ => some (.ok d)
  | .nx _ => some (.ok .none)
  | .ex x _ => some (.error x)
  | _ => none
theorem e_runX {n : Nat} {R : En → Option Ot} : runX n R ds = (R (start0 n ds)).bind rx1 := rfl
theorem e_rx_rt : rx1 (.rt d ρ) = some (.ok d) := rfl
theorem e_rx_nx : rx1 (.nx ρ) = some (.ok .none) := rfl
theorem e_rx_ex {x : Nat} : rx1 (.ex x ρ) = some (.error x) := rfl
def rq1 : Ot → Option D := fun o => match o with
  | .rt d _ => some d
  | .nx _ => some .none
  | _ => none
theorem e_runQ {n : Nat} {R : En → Option Ot} : runQ n R ds = (R (start0 n ds)).bind rq1 := rfl
theorem e_rq_rt : rq1 (.rt d ρ) = some d := rfl
theorem e_rq_nx : rq1 (.nx ρ) = some .none := rfl
def gx1 (n : Nat) (φ : List D → Option Rx) (ds : List D) (ρ : En) : Option (Rz D) := if ds.length = n then (φ ds).map (ofRx ρ) else none
theorem e_gCallX {n : Nat} {φ : List D → Option Rx} {gs : En → Option (Rz (List D))} : gCallX n φ gs ρ = (gs ρ).bind (qb1 (gx1 n φ)) := rfl
theorem e_gx1 {φ : List D → Option Rx} {x : D} : gx1 1 φ [x] ρ = (φ [x]).map (ofRx ρ) := rfl
theorem e_gx2 {φ : List D → Option Rx} {x y : D} : gx1 2 φ [x, y] ρ = (φ [x, y]).map (ofRx ρ) := rfl
theorem e_gx3 {φ : List D → Option Rx} {x y z : D} : gx1 3 φ [x, y, z] ρ = (φ [x, y, z]).map (ofRx ρ) := rfl
theorem e_ofRx_ok : ofRx ρ (.ok d) = .ok d ρ := rfl
theorem e_ofRx_er {x : Nat} : ofRx ρ (.error x) = .ex x ρ := rfl
def b2Q2 (f : D → D → Option D) (a b : D) (ρ : En) : Option (Rz D) := (f a b).map (up1 ρ)
def b2Q1 (f : D → D → Option D) (gb : En → Option (Rz D)) (a : D) (ρ : En) : Option (Rz D) := (gb ρ).bind (qb1 (b2Q2 f a))
theorem e_b2Q {f : D → D → Option D} {ga gb : En → Option (Rz D)} : b2Q f ga gb ρ = (ga ρ).bind (qb1 (b2Q1 f gb)) := rfl
theorem e_b2Q1 {f : D → D → Option D} {gb : En → Option (Rz D)} {a : D} : b2Q1 f gb a ρ = (gb ρ).bind (qb1 (b2Q2 f a)) := rfl
theorem e_b2Q2 {f : D → D → Option D} {a b : D} : b2Q2 f a b ρ = (f a b).map (up1 ρ) := rfl
def tq1 (d : D) (ρ : En) : Option (Rz Bool) := (gB d).map (up1 ρ)
theorem e_tBQ {g : En → Option (Rz D)} : tBQ g ρ = (g ρ).bind (qb1 tq1) := rfl
theorem e_tq1 : tq1 d ρ = (gB d).map (up1 ρ) := rfl
def tr1 (d : D) (ρ : En) : Option (Rz Bool) := (dTru d).map (up1 ρ)
theorem e_gTruQ {g : En → Option (Rz D)} : gTruQ g ρ = (g ρ).bind (qb1 tr1) := rfl
theorem e_tr1 : tr1 d ρ = (dTru d).map (up1 ρ) := rfl
def tn1 (b : Bool) (ρ : En) : Option (Rz Bool) := some (.ok (!b) ρ)
theorem e_tNotQ {g : En → Option (Rz Bool)} : tNotQ g ρ = (g ρ).bind (qb1 tn1) := rfl
theorem e_tn1 {b : Bool} : tn1 b ρ = some (.ok (!b) ρ) := rfl
def gq2 (d i : D) (ρ : En) : Option (Rz D) := (dIx (.val d) i).map (up1 ρ)
def gq1 (gi : En → Option (Rz D)) (d : D) (ρ : En) : Option (Rz D) := (gi ρ).bind (qb1 (gq2 d))
theorem e_gIxQ {ga gi : En → Option (Rz D)} : gIxQ ga gi ρ = (ga ρ).bind (qb1 (gq1 gi)) := rfl
theorem e_gq1 {gi : En → Option (Rz D)} : gq1 gi d ρ = (gi ρ).bind (qb1 (gq2 d)) := rfl
theorem e_gq2 {i : D} : gq2 d i ρ = (dIx (.val d) i).map (up1 ρ) := rfl
def ac2Q (d : D) (ds : List D) (ρ : En) : Option (Rz (List D)) := some (.ok (d :: ds) ρ)
def ac1Q (gs : En → Option (Rz (List D))) (d : D) (ρ : En) : Option (Rz (List D)) := (gs ρ).bind (qb1 (ac2Q d))
theorem e_aConsQ {g : En → Option (Rz D)} {gs : En → Option (Rz (List D))} : aConsQ g gs ρ = (g ρ).bind (qb1 (ac1Q gs)) := rfl
theorem e_ac1Q {gs : En → Option (Rz (List D))} : ac1Q gs d ρ = (gs ρ).bind (qb1 (ac2Q d)) := rfl
theorem e_ac2Q : ac2Q d ds ρ = some (.ok (d :: ds) ρ) := rfl
def tu1Q (ds : List D) (ρ : En) : Option (Rz D) := (tu1 ds).map (up1 ρ)
theorem e_gTupQ {gs : En → Option (Rz (List D))} : gTupQ gs ρ = (gs ρ).bind (qb1 tu1Q) := rfl
theorem e_tu1Q : tu1Q ds ρ = (tu1 ds).map (up1 ρ) := rfl
def ls1Q (ds : List D) (ρ : En) : Option (Rz D) := if ds.length ≤ sizeLine then some (.ok (.list ds) ρ) else none
theorem e_gLstQ {gs : En → Option (Rz (List D))} : gLstQ gs ρ = (gs ρ).bind (qb1 ls1Q) := by
  show (gs ρ).bind _ = _
  congr 1
  funext r
  cases r with
  | ok ds ρ' =>
    show Option.map _ (if _ then _ else _) = (if _ then _ else _)
    split <;> rfl
  | ex x ρ' => rfl
theorem e_ls1Q (h : ds.length ≤ 1000) : ls1Q ds ρ = some (.ok (.list ds) ρ) := if_pos (small_line h)
def cq1 (n : Nat) (φ : List D → Option D) (ds : List D) (ρ : En) : Option (Rz D) := (cl1 n φ ds).map (up1 ρ)
theorem e_gCallQ {n : Nat} {φ : List D → Option D} {gs : En → Option (Rz (List D))} : gCallQ n φ gs ρ = (gs ρ).bind (qb1 (cq1 n φ)) := rfl
theorem e_cq1 {n : Nat} {φ : List D → Option D} : cq1 n φ ds ρ = (cl1 n φ ds).map (up1 ρ) := rfl
def fn1Q (f : List D → Option D) (ds : List D) (ρ : En) : Option (Rz D) := (f ds).map (up1 ρ)
theorem e_gFnQ {f : List D → Option D} {gs : En → Option (Rz (List D))} : gFnQ f gs ρ = (gs ρ).bind (qb1 (fn1Q f)) := rfl
theorem e_fn1Q {f : List D → Option D} : fn1Q f ds ρ = (f ds).map (up1 ρ) := rfl
def ra1Q (ds : List D) (ρ : En) : Option (Rz (List D)) := (ra1 ds).map (up1 ρ)
theorem e_gRg1Q {gs : En → Option (Rz (List D))} : gRg1Q gs ρ = (gs ρ).bind (qb1 ra1Q) := rfl
theorem e_ra1Q : ra1Q ds ρ = (ra1 ds).map (up1 ρ) := rfl
theorem e_is_nn : dIs .none .none = some (.bool true) := rfl
theorem e_isnot_nn : dIsNot .none .none = some (.bool false) := rfl
end
/-! ### equations for passed lists, new lists, comprehensions with effects -/
section
variable {α β : Type} {ρ : En} {d : D} {ds ss : List D}
def it1Q (d : D) (ρ : En) : Option (Rz (List D)) := upc (match d with
  | .list ds => some ds
  | .tuple ds => some ds
  | .dict [(.list ds, .none)] => some ds
  | _ => none) ρ
theorem e_gItQ {g : En → Option (Rz D)} : gItQ g ρ = (g ρ).bind (qb1 it1Q) := rfl
theorem e_it1Q_l : it1Q (.list ds) ρ = some (.ok ds ρ) := rfl
theorem e_it1Q_t : it1Q (.tuple ds) ρ = some (.ok ds ρ) := rfl
theorem e_it1Q_s : it1Q (scrD ds) ρ = some (.ok ds ρ) := rfl
def fz1Q (ds : List D) (ρ : En) : Option (Rz D) := some (.ok (.list ds) ρ)
theorem e_gFzQ {g : En → Option (Rz (List D))} : gFzQ g ρ = (g ρ).bind (qb1 fz1Q) := rfl
theorem e_fz1Q : fz1Q ds ρ = some (.ok (.list ds) ρ) := rfl
def onN (i : Nat) (ds : List D) (ρ : En) : Option Ot := some (.nx (ρ.set i (.own ds)))
theorem e_sOwnN {i : Nat} {g : En → Option (Rz (List D))} : sOwnN i g ρ = (g ρ).bind (sb1 (onN i)) := rfl
theorem e_onN {i : Nat} : onN i ds ρ = some (.nx (ρ.set i (.own ds))) := rfl
def lq1 (b : D → En → Option En) (t : En → Option Bool) (g : En → Option (Rz D)) (L : List Nat) (ds : List D) (ρ : En) : Option (Rz (List D)) := if noOwnIn ρ L = true then (lcQ b t g L ds [] (wipeE ρ L)).bind fun r => if r.1.length ≤ sizeLine then some (.ok r.1 r.2) else none else none
theorem e_gLcQ {gi : En → Option (Rz (List D))} {b : D → En → Option En} {t : En → Option Bool} {g : En → Option (Rz D)} {L : List Nat} : gLcQ gi b t g L ρ = (gi ρ).bind (qb1 (lq1 b t g L)) := rfl
def cs1 (i n : Nat) (ψ : List D → List D → Option Rs2) (gs : En → Option (Rz (List D))) (ρ : En) (_ : List D) : Option (Rz D) := qb gs (fun ds ρ => (ownAt i ρ).bind fun ss => if ds.length = n then (ψ ss ds).map (ofRs i ρ) else none) ρ
def cs2 (i n : Nat) (ψ : List D → List D → Option Rs2) (ds : List D) (ρ : En) : Option (Rz D) := (ownAt i ρ).bind fun ss => if ds.length = n then (ψ ss ds).map (ofRs i ρ) else none
def cs3 (i n : Nat) (ψ : List D → List D → Option Rs2) (ds : List D) (ρ : En) (ss : List D) : Option (Rz D) := if ds.length = n then (ψ ss ds).map (ofRs i ρ) else none
theorem e_gCallS {i n : Nat} {ψ : List D → List D → Option Rs2} {gs : En → Option (Rz (List D))} : gCallS i n ψ gs ρ = (ownAt i ρ).bind (cs1 i n ψ gs ρ) := rfl
theorem e_cs1 {i n : Nat} {ψ : List D → List D → Option Rs2} {gs : En → Option (Rz (List D))} : cs1 i n ψ gs ρ ss = (gs ρ).bind (qb1 (cs2 i n ψ)) := rfl
theorem e_cs2 {i n : Nat} {ψ : List D → List D → Option Rs2} : cs2 i n ψ ds ρ = (ownAt i ρ).bind (cs3 i n ψ ds ρ) := rfl
theorem e_cs3 {i n : Nat} {ψ : List D → List D → Option Rs2} (h : ds.length = n) : cs3 i n ψ ds ρ ss = (ψ ss ds).map (ofRs i ρ) := if_pos h
theorem e_ofRs_ok {i : Nat} : ofRs i ρ (.ok d, ss) = .ok d (ρ.set i (.own ss)) := rfl
theorem e_ofRs_ex {i x : Nat} : ofRs i ρ (.error x, ss) = .ex x (ρ.set i (.own ss)) := rfl
def rs1 (o : Ot) : Option Rs2 := match o with
  | .rt d ρ => (ownAt 0 ρ).map fun ss' => (.ok d, ss')
  | .nx ρ => (ownAt 0 ρ).map fun ss' => (.ok .none, ss')
  | .ex x ρ => (ownAt 0 ρ).map fun ss' => (.error x, ss')
  | _ => none
theorem e_runS {n : Nat} {R : En → Option Ot} : runS n R ss ds = (R (startS n ss ds)).bind rs1 := rfl
theorem e_startS {n : Nat} : startS n ss ds = .own ss :: start0 n ds := rfl
def prOk (d : D) (ss : List D) : Rs2 := (.ok d, ss)
def prEx (x : Nat) (ss : List D) : Rs2 := (.error x, ss)
theorem e_rs1_rt : rs1 (.rt d ρ) = (ownAt 0 ρ).map (prOk d) := rfl
theorem e_rs1_nx : rs1 (.nx ρ) = (ownAt 0 ρ).map (prOk .none) := rfl
theorem e_rs1_ex {x : Nat} : rs1 (.ex x ρ) = (ownAt 0 ρ).map (prEx x) := rfl
theorem e_prOk : prOk d ss = (.ok d, ss) := rfl
theorem e_prEx {x : Nat} : prEx x ss = (.error x, ss) := rfl
def po1Q (i : Nat) (ρ : En) (ds : List D) : Option Ot := if ds = [] then none else some (.nx (ρ.set i (.own ds.dropLast)))
theorem e_sPopL {i : Nat} : sPopL i ρ = (ownAt i ρ).bind (po1Q i ρ) := rfl
def pu1Q (i : Nat) (ρ : En) (vd kd : Option D) (ds : List D) : Option Ot := vd.bind fun d => kd.bind fun k => (asInt k).bind fun k => (ixN ds.length k).map fun j => .nx (ρ.set i (.own (ds.set j d)))
theorem e_sPut {i : Nat} {gk g : En → Option D} : sPut i gk g ρ = (ownAt i ρ).bind (pu1Q i ρ (g ρ) (gk ρ)) := rfl
def nxO (i : Nat) (ρ : En) (ds : List D) (d : D) (j : Nat) : Ot := .nx (ρ.set i (.own (ds.set j d)))
theorem e_pu1Q {i : Nat} {k : Int} : pu1Q i ρ (some d) (some (.int k)) ds = (ixN ds.length k).map (nxO i ρ ds d) := rfl
theorem e_nxO {i j : Nat} : nxO i ρ ds d j = .nx (ρ.set i (.own (ds.set j d))) := rfl
def puQ (i : Nat) (gk : En → Option D) (d : D) (ρ : En) : Option Ot := (ownAt i ρ).bind fun ds => (gk ρ).bind fun k => (asInt k).bind fun k => (ixN ds.length k).map fun j => .nx (ρ.set i (.own (ds.set j d)))
theorem e_sPutQ {i : Nat} {gk : En → Option D} {g : En → Option (Rz D)} : sPutQ i gk g ρ = (g ρ).bind (sb1 (puQ i gk)) := rfl
theorem e_puQ {i : Nat} {gk : En → Option D} : puQ i gk d ρ = (ownAt i ρ).bind (pu1Q i ρ (some d) (gk ρ)) := rfl
def whq (tc : En → Option (Rz Bool)) (R : En → Option Ot) (m : Nat) (k : Bool) (ρ1 : En) : Option Ot := if k = true then (R ρ1).bind fun o => match o with
    | .nx ρ2 => whileQ tc R m ρ2
    | .ct ρ2 => whileQ tc R m ρ2
    | .bk ρ2 => some (.nx ρ2)
    | .rt d ρ2 => some (.rt d ρ2)
    | .ex x ρ2 => some (.ex x ρ2)
    else some (.nx ρ1)
theorem e_sWhile {fuel : En → Nat} {tc : En → Option (Rz Bool)} {R : En → Option Ot} : sWhile fuel tc R ρ = whileQ tc R (fuel ρ) ρ := rfl
theorem whileQ_succ {tc : En → Option (Rz Bool)} {R : En → Option Ot} {m : Nat} : whileQ tc R (m + 1) ρ = (tc ρ).bind (sb1 (whq tc R m)) := rfl
theorem e_whq_f {tc : En → Option (Rz Bool)} {R : En → Option Ot} {m : Nat} : whq tc R m false ρ = some (.nx ρ) := rfl
def sau1 (i : Nat) (ρ : En) (f : D → D → Option D) (x : Option D) (a : D) : Option Ot := x.bind fun b => (f a b).map fun d => .nx (ρ.set i (.val d))
def nxV (i : Nat) (ρ : En) (d : D) : Ot := .nx (ρ.set i (.val d))
theorem e_sAug {i : Nat} {f : D → D → Option D} {g : En → Option D} : sAug i f g ρ = (vVar i ρ).bind (sau1 i ρ f (g ρ)) := rfl
theorem e_sau1 {i : Nat} {f : D → D → Option D} {x y : D} : sau1 i ρ f (some y) x = (f x y).map (nxV i ρ) := rfl
theorem e_nxV {i : Nat} : nxV i ρ d = .nx (ρ.set i (.val d)) := rfl
def ad1Q (gb : En → Option (Rz D)) (d : D) (ρ : En) : Option (Rz D) := match d with
  | .bool true => gb ρ
  | .bool false => some (.ok (.bool false) ρ)
  | _ => none
theorem e_gAndQ {ga gb : En → Option (Rz D)} : gAndQ ga gb ρ = (ga ρ).bind (qb1 (ad1Q gb)) := rfl
theorem e_ad1Q_t {gb : En → Option (Rz D)} : ad1Q gb (.bool true) ρ = gb ρ := rfl
theorem e_ad1Q_f {gb : En → Option (Rz D)} : ad1Q gb (.bool false) ρ = some (.ok (.bool false) ρ) := rfl
def or1Q (gb : En → Option (Rz D)) (d : D) (ρ : En) : Option (Rz D) := match d with
  | .bool true => some (.ok (.bool true) ρ)
  | .bool false => gb ρ
  | _ => none
theorem e_gOrQ {ga gb : En → Option (Rz D)} : gOrQ ga gb ρ = (ga ρ).bind (qb1 (or1Q gb)) := rfl
theorem e_or1Q_t {gb : En → Option (Rz D)} : or1Q gb (.bool true) ρ = some (.ok (.bool true) ρ) := rfl
theorem e_or1Q_f {gb : En → Option (Rz D)} : or1Q gb (.bool false) ρ = gb ρ := rfl
def nr1 (r : Rs) : Option On := match r with
  | .new ds => some (.rn ds)
  | _ => none
theorem e_nRet {g : En → Option Rs} : nRet g ρ = (g ρ).bind nr1 := rfl
theorem e_nr1 : nr1 (.new ds) = some (.rn ds) := rfl
def ns1 (R2 : En → Option On) (o : Out) : Option On := match o with
  | .nx ρ' => R2 ρ'
  | _ => none
theorem e_nSeq {R1 : En → Option Out} {R2 : En → Option On} : nSeq R1 R2 ρ = (R1 ρ).bind (ns1 R2) := rfl
theorem e_ns1 {R2 : En → Option On} : ns1 R2 (.nx ρ) = R2 ρ := rfl
def cn1 (n : Nat) (φ : List D → Option (List D)) (ds : List D) (ρ : En) : Option (Rz (List D)) := upc (if ds.length = n then φ ds else none) ρ
theorem e_gCallN {n : Nat} {φ : List D → Option (List D)} {gs : En → Option (Rz (List D))} : gCallN n φ gs ρ = (gs ρ).bind (qb1 (cn1 n φ)) := rfl
def okL (ρ : En) (ds : List D) : Rz (List D) := .ok ds ρ
theorem e_cn1 {n : Nat} {φ : List D → Option (List D)} (h : ds.length = n) : cn1 n φ ds ρ = (φ ds).map (okL ρ) := by
  unfold cn1
  rw [if_pos h]
  rfl
theorem e_okL : okL ρ ds = .ok ds ρ := rfl
def pa1Q (i : Nat) (gk : En → Option (Rz D)) (ρ : En) (_ : List D) : Option (Rz D) := qb gk (fun kd ρ => (ownAt i ρ).bind fun ds => (asInt kd).bind fun k => if i63 k then (seqIndex? k ds.length).bind fun j => (ds[j]?).map fun d => .ok d (ρ.set i (.own (ds.eraseIdx j))) else none) ρ
def pa2Q (i : Nat) (kd : D) (ρ : En) : Option (Rz D) := (ownAt i ρ).bind fun ds => (asInt kd).bind fun k => if i63 k then (seqIndex? k ds.length).bind fun j => (ds[j]?).map fun d => .ok d (ρ.set i (.own (ds.eraseIdx j))) else none
def pa3Q (i : Nat) (kd : D) (ρ : En) (ds : List D) : Option (Rz D) := (asInt kd).bind fun k => if i63 k then (seqIndex? k ds.length).bind fun j => (ds[j]?).map fun d => .ok d (ρ.set i (.own (ds.eraseIdx j))) else none
theorem e_gPopAt {i : Nat} {gk : En → Option (Rz D)} : gPopAt i gk ρ = (ownAt i ρ).bind (pa1Q i gk ρ) := rfl
theorem e_pa1Q {i : Nat} {gk : En → Option (Rz D)} : pa1Q i gk ρ ds = (gk ρ).bind (qb1 (pa2Q i)) := rfl
theorem e_pa2Q {i : Nat} : pa2Q i d ρ = (ownAt i ρ).bind (pa3Q i d ρ) := rfl
theorem seqIndex_nat {j n : Nat} (hl : j < n) : seqIndex? (j : Int) n = some j := by
  unfold seqIndex?
  simp only [show ¬ ((j : Int) < 0) by omega, if_false]
  rw [if_pos (by simp; omega)]
  simp
theorem e_pa3Q {i j : Nat} {k : Int} (hk : k = j) (hj : i63 k) (h : ds[j]? = some d) : pa3Q i (.int k) ρ ds = some (.ok d (ρ.set i (.own (ds.eraseIdx j)))) := by
  unfold pa3Q
  rw [show asInt (.int k) = some k from rfl, Option.bind_some, if_pos hj, hk, seqIndex_nat (List.getElem?_eq_some_iff.mp h).1, Option.bind_some, h, Option.map_some]
def lrg (d : D) : Option Rs := match d with
  | .int n => if 0 ≤ n ∧ n ≤ 1000000 then some (.new (ratD n.toNat)) else none
  | _ => none
theorem e_gListRg {g : En → Option D} : gListRg g ρ = (g ρ).bind lrg := rfl
theorem e_lrg {n : Int} (h : 0 ≤ n ∧ n ≤ 1000000) : lrg (.int n) = some (.new (ratD n.toNat)) := if_pos h
/-! ### equations for texts, repr -/
def ms1 (f : Str → List D → Option D) (gs : En → Option (List D)) (ρ : En) (d : D) : Option D := (gs ρ).bind fun ds => match d with
  | .str a => f a ds
  | _ => none
def ms2 (f : Str → List D → Option D) (d : D) (ds : List D) : Option D := match d with
  | .str a => f a ds
  | _ => none
theorem e_gMs {f : Str → List D → Option D} {g : En → Option D} {gs : En → Option (List D)} : gMs f g gs ρ = (g ρ).bind (ms1 f gs ρ) := rfl
theorem e_ms1 {f : Str → List D → Option D} {gs : En → Option (List D)} : ms1 f gs ρ d = (gs ρ).bind (ms2 f d) := rfl
theorem e_ms2 {f : Str → List D → Option D} {a : Str} : ms2 f (.str a) ds = f a ds := rfl
def newS (ys : List Str) : Rs := .new (ys.map PyData.str)
def ml1 (f : Str → List D → Option (List Str)) (gs : En → Option (List D)) (ρ : En) (d : D) : Option Rs := (gs ρ).bind fun ds => match d with
  | .str a => (f a ds).map fun ys => .new (ys.map PyData.str)
  | _ => none
def ml2 (f : Str → List D → Option (List Str)) (d : D) (ds : List D) : Option Rs := match d with
  | .str a => (f a ds).map fun ys => .new (ys.map PyData.str)
  | _ => none
theorem e_gMl {f : Str → List D → Option (List Str)} {g : En → Option D} {gs : En → Option (List D)} : gMl f g gs ρ = (g ρ).bind (ml1 f gs ρ) := rfl
theorem e_ml1 {f : Str → List D → Option (List Str)} {gs : En → Option (List D)} : ml1 f gs ρ d = (gs ρ).bind (ml2 f d) := rfl
theorem e_ml2 {f : Str → List D → Option (List Str)} {a : Str} : ml2 f (.str a) ds = (f a ds).map newS := rfl
theorem e_newS {ys : List Str} : newS ys = .new (ys.map PyData.str) := rfl
theorem e_gJs {gs : List (En → Option D)} : gJs gs ρ = (jsL gs Str.empty ρ).map PyData.str := rfl
def js1 (gs : List (En → Option D)) (acc : Str) (ρ : En) (d : D) : Option Str := match d with
  | .str y => if (acc ++ y).length ≤ sizeLine then jsL gs (acc ++ y) ρ else none
  | _ => none
theorem e_jsL_nil {acc : Str} : jsL [] acc ρ = some acc := rfl
theorem e_jsL_cons {g : En → Option D} {gs : List (En → Option D)} {acc : Str} : jsL (g :: gs) acc ρ = (g ρ).bind (js1 gs acc ρ) := rfl
theorem e_js1 {gs : List (En → Option D)} {acc y : Str} (h : (acc ++ y).length ≤ sizeLine) : js1 gs acc ρ (.str y) = jsL gs (acc ++ y) ρ := if_pos h
def itS (d : D) : Option (List D) := match d with
  | .str z => some (signs z)
  | .list ds => some ds
  | .tuple ds => some ds
  | .dict [(.list ds, .none)] => some ds
  | _ => none
theorem e_gItemsS {g : En → Option D} : gItemsS g ρ = (g ρ).bind itS := rfl
theorem e_itS_s {z : Str} : itS (.str z) = some (signs z) := rfl
theorem e_itS_l : itS (.list ds) = some ds := rfl
theorem e_itS_t : itS (.tuple ds) = some ds := rfl
theorem e_itS_x : itS (scrD ds) = some ds := rfl
theorem e_mFind1 {a b : Str} : mFind a [.str b] = some (.int (Txt.find a b)) := rfl
theorem e_mFind2 {a b : Str} {i : Int} : mFind a [.str b, .int i] = some (.int (Txt.find3 a b i)) := rfl
theorem e_mStarts1 {a b : Str} : mStarts a [.str b] = some (.bool (Txt.startswith a b)) := rfl
theorem e_mStarts2 {a b : Str} {i : Int} : mStarts a [.str b, .int i] = some (.bool (Txt.startswith3 a b i)) := rfl
theorem e_mIsdigit {a : Str} : mIsdigit a [] = some (.bool (Txt.isdigit a)) := rfl
theorem e_dIn_s {i j : Str} : dIn (.str i) (.str j) = some (.bool (isIn j i)) := rfl
theorem e_dNotIn_s {i j : Str} : dNotIn (.str i) (.str j) = some (.bool (!isIn j i)) := rfl
theorem e_dTuple_n : dTuple (.new ds) = some (.val (.tuple ds)) := rfl
theorem e_dTuple_l : dTuple (.val (.list ds)) = some (.val (.tuple ds)) := rfl
theorem e_dTuple_t : dTuple (.val (.tuple ds)) = some (.val (.tuple ds)) := rfl
theorem e_dStr {n : Int} (h : n.natAbs.log2 < 1920) : dStr (.val (.int n)) = some (.val (.str (Str.ofString (toString n)))) := if_pos h
theorem e_dFmt_i {n : Int} (h : n.natAbs.log2 < 1920) : dFmt (.int n) = some (.str (Str.ofString (toString n))) := if_pos h
theorem e_dFmt_s {y : Str} (h : y.length ≤ sizeLine) : dFmt (.str y) = some (.str y) := if_pos h
theorem e_gDict0 : gDict0 ρ = some (.dict []) := rfl
theorem e_maxL {n : Int} {ns : List Int} : dMaxL (.val (.list ((n :: ns).map PyData.int))) = some (.val (.int (ns.foldl max n))) := by
  show (intsOf ((n :: ns).map PyData.int)).bind _ = _
  rw [intsOf_map]
  rfl
theorem e_maxLn {n : Int} {ns : List Int} : dMaxL (.new ((n :: ns).map PyData.int)) = some (.val (.int (ns.foldl max n))) := e_maxL
theorem e_minL {n : Int} {ns : List Int} : dMinL (.val (.list ((n :: ns).map PyData.int))) = some (.val (.int (ns.foldl min n))) := by
  show (intsOf ((n :: ns).map PyData.int)).bind _ = _
  rw [intsOf_map]
  rfl
theorem e_minLn {n : Int} {ns : List Int} : dMinL (.new ((n :: ns).map PyData.int)) = some (.val (.int (ns.foldl min n))) := e_minL
def ixa (gk : En → Option D) (ρ : En) (l : D) : Option D := (gk ρ).bind fun d => match l with
  | .list ds => dIndex ds d
  | _ => none
def ixb (l d : D) : Option D := match l with
  | .list ds => dIndex ds d
  | _ => none
theorem e_gIndex {g gk : En → Option D} : gIndex g gk ρ = (g ρ).bind (ixa gk ρ) := rfl
theorem e_ixa {gk : En → Option D} {l : D} : ixa gk ρ l = (gk ρ).bind (ixb l) := rfl
theorem e_ixb : ixb (.list ds) d = dIndex ds d := rfl
def ex1 (i : Nat) (g : En → Option Rs) (ρ : En) (ds : List D) : Option Out := (g ρ).bind fun r => (lstN r).bind fun es => if ds.length + es.length ≤ sizeLine then some (.nx (ρ.set i (.own (ds ++ es)))) else none
def ex2 (i : Nat) (ρ : En) (ds : List D) (r : Rs) : Option Out := (lstN r).bind fun es => if ds.length + es.length ≤ sizeLine then some (.nx (ρ.set i (.own (ds ++ es)))) else none
theorem e_rExtL {i : Nat} {g : En → Option Rs} : rExtL i g ρ = (ownAt i ρ).bind (ex1 i g ρ) := rfl
theorem e_ex1L {i : Nat} {g : En → Option Rs} : ex1 i g ρ ds = (g ρ).bind (ex2 i ρ ds) := rfl
theorem e_ex2_v {i : Nat} {es : List D} (h : ds.length + es.length ≤ sizeLine) : ex2 i ρ ds (.val (.list es)) = some (.nx (ρ.set i (.own (ds ++ es)))) := if_pos h
theorem e_ex2_n {i : Nat} {es : List D} (h : ds.length + es.length ≤ sizeLine) : ex2 i ρ ds (.new es) = some (.nx (ρ.set i (.own (ds ++ es)))) := if_pos h
def exq1 (i : Nat) (g : En → Option Rs) (ρ : En) (ds : List D) : Option Ot := (g ρ).bind fun r => (lstN r).bind fun es => if ds.length + es.length ≤ sizeLine then some (.nx (ρ.set i (.own (ds ++ es)))) else none
def exq2 (i : Nat) (ρ : En) (ds : List D) (r : Rs) : Option Ot := (lstN r).bind fun es => if ds.length + es.length ≤ sizeLine then some (.nx (ρ.set i (.own (ds ++ es)))) else none
theorem e_sExtL {i : Nat} {g : En → Option Rs} : sExtL i g ρ = (ownAt i ρ).bind (exq1 i g ρ) := rfl
theorem e_exq1 {i : Nat} {g : En → Option Rs} : exq1 i g ρ ds = (g ρ).bind (exq2 i ρ ds) := rfl
theorem e_exq2_v {i : Nat} {es : List D} (h : ds.length + es.length ≤ sizeLine) : exq2 i ρ ds (.val (.list es)) = some (.nx (ρ.set i (.own (ds ++ es)))) := if_pos h
theorem e_exq2_n {i : Nat} {es : List D} (h : ds.length + es.length ≤ sizeLine) : exq2 i ρ ds (.new es) = some (.nx (ρ.set i (.own (ds ++ es)))) := if_pos h
/-- what repr gives -/
theorem dRepr_of {r : Rs} {d : D} (e : asD r = some d) (h1 : noDict d = true) (h2 : isSeq d = true) (h3 : d.showable = true) (h4 : d.hasDict = false) (h5 : d.depth ≤ 150) (h6 : d.shown.length ≤ sizeLine) : dRepr r = some (.val (.str d.shown)) := by
  unfold dRepr
  rw [e, Option.bind_some, if_pos ⟨h1, h2, h3, h4, h5, h6⟩]
end
theorem forQ_inv {α : Type} {enc : α → D} {b : D → En → Option En} {R : En → Option Ot} (P : List α → En → Prop) (xs : List α)
    (h : ∀ pre x post, xs = pre ++ x :: post → ∀ ρ, P pre ρ → ∃ ρ', ((b (enc x) ρ).bind R = some (.nx ρ') ∨ (b (enc x) ρ).bind R = some (.ct ρ')) ∧ P (pre ++ [x]) ρ') :
    ∀ (post pre : List α), xs = pre ++ post → ∀ ρ, P pre ρ → ∃ ρ', forQ b R (post.map enc) ρ = some (.nx ρ') ∧ P xs ρ'
  | [], pre, e, ρ, hp => ⟨ρ, rfl, by rw [e, List.append_nil]; exact hp⟩
  | x :: post, pre, e, ρ, hp => by
    obtain ⟨ρ1, h1, hp1⟩ := h pre x post e ρ hp
    obtain ⟨ρ', h2, hp2⟩ := forQ_inv P xs h post (pre ++ [x]) (by rw [e]; simp) ρ1 hp1
    refine ⟨ρ', ?_, hp2⟩
    rw [List.map_cons, forQ_cons]
    rcases h1 with h1 | h1 <;> rw [h1] <;> exact h2
theorem forQ_of {α : Type} {enc : α → D} {b : D → En → Option En} {R : En → Option Ot} {xs : List α} {ρ : En} {F : Option Ot} (hF : forQ b R (xs.map enc) ρ = F) (P : List α → En → Prop) (h0 : P [] ρ)
    (h : ∀ pre x post, xs = pre ++ x :: post → ∀ ρ, P pre ρ → ∃ ρ', ((b (enc x) ρ).bind R = some (.nx ρ') ∨ (b (enc x) ρ).bind R = some (.ct ρ')) ∧ P (pre ++ [x]) ρ') :
    ∃ ρ', F = some (.nx ρ') ∧ P xs ρ' := by
  subst hF
  exact forQ_inv P xs h xs [] rfl ρ h0
end Pu

namespace Pu
open PySem PySem.Spec PyProof PyProof.Rows L2
variable [FnTab]
section
variable {X : Cx} {a b c e : Expr} {es : List Expr} {pos : Pos} {ga gb gc : En → Option D}
/-! ### two comparisons, the middle asked once -/
def dCh (f' : D → D → Option D) (gc : En → Option D) (ρ : En) (b : D) : D → Option D
  | .bool true => (gc ρ).bind fun c => f' b c
  | .bool false => some (.bool false)
  | _ => none
def gCh (f f' : D → D → Option D) (ga gb gc : En → Option D) : En → Option D := fun ρ => (ga ρ).bind fun a => (gb ρ).bind fun b => (f a b).bind fun r => dCh f' gc ρ b r
theorem tCh_pv {K : PySem.W.Frag} {f f' : D → D → Option D} {σ : L2.St} {H : Hp} {Q : VK} (h : tPv K (gCh f f' ga gb gc) σ H Q) : tChain (rPv2 K f) (rPv2 K f') (tPv K ga) (tPv K gb) (tPv K gc) σ H Q := by
  obtain ⟨H0, ρ, Hf, d, S, e, q⟩ := h
  obtain ⟨u, ea, e⟩ := Option.bind_eq_some_iff.mp e
  obtain ⟨v, eb, e⟩ := Option.bind_eq_some_iff.mp e
  obtain ⟨r, ef, e⟩ := Option.bind_eq_some_iff.mp e
  refine ⟨H0, ρ, Hf, u, S, ea, fun x Hf1 H1 x1 r1 => ⟨H0, ρ, Hf1, v, S.ext x1, eb, fun y Hf2 H2 x2 r2 => ⟨Hf2, u, v, r, x2.sub, r1.mono x2.fro, r2, ef, fun z Hf3 H3 x3 r3 => ?_⟩⟩⟩
  have x123 := x1.trans (x2.trans x3)
  unfold dCh at e
  split at e
  · refine ⟨true, r3.bl_inv, ?_⟩
    rw [if_pos rfl]
    obtain ⟨w, ec, e2⟩ := Option.bind_eq_some_iff.mp e
    exact ⟨H0, ρ, Hf3, w, S.ext x123, ec, fun t Hf4 H4 x4 r4 => ⟨Hf4, v, w, d, x4.sub, (r2.mono x3.fro).mono x4.fro, r4, e2, fun o Hf5 H5 x5 r5 => q o Hf5 H5 (x123.trans (x4.trans x5)) r5⟩⟩
  · cases e
    refine ⟨false, r3.bl_inv, ?_⟩
    rw [if_neg Bool.false_ne_true]
    exact q _ Hf3 H3 x123 (.bl false)
  · cases e
theorem pv_chain {op op' : CmpOp} {f f' : D → D → Option D} (ho : OpR X (compareOp op) (rPv2 X.K f)) (ho' : OpR X (compareOp op') (rPv2 X.K f')) (ha : PE X a (tPv X.K ga)) (hb : PE X b (tPv X.K gb)) (hc : PE X c (tPv X.K gc))
    (hm : lastMarks [op, op'] [b, c] = false := by with_unfolding_all rfl) : PE X (.Compare a [op, op'] [b, c] pos) (tPv X.K (gCh f f' ga gb gc)) :=
  PE.weaken (pe_chain ho ho' ha hb hc hm) fun _ _ _ h => tCh_pv h
theorem pt_chain2 {op op' : CmpOp} {f f' : D → D → Option D} (ho : OpR X (compareOp op) (rPv2 X.K f)) (ho' : OpR X (compareOp op') (rPv2 X.K f')) (ha : PE X a (tPv X.K ga)) (hb : PE X b (tPv X.K gb)) (hc : PE X c (tPv X.K gc))
    (hm : lastMarks [op, op'] [b, c] = false := by with_unfolding_all rfl) : PT X (.Compare a [op, op'] [b, c] pos) (tPt X.K (tB (gCh f f' ga gb gc))) :=
  PT.weaken (pt_chain ho ho' ha hb hc hm) fun _ _ _ h => tCh_pv (tPt_of h)
theorem e_ch {f f' : D → D → Option D} {ρ : En} : gCh f f' ga gb gc ρ = (ga ρ).bind fun a => (gb ρ).bind fun b => (f a b).bind fun r => dCh f' gc ρ b r := rfl
theorem e_ch_t {f' : D → D → Option D} {ρ : En} {b : D} : dCh f' gc ρ b (.bool true) = (gc ρ).bind fun c => f' b c := rfl
theorem e_ch_f {f' : D → D → Option D} {ρ : En} {b : D} : dCh f' gc ρ b (.bool false) = some (.bool false) := rfl
/-! ### a module's function: factorial -/
def dFac : List D → Option D
  | [.int n] => if 0 ≤ n ∧ n ≤ 20000 then some (.int (Builtin.Math.factorialNat n.toNat : Nat)) else none
  | _ => none
theorem dFac_inv {ds : List D} {d : D} (h : dFac ds = some d) : ∃ n : Int, ds = [.int n] ∧ 0 ≤ n ∧ n ≤ 20000 ∧ d = .int (Builtin.Math.factorialNat n.toNat : Nat) := by
  unfold dFac at h
  split at h
  · split at h
    · rename_i hn
      cases h
      exact ⟨_, rfl, hn.1, hn.2, rfl⟩
    · cases h
  · cases h
theorem cr_fac : CallR X (.builtin "math.factorial") (rPc X.K dFac) := by
  intro pins s σ H vs us Q I r h
  obtain ⟨Hf, ds, d, sm, rs, ef, q⟩ := h
  obtain ⟨n, rfl, n0, n1, rfl⟩ := dFac_inv ef
  cases rs with
  | cons r1 r2 =>
    cases r2
    cases r1.int_inv
    obtain ⟨u, rfl, ru⟩ := r.one
    obtain ⟨t, rfl⟩ := ru
    exact PySem.W.mc_factorial n0 n1 fun _ => ⟨.int _, H, I.tok _, ⟨_, rfl⟩, q _ Hf H (.refl sm) (.int _)⟩
theorem pv_callM {id : String} {f : List D → Option D} {x : Str} {p : Pos} {gs : En → Option (List D)} (hc : CallR X (.builtin id) (rPc X.K f)) (hg : Gl X x) (hm : X.mg x = some (.builtin id)) (ha : PA X (e :: es) (tPa X.K gs))
    (hdb : (x == ("__debug__" : Str)) = false := by decide) (he : starEach (e :: es) X.env = (false, eval e X.env) :: starEach es X.env := by rfl) (hpl : (backTo pos (starEach es X.env)).any (·.1) = false := by rfl) : PE X (.Call (.Name x p) (e :: es) [] pos) (tPv X.K (gFn f gs)) :=
  PE.weaken (pe_callBfun hc hg hm ha hdb he hpl) fun _ _ _ h => tCB_pv h
theorem e_fac {n : Int} (h0 : 0 ≤ n) (h1 : n ≤ 20000) : dFac [.int n] = some (.int (Builtin.Math.factorialNat n.toNat : Nat)) := by
  unfold dFac
  exact if_pos ⟨h0, h1⟩
/-! ### a turn of while -/
section
variable {ρ : En} {d : D} {tc : En → Option (Rz Bool)} {R : En → Option Ot} {m : Nat}
def wq2 (tc : En → Option (Rz Bool)) (R : En → Option Ot) (m : Nat) : Ot → Option Ot := fun o => match o with
  | .nx ρ2 => whileQ tc R m ρ2
  | .ct ρ2 => whileQ tc R m ρ2
  | .bk ρ2 => some (.nx ρ2)
  | .rt d ρ2 => some (.rt d ρ2)
  | .ex x ρ2 => some (.ex x ρ2)
theorem e_whq_t : whq tc R m true ρ = (R ρ).bind (wq2 tc R m) := by
  unfold whq
  rw [if_pos rfl]
  congr 1
theorem e_wq2_nx : wq2 tc R m (.nx ρ) = whileQ tc R m ρ := rfl
theorem e_wq2_ct : wq2 tc R m (.ct ρ) = whileQ tc R m ρ := rfl
theorem e_wq2_bk : wq2 tc R m (.bk ρ) = some (.nx ρ) := rfl
theorem e_wq2_rt : wq2 tc R m (.rt d ρ) = some (.rt d ρ) := rfl
theorem e_wq2_ex {x : Nat} : wq2 tc R m (.ex x ρ) = some (.ex x ρ) := rfl
end
end
end Pu

namespace Pu
open PySem PySem.Spec PyProof PyProof.Rows L2
open SX (S S_tl S_inj S_len S_cat S_beq_eq)
/-! ### texts as lists of codes: split with a limit -/
/-- the first n places of c, from i on -/
def plc (c : Nat) : Nat → Nat → List Nat → List Nat
  | _, _, [] => []
  | 0, _, _ :: _ => []
  | n + 1, i, x :: xs => if x = c then i :: plc c n (i + 1) xs else plc c (n + 1) (i + 1) xs
theorem plc_zero (c i : Nat) : ∀ l : List Nat, plc c 0 i l = []
  | [] => rfl
  | _ :: _ => rfl
theorem subAt_one {a : List Nat} {c i : Nat} (h : i < a.length) : Builtin.Str.subAt (S a) (S [c]) i = decide (a[i] = c) := by
  unfold Builtin.Str.subAt
  have e : (S a).cps.extract i (i + (S [c]).length) = #[a[i]] := by
    apply Array.toList_inj.mp
    rw [Array.toList_extract, List.extract_eq_take_drop]
    show (a.drop i).take (i + 1 - i) = [a[i]]
    rw [show i + 1 - i = 1 by omega, List.drop_eq_getElem_cons h]
    rfl
  rw [e]
  show (#[a[i]] == #[c]) = _
  by_cases hc : a[i] = c
  · rw [hc]; simp
  · rw [decide_eq_false hc]
    simpa using hc
theorem occ_run {a : List Nat} {c lim : Nat} : ∀ (m cur : Nat) (st : Array Nat × Nat), cur + m = a.length + 1 → st.2 ≤ cur → st.1.size ≤ lim →
    (forIn (List.range' cur m) st (StrLaws.occBody (S a) (S [c]) a.length lim)).run.fst.toList = st.1.toList ++ plc c (lim - st.1.size) cur (a.drop cur)
  | 0, cur, st, h, _, _ => by
    rw [List.drop_of_length_le (by omega)]
    show st.1.toList = st.1.toList ++ plc c _ _ []
    unfold plc
    rw [List.append_nil]
  | m + 1, cur, st, h, hf, hs => by
    rw [List.range'_succ, List.forIn_cons]
    unfold StrLaws.occBody
    by_cases hlen : cur < a.length
    · rw [List.drop_eq_getElem_cons hlen, subAt_one hlen]
      by_cases hs2 : st.1.size < lim
      · obtain ⟨n, hn⟩ : ∃ n, lim - st.1.size = n + 1 := ⟨lim - st.1.size - 1, by omega⟩
        rw [hn]
        unfold plc
        by_cases hc : a[cur] = c
        · rw [if_pos ⟨⟨⟨hs2, hf⟩, hlen⟩, decide_eq_true hc⟩, if_pos hc]
          refine (occ_run m (cur + 1) (st.1.push cur, cur + 1) (by omega) (Nat.le_refl _) (by rw [Array.size_push]; omega)).trans ?_
          rw [Array.toList_push, Array.size_push, show lim - (st.1.size + 1) = n by omega, List.append_assoc]
          rfl
        · rw [if_neg (fun z => hc (of_decide_eq_true z.2)), if_neg hc]
          refine (occ_run m (cur + 1) st (by omega) (by omega) hs).trans ?_
          rw [hn]
      · rw [if_neg (fun z => hs2 z.1.1.1)]
        refine (occ_run m (cur + 1) st (by omega) (by omega) hs).trans ?_
        rw [show lim - st.1.size = 0 by omega, plc_zero, plc_zero]
    · rw [if_neg (fun z => hlen z.1.2)]
      refine (occ_run m (cur + 1) st (by omega) (by omega) hs).trans ?_
      rw [List.drop_of_length_le (by omega), List.drop_of_length_le (by omega)]
      rfl
theorem occ_one (a : List Nat) (c lim : Nat) : Builtin.Str.occurrences (S a) (S [c]) 0 (S a).length lim = plc c lim 0 a := by
  rw [StrLaws.occ_eq, S_len]
  exact (occ_run (a.length + 1 - 0) 0 (#[], 0) (by omega) (Nat.le_refl _) (Nat.zero_le _)).trans (by simp)
/-- cut at the first n places of c; acc stands ahead -/
def splM (c : Nat) : Nat → List Nat → List Nat → List (List Nat)
  | _, acc, [] => [acc]
  | 0, acc, x :: xs => [acc ++ x :: xs]
  | n + 1, acc, x :: xs => if x = c then acc :: splM c n [] xs else splM c (n + 1) (acc ++ [x]) xs
theorem splM_zero (c : Nat) (acc : List Nat) : ∀ l : List Nat, splM c 0 acc l = [acc ++ l]
  | [] => by rw [List.append_nil]; rfl
  | _ :: _ => rfl
theorem sub_S (a : List Nat) (i j : Nat) : Builtin.Str.strSub (S a) i j = S ((a.take j).drop i) := by
  apply TL.ext_tl
  show ((S a).cps.extract i j).toList = _
  rw [Array.toList_extract, List.extract_eq_take_drop, ← List.drop_take]
theorem parts_run {a : List Nat} {c : Nat} : ∀ (t : List Nat) (n s i : Nat), a.drop i = t → s ≤ i → i ≤ a.length →
    ((s :: (plc c n i t).map (· + 1)).zip (plc c n i t ++ [a.length])).map (fun p => Builtin.Str.strSub (S a) p.1 p.2) = (splM c n ((a.take i).drop s) t).map S
  | [], n, s, i, e, hs, hi => by
    have hl : a.length ≤ i := List.drop_eq_nil_iff.mp e
    have : i = a.length := by omega
    subst this
    unfold plc splM
    simp only [List.map_nil, List.nil_append, List.zip_cons_cons, List.zip_nil_left, List.map_cons]
    rw [sub_S]
  | x :: t, 0, s, i, e, hs, hi => by
    unfold plc splM
    simp only [List.map_nil, List.nil_append, List.zip_cons_cons, List.zip_nil_left, List.map_cons]
    rw [sub_S, List.take_length, ← e]
    congr 2
    conv => lhs; rw [← List.take_append_drop i a]
    rw [List.drop_append, List.length_take, show s - min i a.length = 0 by omega, List.drop_zero]
  | x :: t, n + 1, s, i, e, hs, hi => by
    have hlt : i < a.length := by
      rcases Nat.lt_or_ge i a.length with h | h
      · exact h
      · rw [List.drop_of_length_le h] at e; cases e
    have e1 : a[i] = x ∧ a.drop (i + 1) = t := by
      rw [List.drop_eq_getElem_cons hlt] at e
      exact ⟨(List.cons.inj e).1, (List.cons.inj e).2⟩
    have e2 : (a.take (i + 1)).drop s = (a.take i).drop s ++ [x] := by
      rw [List.take_succ_eq_append_getElem hlt, List.drop_append_of_le_length (by rw [List.length_take]; omega), e1.1]
    unfold plc splM
    by_cases hc : x = c
    · rw [if_pos hc, if_pos hc]
      simp only [List.map_cons, List.cons_append, List.zip_cons_cons]
      rw [sub_S]
      congr 1
      refine (parts_run t n (i + 1) (i + 1) e1.2 (Nat.le_refl _) hlt).trans ?_
      rw [List.drop_of_length_le (by rw [List.length_take]; omega)]
    · rw [if_neg hc, if_neg hc]
      refine (parts_run t (n + 1) s (i + 1) e1.2 (by omega) hlt).trans ?_
      rw [e2]
theorem parts_S (a : List Nat) (c n : Nat) : Builtin.Str.partsBetween (S a) (plc c n 0 a) (S [c]).length = (splM c n [] a).map S := by
  unfold Builtin.Str.partsBetween
  have := parts_run (a := a) (c := c) a n 0 0 rfl (Nat.le_refl _) (Nat.zero_le _)
  rw [S_len]
  exact this
theorem plc_nil {c : Nat} : ∀ {l : List Nat} {n i : Nat}, plc c n i l = [] → ∀ acc, splM c n acc l = [acc ++ l]
  | [], n, i, _, acc => by rw [List.append_nil]; cases n <;> rfl
  | x :: l, 0, i, _, acc => rfl
  | x :: l, n + 1, i, h, acc => by
    unfold plc at h
    by_cases hc : x = c
    · rw [if_pos hc] at h; cases h
    · rw [if_neg hc] at h
      unfold splM
      rw [if_neg hc, plc_nil h, List.append_assoc]
      rfl
theorem splitMax_S (a : List Nat) {c : Nat} (hc : c < 256) {k : Int} (hk : 0 ≤ k) : Txt.splitMax (S a) (S [c]) k = (splM c k.toNat [] a).map S := by
  have hlim : limitOf (S a) k = k.toNat := by unfold limitOf; rw [if_neg (by omega)]
  unfold Txt.splitMax
  rw [hlim, occ_one]
  have hkind : Builtin.Str.strKind (S [c]) = 1 := by
    unfold Builtin.Str.strKind
    rw [if_pos (by simp [hc])]
  have hge : ¬ Builtin.Str.strKind (S a) < 1 := by
    unfold Builtin.Str.strKind
    split
    · omega
    · split <;> omega
  by_cases ha : a = []
  · subst ha
    have : splM c k.toNat [] [] = [[]] := by cases k.toNat <;> rfl
    rw [this]
    split
    · rfl
    · rename_i h1
      exact absurd (by simp [S_len]) h1
  · have h0 : (decide ((S a).length < (S [c]).length) || decide (Builtin.Str.strKind (S a) < Builtin.Str.strKind (S [c]))) = false := by
      rw [hkind, decide_eq_false hge, Bool.or_false, S_len, S_len]
      have : a.length ≠ 0 := fun z => ha (List.length_eq_zero_iff.mp z)
      simp; omega
    rw [h0, if_neg Bool.false_ne_true]
    split
    · rename_i h1
      rw [plc_nil (List.isEmpty_iff.mp h1)]
      rfl
    · exact parts_S a c k.toNat
theorem splM_word {c : Nat} (n : Nat) (r : List Nat) : ∀ (w acc : List Nat), c ∉ w → splM c (n + 1) acc (w ++ c :: r) = (acc ++ w) :: splM c n [] r
  | [], acc, _ => by
    rw [List.append_nil]
    show (if c = c then _ else _) = _
    rw [if_pos rfl]
  | x :: w, acc, h => by
    show (if x = c then _ else splM c (n + 1) (acc ++ [x]) (w ++ c :: r)) = _
    rw [if_neg (fun z => h (by rw [z]; exact List.mem_cons_self ..)), splM_word n r w _ (fun z => h (List.mem_cons_of_mem _ z)), List.append_assoc]
    rfl
theorem splM_free {c : Nat} : ∀ (n : Nat) (w acc : List Nat), c ∉ w → splM c n acc w = [acc ++ w]
  | n, [], acc, _ => by rw [List.append_nil]; cases n <;> rfl
  | 0, x :: w, acc, _ => rfl
  | n + 1, x :: w, acc, h => by
    show (if x = c then _ else splM c (n + 1) (acc ++ [x]) w) = _
    rw [if_neg (fun z => h (by rw [z]; exact List.mem_cons_self ..)), splM_free (n + 1) w _ (fun z => h (List.mem_cons_of_mem _ z)), List.append_assoc]
    rfl
theorem splM_len {c : Nat} : ∀ (n : Nat) (l acc : List Nat), (splM c n acc l).length ≤ n + 1
  | n, [], acc => by cases n <;> simp [splM]
  | 0, x :: l, acc => by simp [splM]
  | n + 1, x :: l, acc => by
    unfold splM
    split
    · rw [List.length_cons]; have := splM_len (c := c) n l []; omega
    · exact splM_len (n + 1) l _
theorem splM_mem {c : Nat} : ∀ (n : Nat) (l acc w : List Nat), w ∈ splM c n acc l → w.length ≤ acc.length + l.length
  | n, [], acc, w, h => by
    have : w = acc := by cases n <;> simpa [splM] using h
    rw [this]; simp
  | 0, x :: l, acc, w, h => by
    have : w = acc ++ x :: l := by simpa [splM] using h
    rw [this, List.length_append]; simp
  | n + 1, x :: l, acc, w, h => by
    unfold splM at h
    split at h
    · rcases List.mem_cons.mp h with rfl | h
      · omega
      · have := splM_mem n l [] w h
        simp at this ⊢; omega
    · have := splM_mem (n + 1) l _ w h
      simp at this ⊢; omega
theorem splM_ok {c : Nat} {p : Nat → Prop} : ∀ (n : Nat) (l acc : List Nat), (∀ x ∈ acc, p x) → (∀ x ∈ l, p x) → ∀ w ∈ splM c n acc l, ∀ x ∈ w, p x
  | n, [], acc, ha, _, w, h => by
    have : w = acc := by cases n <;> simpa [splM] using h
    rw [this]; exact ha
  | 0, y :: l, acc, ha, hl, w, h => by
    have : w = acc ++ y :: l := by simpa [splM] using h
    rw [this]
    intro x hx
    rcases List.mem_append.mp hx with h | h
    · exact ha x h
    · exact hl x h
  | n + 1, y :: l, acc, ha, hl, w, h => by
    unfold splM at h
    have hl2 : ∀ x ∈ l, p x := fun x hx => hl x (List.mem_cons_of_mem _ hx)
    split at h
    · rcases List.mem_cons.mp h with rfl | h
      · exact ha
      · exact splM_ok n l [] (by simp) hl2 w h
    · refine splM_ok (n + 1) l _ ?_ hl2 w h
      intro x hx
      rcases List.mem_append.mp hx with h | h
      · exact ha x h
      · rw [List.mem_singleton] at h
        rw [h]
        exact hl y (List.mem_cons_self ..)
/-! ### equations of texts, by their codes -/
def tx (l : List Nat) : Str := S l
theorem tx_len (a : List Nat) : (tx a).length = a.length := S_len a
theorem tx_cat (a b : List Nat) : tx a ++ tx b = tx (a ++ b) := S_cat a b
theorem tx_beq (a b : List Nat) : (tx a == tx b) = decide (a = b) := S_beq_eq
theorem tx_inj {a b : List Nat} (h : tx a = tx b) : a = b := S_inj h
def txD (l : List Nat) : D := .str (tx l)
section
variable [FnTab] {a b : List Nat} {c : Nat}
theorem small16 {n : Nat} (h : n ≤ 100000) : n ≤ sizeLine := Nat.le_trans h (by decide)
abbrev okT (a : List Nat) : Prop := ∀ c ∈ a, c < 1114112
theorem strOk_tx (h : okT a) : PyData.strOk (tx a) = true := by
  show a.toArray.all (fun c => decide (c < 0x110000)) = true
  rw [List.all_toArray, List.all_eq_true]
  intro c hc
  exact decide_eq_true (h c hc)
theorem e_eqS (ha : okT a) (hb : okT b) : dEq (.str (tx a)) (.str (tx b)) = some (.bool (decide (a = b))) := by
  rw [dEq_of (Shp.str (strOk_tx ha)) (Shp.str (strOk_tx hb)) (by omega) (by omega)]
  show some (PyData.bool (tx a == tx b)) = _
  rw [tx_beq]
theorem e_neS (ha : okT a) (hb : okT b) : dNe (.str (tx a)) (.str (tx b)) = some (.bool (!decide (a = b))) := by
  rw [dNe_of (Shp.str (strOk_tx ha)) (Shp.str (strOk_tx hb)) (by omega) (by omega)]
  show some (PyData.bool (!(tx a == tx b))) = _
  rw [tx_beq]
theorem e_inS : dIn (.str (tx [c])) (.str (tx b)) = some (.bool (decide (c ∈ b))) := by
  show some (PyData.bool (isIn (tx b) (tx [c]))) = _
  congr 2
  exact SX.in_one b c
theorem e_notInS : dNotIn (.str (tx [c])) (.str (tx b)) = some (.bool (!decide (c ∈ b))) := by
  show some (PyData.bool (!isIn (tx b) (tx [c]))) = _
  congr 3
  exact SX.in_one b c
def chD (c : Nat) : D := .str (tx [c])
theorem e_signsS : signs (tx a) = a.map chD := rfl
theorem e_itS : itS (.str (tx a)) = some (a.map chD) := rfl
theorem e_chD : chD c = .str (tx [c]) := rfl
theorem e_ixS {i : Int} (h : a.length ≤ 100000) : dIx (.val (.str (tx a))) (.int i) = (atI a i).map chD := by
  show (if (tx a).length ≤ sizeLine then (atI a i).map chD else none) = _
  rw [if_pos (by rw [tx_len]; exact small16 h)]
theorem e_ixS0 (h : a.length ≤ 100000) : dIx (.val (.str (tx (c :: a)))) (.int 0) = some (.str (tx [c])) := by
  show (if (tx (c :: a)).length ≤ sizeLine then (atI (c :: a) 0).map chD else none) = _
  rw [if_pos (by rw [tx_len, List.length_cons]; exact Nat.le_trans (Nat.add_le_add_right h 1) (by decide)), show atI (c :: a) 0 = some c from atI_nat (j := 0) rfl]
  rfl
theorem e_addS (h : a.length + b.length ≤ 100000) : dAdd (.str (tx a)) (.str (tx b)) = some (.str (tx (a ++ b))) := by
  show (if (tx a).length + (tx b).length ≤ sizeLine then some (PyData.str (tx a ++ tx b)) else none) = _
  rw [tx_len, tx_len, if_pos (small16 h), tx_cat]
theorem e_lenS (h : a.length ≤ 100000) : dLen (.val (.str (tx a))) = some (.val (.int (a.length : Nat))) := by
  show (if (tx a).length ≤ sizeLine then some (Rs.val (.int ((tx a).length : Nat))) else none) = _
  rw [tx_len, if_pos (small16 h)]
theorem e_truS (h : a.length ≤ 100000) : dTru (.str (tx a)) = some (!a.isEmpty) := by
  show (if (tx a).length ≤ sizeLine then some (((tx a).length : Int) != 0) else none) = _
  rw [tx_len, if_pos (small16 h)]
  cases a with
  | nil => rfl
  | cons x a => simp; omega
theorem cut_S (lo hi : Option Int) : cutS (tx a) lo hi = Txt.slice (S a) lo hi := C8.cutS_slice _ _ _
theorem e_slS (h : a.length ≤ 100000) {lo hi : Option Int} : dSl (.val (.str (tx a))) lo hi = some (.val (.str (Txt.slice (S a) lo hi))) := by
  show (if (tx a).length ≤ sizeLine then some (Rs.val (.str (cutS (tx a) lo hi))) else none) = _
  rw [tx_len, if_pos (small16 h), cut_S]
theorem e_slS_to {i : Int} (h : a.length ≤ 100000) (hi : 0 ≤ i) : dSl (.val (.str (tx a))) none (some i) = some (.val (.str (tx (a.take i.toNat)))) := by
  rw [e_slS h, SX.slice_to hi]; rfl
theorem e_slS_from {i : Int} (h : a.length ≤ 100000) (hi : 0 ≤ i) : dSl (.val (.str (tx a))) (some i) none = some (.val (.str (tx (a.drop i.toNat)))) := by
  rw [e_slS h, SX.slice_from hi]; rfl
theorem cutS_L (lo hi : Option Int) : cutS (tx a) lo hi = tx (cutL a lo hi) := by
  show cutS (S a) lo hi = S (cutL a lo hi)
  unfold cutS cutL
  rw [S_len]
theorem e_slS_mid {i j : Int} (h : a.length ≤ 100000) (h0 : 0 ≤ i) (h1 : 0 ≤ j) : dSl (.val (.str (tx a))) (some i) (some j) = some (.val (.str (tx ((a.take j.toNat).drop i.toNat)))) := by
  show (if (tx a).length ≤ sizeLine then some (Rs.val (.str (cutS (tx a) (some i) (some j)))) else none) = _
  rw [tx_len, if_pos (small16 h), cutS_L]
  have := cut_mid a i.toNat j.toNat
  rw [Int.toNat_of_nonneg h0, Int.toNat_of_nonneg h1] at this
  rw [this]
theorem log_1920 {n : Int} (h : n.natAbs < 2 ^ 1000) : n.natAbs.log2 < 1920 := by
  by_cases h0 : n.natAbs = 0
  · rw [h0]; decide
  · exact (Nat.log2_lt h0).mpr (Nat.lt_of_lt_of_le h (Nat.pow_le_pow_right (by decide) (by decide)))
theorem big1000 : (1000000000000000000000000000000000000000000000000 : Nat) < 2 ^ 1000 := by decide +kernel
theorem e_strS {n : Int} (h0 : 0 ≤ n) (h : n ≤ 1000000000000000000000000000000000000000000000000) : dStr (.val (.int n)) = some (.val (.str (tx (TL.numL n.toNat)))) := by
  have hb := big1000
  generalize (1000000000000000000000000000000000000000000000000 : Nat) = B at *
  rw [e_dStr (log_1920 (by omega))]
  obtain ⟨m, rfl⟩ := Int.eq_ofNat_of_zero_le h0
  rw [Int.toNat_natCast, SX.num_S]; rfl
theorem e_fmtS {n : Int} (h0 : 0 ≤ n) (h : n ≤ 1000000000000000000000000000000000000000000000000) : dFmt (.int n) = some (.str (tx (TL.numL n.toNat))) := by
  have hb := big1000
  rw [e_dFmt_i (log_1920 (by omega))]
  obtain ⟨m, rfl⟩ := Int.eq_ofNat_of_zero_le h0
  rw [Int.toNat_natCast, SX.num_S]; rfl
theorem e_fmtT (h : a.length ≤ 100000) : dFmt (.str (tx a)) = some (.str (tx a)) := e_dFmt_s (by rw [tx_len]; exact small16 h)
def digs (a : List Nat) : Bool := a.all fun c => decide (48 ≤ c) && decide (c ≤ 57)
theorem e_intS (h : digs a = true) (hne : a ≠ []) (hl : a.length ≤ 640) : dIntS (.val (.str (tx a))) = some (.val (.int (NumText.digitsVal a : Nat))) := by
  show (if (tx a).length ≤ 640 then (intText? (tx a)).map (fun n => Rs.val (.int n)) else none) = _
  rw [tx_len, if_pos hl, show intText? (tx a) = _ from SX.int_S h hne (by omega)]
  rfl
theorem ixN_k {n : Nat} {k : Int} (h0 : 0 ≤ k) (h : k < (n : Nat)) : ixN n k = some k.toNat := by
  unfold ixN
  rw [if_pos h0, if_pos (by omega)]
theorem pu1_k {i : Nat} {ρ : En} {d : D} {ds : List D} {k : Int} (h0 : 0 ≤ k) (h : k < (ds.length : Nat)) : pu1 i ρ (some d) (some (.int k)) ds = some (.nx (ρ.set i (.own (ds.set k.toNat d)))) := by
  rw [e_pu1, ixN_k h0 h]; rfl
theorem at_k {α : Type} {ds : List α} {k : Int} (h0 : 0 ≤ k) (h : k < (ds.length : Nat)) : atI ds k = ds[k.toNat]? := by
  unfold atI
  rw [ixN_k h0 h]; rfl
theorem e_mulS_i {x y : Int} : dMulS (.int x) (.int y) = dMul (.int x) (.int y) := rfl
theorem e_intS_i {n : Int} : dIntS (.val (.int n)) = dInt (.val (.int n)) := rfl
theorem strsOf_tx : ∀ ys : List (List Nat), strsOf (ys.map txD) = some (ys.map tx)
  | [] => rfl
  | y :: ys => by
    have := strsOf_tx ys
    show (strsOf (PyData.str (tx y) :: ys.map txD)) = _
    unfold strsOf
    rw [this]; rfl
theorem e_joinS (ys : List (List Nat)) (h : (ys.map (·.length)).sum + ys.length * a.length ≤ 100000) : mJoin (tx a) [.list (ys.map txD)] = some (.str (tx (TL.joinL a ys))) := by
  show ((strsOf (ys.map txD)).bind fun zs => if (zs.map (·.length)).sum + zs.length * (tx a).length ≤ 16777216 then some (PyData.str (Txt.join (tx a) zs)) else none) = _
  rw [strsOf_tx, Option.bind_some, List.map_map, List.length_map, tx_len]
  rw [show ((fun x : Str => x.length) ∘ tx) = fun l => l.length from funext fun l => tx_len l, if_pos (Nat.le_trans h (by decide))]
  congr 2
  exact SX.join_S a ys
theorem e_splitMaxS {k : Int} (hc : c < 256) (h0 : 0 ≤ k) (hk : k < 1000000) (h : a.length ≤ 100000) : mSplit (tx a) [.str (tx [c]), .int k] = some ((splM c k.toNat [] a).map tx) := by
  have hz : a.length + 2 ≤ sizeLine := Nat.le_trans (Nat.add_le_add_right h 2) (by decide)
  show (if ((tx [c]).length == 0) = false ∧ -(2 ^ 63) ≤ k ∧ k < 2 ^ 63 ∧ (tx a).length + 2 ≤ sizeLine then some (Txt.splitMax (tx a) (tx [c]) k) else none) = _
  rw [if_pos ⟨rfl, by omega, by omega, by rw [tx_len]; exact hz⟩]
  congr 1
  exact splitMax_S a hc h0
theorem e_newTx (ys : List (List Nat)) : newS (ys.map tx) = .new (ys.map txD) := by
  rw [e_newS, List.map_map]; rfl
theorem e_js1S {gs : List (En → Option D)} {ρ : En} (h : a.length + b.length ≤ 100000) : js1 gs (tx a) ρ (.str (tx b)) = jsL gs (tx (a ++ b)) ρ := by
  rw [e_js1 (by rw [tx_cat, tx_len, List.length_append]; exact small16 h), tx_cat]
theorem e_empty : Str.empty = tx [] := rfl
theorem repS_tx (n : Nat) : repS (tx a) n = tx (List.replicate n a).flatten := by
  apply TL.ext_tl
  unfold repS
  show ((List.replicate n (tx a).cps).foldl (· ++ ·) #[]).toList = (List.replicate n a).flatten
  have key : ∀ (n : Nat) (acc : Array Nat), ((List.replicate n a.toArray).foldl (· ++ ·) acc).toList = acc.toList ++ (List.replicate n a).flatten := by
    intro n
    induction n with
    | zero => intro acc; simp
    | succ n ih => intro acc; rw [List.replicate_succ, List.foldl_cons, ih, List.replicate_succ, List.flatten_cons]; simp
  exact (key n #[]).trans (by simp)
theorem flat_rep1 (n c : Nat) : (List.replicate n [c]).flatten = List.replicate n c := by
  induction n with
  | zero => rfl
  | succ n ih => rw [List.replicate_succ, List.flatten_cons, ih, List.replicate_succ]; rfl
theorem e_repS1 {n : Int} (hn : 2 ≤ n) (hm : n ≤ 100000) : dMulS (.str (tx [c])) (.int n) = some (.str (tx (List.replicate n.toNat c))) := by
  show (if 2 ≤ n ∧ n ≤ 100000 ∧ 1 ≤ (tx [c]).length ∧ (tx [c]).length ≤ 100 then some (PyData.str (repS (tx [c]) n.toNat)) else none) = _
  rw [tx_len, if_pos ⟨hn, hm, by simp, by simp⟩, repS_tx, flat_rep1]
theorem e_repS {n : Int} (hn : 2 ≤ n) (hm : n ≤ 100000) (h1 : 1 ≤ a.length) (h2 : a.length ≤ 100) : dMulS (.str (tx a)) (.int n) = some (.str (tx (List.replicate n.toNat a).flatten)) := by
  show (if 2 ≤ n ∧ n ≤ 100000 ∧ 1 ≤ (tx a).length ∧ (tx a).length ≤ 100 then some (PyData.str (repS (tx a) n.toNat)) else none) = _
  rw [tx_len, if_pos ⟨hn, hm, h1, h2⟩, repS_tx]
end
end Pu

namespace Pu
open PySem PySem.Spec PyProof PyProof.Rows L2
/-! ### == of texts, whatever their codes -/
def dEqT : D → D → Option D
  | .str x, .str y => some (.bool (decide (x = y)))
  | a, b => dEq a b
def dNeT : D → D → Option D
  | .str x, .str y => some (.bool (!decide (x = y)))
  | a, b => dNe a b
section
variable [FnTab] {X : Cx}
theorem str_dec (x y : Str) : decide (V.str x = V.str y) = decide (x = y) := by
  by_cases h : x = y
  · rw [h]; simp
  · rw [decide_eq_false h, decide_eq_false (fun z => h (V.str.inj z))]
theorem or_eqT (hu : X.A.units + 64 < cLine) : OpR X (compareOp .Eq) (rPv2 X.K dEqT) := OpR.weaken (OpR.or op_eq (or_eq hu)) fun x y H Q ⟨Hf, a, b, d, s, ra, rb, e, q⟩ => by
  unfold dEqT at e
  split at e
  · cases e
    obtain rfl := ra.str_inv
    obtain rfl := rb.str_inv
    exact .inl ⟨rfl, by rw [str_dec]; exact q _ Hf H (.refl s) (.bl _)⟩
  · exact .inr ⟨Hf, a, b, d, s, ra, rb, e, q⟩
theorem or_neT (hu : X.A.units + 64 < cLine) : OpR X (compareOp .NotEq) (rPv2 X.K dNeT) := OpR.weaken (OpR.or op_ne (or_ne hu)) fun x y H Q ⟨Hf, a, b, d, s, ra, rb, e, q⟩ => by
  unfold dNeT at e
  split at e
  · cases e
    obtain rfl := ra.str_inv
    obtain rfl := rb.str_inv
    exact .inl ⟨rfl, by rw [str_dec]; exact q _ Hf H (.refl s) (.bl _)⟩
  · exact .inr ⟨Hf, a, b, d, s, ra, rb, e, q⟩
end
theorem e_eqT_s {x y : Str} : dEqT (.str x) (.str y) = some (.bool (decide (x = y))) := rfl
theorem e_neT_s {x y : Str} : dNeT (.str x) (.str y) = some (.bool (!decide (x = y))) := rfl
theorem e_eqT_i {x y : Int} : dEqT (.int x) (.int y) = dEq (.int x) (.int y) := rfl
theorem e_neT_i {x y : Int} : dNeT (.int x) (.int y) = dNe (.int x) (.int y) := rfl
theorem e_tx_eq {a b : List Nat} : (tx a = tx b) = (a = b) := by
  rw [eq_iff_iff]
  exact ⟨tx_inj, fun h => by rw [h]⟩
/-! ### repr: how long its text may be -/
mutual
def rok : D → Bool
  | .none => true
  | .bool _ => true
  | .int i => decide (i.natAbs.log2 < 1920)
  | .str x => x.cps.toList.all fun c => decide (c < 16 ^ 8)
  | .list xs => roks xs
  | .tuple xs => roks xs
  | .dict _ => false
def roks : List D → Bool
  | [] => true
  | x :: xs => rok x && roks xs
end
mutual
def wtR : D → Nat
  | .none => 5
  | .bool _ => 5
  | .int _ => 600
  | .str x => 10 * x.length + 2
  | .list xs => wtRs xs + 3
  | .tuple xs => wtRs xs + 3
  | .dict _ => 0
def wtRs : List D → Nat
  | [] => 0
  | x :: xs => wtR x + 2 + wtRs xs
end
mutual
theorem rok_noDict : ∀ d : D, rok d = true → noDict d = true ∧ d.showable = true ∧ d.hasDict = false
  | .none, _ => ⟨rfl, by simp only [PyData.showable], by simp only [PyData.hasDict]⟩
  | .bool _, _ => ⟨rfl, by simp only [PyData.showable], by simp only [PyData.hasDict]⟩
  | .int _, h => ⟨rfl, by simp only [PyData.showable]; simpa [rok] using h, by simp only [PyData.hasDict]⟩
  | .str _, _ => ⟨rfl, by simp only [PyData.showable], by simp only [PyData.hasDict]⟩
  | .list xs, h => by
    have := roks_noDict xs (by simpa [rok] using h)
    exact ⟨by simpa [noDict] using this.1, by simpa only [PyData.showable] using this.2.1, by simpa only [PyData.hasDict] using this.2.2⟩
  | .tuple xs, h => by
    have := roks_noDict xs (by simpa [rok] using h)
    exact ⟨by simpa [noDict] using this.1, by simpa only [PyData.showable] using this.2.1, by simpa only [PyData.hasDict] using this.2.2⟩
  | .dict _, h => by simp [rok] at h
theorem roks_noDict : ∀ xs : List D, roks xs = true → noDicts xs = true ∧ PyData.showableAll xs = true ∧ PyData.hasDictAll xs = false
  | [], _ => ⟨rfl, by simp only [PyData.showableAll], by simp only [PyData.hasDictAll]⟩
  | x :: xs, h => by
    have h' : rok x = true ∧ roks xs = true := by simpa [roks] using h
    have a := rok_noDict x h'.1
    have b := roks_noDict xs h'.2
    exact ⟨by simp [noDicts, a.1, b.1], by simp [PyData.showableAll, a.2.1, b.2.1], by simp [PyData.hasDictAll, a.2.2, b.2.2]⟩
end
theorem pow600 : 2 ^ 1920 < 10 ^ 590 := by decide +kernel
theorem int_len {i : Int} (h : i.natAbs.log2 < 1920) : (PyData.shown (.int i)).length ≤ 600 := by
  have hb : i.natAbs < 10 ^ 590 := by
    by_cases h0 : i.natAbs = 0
    · rw [h0]; exact Nat.lt_of_le_of_lt (Nat.zero_le _) pow600
    · exact Nat.lt_trans ((Nat.log2_lt h0).mp h) pow600
  show (Str.ofString (toString i)).length ≤ 600
  rw [TL.len_tl]
  cases i with
  | ofNat n =>
    have : TL.tl (Str.ofString (toString ((n : Nat) : Int))) = TL.numL n := TL.tl_num n
    show (TL.tl (Str.ofString (toString ((n : Nat) : Int)))).length ≤ 600
    rw [this]
    exact Nat.le_trans (TL.numL_len (k := 590) (by decide) hb) (by decide)
  | negSucc n =>
    have hb2 : n + 1 < 10 ^ 590 := hb
    have := TL.numL_len (k := 590) (by decide) hb2
    have e1 : TL.tl (Str.ofString (toString (((n + 1 : Nat)) : Int))) = TL.numL (n + 1) := TL.tl_num (n + 1)
    rw [TL.tl_ofString] at e1
    have e2 : (toString (((n + 1 : Nat)) : Int)).toList.length ≤ 590 := by
      have := congrArg List.length e1
      rw [List.length_map] at this
      omega
    rw [TL.tl_ofString, List.length_map]
    have e : toString (Int.negSucc n) = "-" ++ toString (((n + 1 : Nat)) : Int) := rfl
    rw [e, String.toList_append, List.length_append]
    have : ("-" : String).toList.length = 1 := by decide
    omega
mutual
theorem shown_wt : ∀ d : D, rok d = true → d.shown.length ≤ wtR d
  | .none, _ => by decide +kernel
  | .bool b, _ => by cases b <;> decide +kernel
  | .int i, h => int_len (by simpa [rok] using h)
  | .str x, h => by
    have hx : ∀ c ∈ x.cps.toList, c < 16 ^ 8 := by simpa only [rok, List.all_eq_true, decide_eq_true_eq] using h
    have e := StrLaws.reprText_len x hx
    simpa only [PyData.shown, wtR] using e
  | .list xs, h => by
    have h1 := shown_wts xs (by simpa [rok] using h)
    have h2 := listText_len_le (PyData.shownAll xs)
    simp only [PyData.shown, wtR]
    omega
  | .tuple xs, h => by
    have h1 := shown_wts xs (by simpa [rok] using h)
    have h2 := tupleText_len_le (PyData.shownAll xs)
    simp only [PyData.shown, wtR]
    omega
  | .dict _, h => by simp [rok] at h
theorem shown_wts : ∀ xs : List D, roks xs = true → ((PyData.shownAll xs).map (·.length)).sum + 2 * (PyData.shownAll xs).length ≤ wtRs xs
  | [], _ => by simp [PyData.shownAll, wtRs]
  | x :: xs, h => by
    have h' : rok x = true ∧ roks xs = true := by simpa [roks] using h
    have a := shown_wt x h'.1
    have b := shown_wts xs h'.2
    simp only [PyData.shownAll, wtRs, List.map_cons, List.sum_cons, List.length_cons]
    omega
end
theorem dRepr_ok [FnTab] {r : Rs} {d : D} (e : asD r = some d) (hs : isSeq d = true) (h : rok d = true) (hd : d.depth ≤ 150) (hw : wtR d ≤ 16000000) : dRepr r = some (.val (.str d.shown)) := by
  have a := rok_noDict d h
  exact dRepr_of e a.1 hs a.2.1 a.2.2 hd (Nat.le_trans (shown_wt d h) (Nat.le_trans hw (by decide)))
/-! ### enumerate -/
def enq (ds : List D) : Option (List D) := match ds with
  | [.list xs] => some (enumD 0 xs)
  | _ => none
theorem e_gEnum [FnTab] {gs : En → Option (List D)} {ρ : En} : gEnum gs ρ = (gs ρ).bind enq := rfl
theorem e_enq {xs : List D} : enq [.list xs] = some (enumD 0 xs) := rfl
theorem enumD_map {α : Type} (f : α → D) : ∀ (k : Nat) (xs : List α), enumD k (xs.map f) = (xs.zipIdx k).map fun p => .tuple [.int (p.2 : Nat), f p.1]
  | _, [] => rfl
  | k, x :: xs => by
    show _ :: enumD (k + 1) (xs.map f) = _
    rw [enumD_map f (k + 1) xs]
    rfl
theorem range_zip (f : Nat → D) (n : Nat) : enumD 0 ((List.range n).map f) = (List.range n).map fun i : Nat => .tuple [.int i, f i] := by
  rw [enumD_map]
  have : (List.range n).zipIdx 0 = (List.range n).map fun i => (i, i) := by
    apply List.ext_getElem
    · simp
    · intro i h1 h2
      simp
  rw [this, List.map_map]
  rfl
/-! ### freezing, by a name -/
def frzR {β : Type} (i : Nat) (R : En → Option β) : En → Option β := fun ρ => R (frz i ρ)
theorem e_frzR {β : Type} {i : Nat} {R : En → Option β} {ρ : En} : frzR i R ρ = R (frz i ρ) := rfl
/-! ### equal to itself -/
mutual
theorem eqv_same : ∀ d : D, noDict d = true → PyData.eqv d d = true
  | .dict _, h => by simp [noDict] at h
  | .none, _ => rfl
  | .bool b, _ => by simp [PyData.eqv]
  | .int i, _ => by simp [PyData.eqv]
  | .str x, _ => by simp [PyData.eqv]
  | .list xs, h => by
    have := eqvs_same xs (by simpa [noDict] using h)
    simpa [PyData.eqv] using this
  | .tuple xs, h => by
    have := eqvs_same xs (by simpa [noDict] using h)
    simpa [PyData.eqv] using this
theorem eqvs_same : ∀ xs : List D, noDicts xs = true → PyData.eqvAll xs xs = true
  | [], _ => rfl
  | x :: xs, h => by
    have h' : noDict x = true ∧ noDicts xs = true := by simpa [noDicts] using h
    simp [PyData.eqvAll, eqv_same x h'.1, eqvs_same xs h'.2]
end
theorem noDicts_of {xs : List D} (h : ∀ d ∈ xs, noDict d = true) : noDicts xs = true := by
  induction xs with
  | nil => rfl
  | cons x xs ih => simp [noDicts, h x (List.mem_cons_self ..), ih fun d hd => h d (List.mem_cons_of_mem _ hd)]
theorem noDict_list {xs : List D} (h : ∀ d ∈ xs, noDict d = true) : noDict (.list xs) = true := by
  rw [noDict]; exact noDicts_of h
theorem roks_of {xs : List D} (h : ∀ d ∈ xs, rok d = true) : roks xs = true := by
  induction xs with
  | nil => rfl
  | cons x xs ih => simp [roks, h x (List.mem_cons_self ..), ih fun d hd => h d (List.mem_cons_of_mem _ hd)]
theorem wtRs_of {xs : List D} {c : Nat} (h : ∀ d ∈ xs, wtR d ≤ c) : wtRs xs ≤ xs.length * (c + 2) := by
  induction xs with
  | nil => simp [wtRs]
  | cons x xs ih =>
    have a := h x (List.mem_cons_self ..)
    have b := ih fun d hd => h d (List.mem_cons_of_mem _ hd)
    rw [wtRs, List.length_cons, Nat.succ_mul]
    omega
theorem depths_of {xs : List D} {c : Nat} (h : ∀ d ∈ xs, d.depth ≤ c) : PyData.depthAll xs ≤ c := by
  induction xs with
  | nil => simp [PyData.depthAll]
  | cons x xs ih =>
    have a := h x (List.mem_cons_self ..)
    have b := ih fun d hd => h d (List.mem_cons_of_mem _ hd)
    rw [PyData.depthAll]
    omega
theorem rok_tx {a : List Nat} (h : okT a) : rok (.str (tx a)) = true := by
  show a.toArray.toList.all (fun c => decide (c < 16 ^ 8)) = true
  rw [List.all_eq_true]
  intro c hc
  have := h c hc
  exact decide_eq_true (Nat.lt_trans this (by decide))
theorem rok_int [FnTab] {i : Int} (h0 : -1000000000000000000000000000000000000000000 ≤ i) (h1 : i ≤ 1000000000000000000000000000000000000000000) : rok (.int i) = true := by
  have hb : (1000000000000000000000000000000000000000000 : Nat) < 2 ^ 1000 := by decide +kernel
  show decide (i.natAbs.log2 < 1920) = true
  exact decide_eq_true (log_1920 (by omega))
theorem wt_tx [FnTab] {a : List Nat} : wtR (.str (tx a)) = 10 * a.length + 2 := by rw [wtR, tx_len]
end Pu

namespace Pu
open PySem PySem.Spec PyProof PyProof.Rows L2
/-! ### sets of things that are told apart by a key, whatever the kind of the key -/
/-- what a set asks of its members -/
structure Ks (P : Program) (w : World) (K : Type) where
  is : Heap → K → Addr → Prop
  hs : K → Int
  dr : K → Nat
  one : ∀ {h x y a}, is h x a → is h y a → x = y
  stay : ∀ {h h' : Heap} {k a}, is h k a → (∀ o, h.get? a = some o → h'.get? a = some o) → is h' k a
  noset : ∀ {h : Heap} {k a o es ep t}, is h k a → h.get? a = some o → o.data = .set es ep t → False
  hashes : ∀ {A : Around} {E : Value → Shared → Prop} {s : Shared} {k a} {Q : Int → Shared → Prop}, A.units < cLine → is s.heap k a → Q (hs k) { s with toks := s.toks + dr k } → wpAny (model P w) A (pyHash (.ref a)) Q E s
  same : ∀ {A : Around} {E : Value → Shared → Prop} {s : Shared} {x y a b} {Q : Bool → Shared → Prop}, A.units < cLine → is s.heap x a → is s.heap y b → (∀ c, (c = true ↔ x = y) → Q c s) → wpAny (model P w) A (eqBool (.ref a) (.ref b)) Q E s
  hush : ∀ {A : Around} {E : Value → Shared → Prop} {s : Shared} {k a} {ys : List Value} {Q : Bool → Shared → Prop}, is s.heap k a → (∀ y ∈ ys, ∃ k' c, y = Value.ref c ∧ is s.heap k' c) → Q false s → wpAny (model P w) A (searchCouldBeSeen (.ref a) ys) Q E s
  byV : ∀ {A : Around} {E : Value → Shared → Prop} {s : Shared} {k a} {Q : Bool → Shared → Prop}, is s.heap k a → (∀ b, Q b s) → wpAny (model P w) A (hashByValue 8 (.ref a)) Q E s
section
variable {P : Program} {w : World} {K : Type} {κ : Ks P w K}
abbrev Mb (K : Type) := List (Addr × K)
abbrev hsL (κ : Ks P w K) (L : Mb K) : List Int := L.map fun p => κ.hs p.2
abbrev rwL (κ : Ks P w K) (L : Mb K) : List (Int × Value) := L.map fun p => (κ.hs p.2, Value.ref p.1)
/-- where the way of a hash stands after c steps -/
abbrev prb (t : SetTable) (h : Int) (c : Nat) : SetTable.Probe := nth t.mask (runAt t.mask (SetTable.bits h % (t.mask + 1)) (SetTable.bits h)) c
theorem prb_dummy (t : SetTable) (h : Int) (c : Nat) : (prb t h c).dummy = none := by
  have go : ∀ (n : Nat) (p : SetTable.Probe), p.dummy = none → (nth t.mask p n).dummy = none := fun n => by
    induction n with
    | zero => exact fun _ h => h
    | succ n ih => exact fun p hp => ih _ (by unfold adv; split <;> exact hp)
  exact go c _ rfl
/-- a probe from the c-th step on, in absolute steps -/
theorem probe_abs {t : SetTable} {hs : List Int} (T : TabOk t hs) (f : Nat → Int) (h : Int) {N c : Nat} (hc : c ≤ N) (few : N < 10 * SetTable.turns t.mask) (free : way t.mask h N ∉ t.place.toList) (full : ∀ k, k < N → way t.mask h k ∈ t.place.toList) :
    (∃ q i, c ≤ q ∧ q < N ∧ t.place.toList[i]? = some (way t.mask h q) ∧ f i = h ∧ (∀ q' i', c ≤ q' → q' < q → t.place.toList[i']? = some (way t.mask h q') → f i' ≠ h) ∧
      t.probe f h (prb t h c) = some (.candidate (way t.mask h q) i (prb t h (q + 1)))) ∨
    ((∀ q' i', c ≤ q' → q' < N → t.place.toList[i']? = some (way t.mask h q') → f i' ≠ h) ∧ t.probe f h (prb t h c) = some (.empty (way t.mask h N) none)) := by
  have mv : ∀ d, nth t.mask (prb t h c) d = prb t h (c + d) := fun d => (nth_add t.mask c _ d).symm
  have mj : ∀ d, (nth t.mask (prb t h c) d).j = way t.mask h (c + d) := fun d => by rw [mv]
  rcases go_spec t T.ris T.dm f h (10 * SetTable.turns t.mask) (N - c) (prb t h c) (prb_dummy t h c) (by omega) (fun d hd => by rw [mj]; exact full _ (by omega)) (by rw [mj, show c + (N - c) = N by omega]; exact free) with ⟨d, i, h1, h2, h3, h4, h5⟩ | ⟨h4, h5⟩
  · refine .inl ⟨c + d, i, by omega, by omega, by rw [h2, mj], h3, fun q' i' a b e => h4 (q' - c) i' (by omega) (by rw [mj, show c + (q' - c) = q' by omega]; exact e), ?_⟩
    show SetTable.probe.go t f h _ _ = _
    rw [h5, mj, mv, Nat.add_assoc]
  · refine .inr ⟨fun q' i' a b e => h4 (q' - c) i' (by omega) (by rw [mj, show c + (q' - c) = q' by omega]; exact e), ?_⟩
    show SetTable.probe.go t f h _ _ = _
    rw [h5, mj, show c + (N - c) = N by omega]
/-- the set at a has the members L -/
structure StU (κ : Ks P w K) (h : Heap) (a : Addr) (L : Mb K) (es : Array (Int × Value)) (ep : Nat) (t : SetTable) : Prop where
  ob : ∃ o, h.get? a = some o ∧ o.ExactSet ∧ o.data = .set es ep t
  rows : es.toList = rwL κ L
  tab : TabOk t (hsL κ L)
  nd : (L.map (·.2)).Nodup
  mem : ∀ p ∈ L, κ.is h p.2 p.1
  led : w.params.followText "set-order" = true ∨ t.led = true
  room : L.length * 5 < t.mask * 3
  few : L.length < 64
theorem rows_len {L : Mb K} {es : Array (Int × Value)} (h : es.toList = rwL κ L) : es.size = L.length := by simpa using congrArg List.length h
theorem rows_at {L : Mb K} {es : Array (Int × Value)} (h : es.toList = rwL κ L) {i : Nat} {p : Addr × K} (e : L[i]? = some p) : es[i]? = some (κ.hs p.2, Value.ref p.1) := by
  rw [← Array.getElem?_toList, h, List.getElem?_map, e]; rfl
variable {A : Around} {E : Value → Shared → Prop} {s : Shared} {a : Addr} {L : Mb K} {es : Array (Int × Value)} {ep : Nat} {t : SetTable}
theorem fits_of {L : Mb K} {es : Array (Int × Value)} {t : SetTable} (rows : es.toList = rwL κ L) (dm : t.dummies = #[]) (sz : t.place.size = L.length) (le : L.length ≤ t.mask) : t.fits es.size = true := by
  have := rows_len rows
  unfold SetTable.fits SetTable.fill
  rw [dm, Bool.and_eq_true, beq_iff_eq, decide_eq_true_eq]
  exact ⟨by omega, by simp only [List.size_toArray, List.length_nil]; omega⟩
theorem StU.fits (R : StU κ s.heap a L es ep t) : t.fits es.size = true :=
  fits_of R.rows R.tab.dm (by simpa using R.tab.sz) (by have := R.room; omega)
theorem no_way {m : Nat} (h : MaskOk m) {t : SetTable} (e : t.mask = m) : ¬ t.gaveWay = true := by
  unfold SetTable.gaveWay
  rw [e, mask_odd h]
  decide
/-- the search for something that is to be added, from step c on -/
theorem look_from (R : StU κ s.heap a L es ep t) {x : Addr} {k : K} (hx : κ.is s.heap k x) (hu : A.units < cLine) {N : Nat} (few : N < 10 * SetTable.turns t.mask) (free : way t.mask (κ.hs k) N ∉ t.place.toList)
    (full : ∀ c, c < N → way t.mask (κ.hs k) c ∈ t.place.toList) {Q : SetFound → Shared → Prop} (yes : k ∈ L.map (·.2) → Q (.there none) s) (no : k ∉ L.map (·.2) → Q (.free (way t.mask (κ.hs k) N) false) s) :
    ∀ (f c : Nat) (o : Option SetTable.Probe), o.getD (t.probeStart (κ.hs k)) = prb t (κ.hs k) c → c ≤ N → N < f + c →
      (∀ (i : Nat) p, L[i]? = some p → p.2 = k → ∃ c', c ≤ c' ∧ c' < N ∧ t.place.toList[i]? = some (way t.mask (κ.hs k) c')) →
      wpAny (model P w) A (setSearchFrom a (.ref x) (κ.hs k) true f o) Q E s := by
  obtain ⟨ob, hg, hex, hd⟩ := R.ob
  have at_ : ∀ (i : Nat) p, L[i]? = some p → (es[i]?.map (·.1)).getD 0 = κ.hs p.2 := fun i p e => by rw [rows_at R.rows e]; rfl
  intro f
  induction f with
  | zero => intro c o _ h1 h2; omega
  | succ f ih =>
    intro c o ho hc hf ahead
    rw [setSearchFrom_succ]
    refine wpAny_bind (wpAny_setState_of hg hd R.fits ?_)
    dsimp only
    refine wp_if_neg (no_way R.tab.mok rfl) ?_
    try refine wpAny_bind (wpAny_pure ?_)
    rw [ho]
    rcases probe_abs R.tab (fun i => (es[i]?.map (·.1)).getD 0) (κ.hs k) hc few free full with ⟨q, i, c1, c2, pl, hh, earlier, e⟩ | ⟨none_, e⟩
    · rw [e]
      dsimp only
      have il : i < L.length := by
        have h1 := (List.getElem?_eq_some_iff.mp pl).1
        have h2 := R.tab.sz
        simp only [Array.length_toList, List.length_map] at h1 h2
        omega
      obtain ⟨p, hp⟩ : ∃ p, L[i]? = some p := ⟨_, List.getElem?_eq_getElem il⟩
      have pm : p ∈ L := List.mem_of_getElem? hp
      have slot : t.slot (way t.mask (κ.hs k) q) = .live i := slot_live R.tab.ris pl
      have go : wpAny (model P w) A (searchRest a (.ref x) (κ.hs k) true f es t (way t.mask (κ.hs k) q) i (prb t (κ.hs k) (q + 1))) Q E s := by
        unfold searchRest
        rw [rows_at R.rows hp]
        refine wpAny_bind (wpAny_holding (κ.same hu (R.mem p pm) hx fun b hb => wpAny_bind (wpAny_setState_of hg hd R.fits ?_)))
        dsimp only
        by_cases eq : p.2 = k
        · refine wp_if_pos (by rw [hb.mpr eq]; rfl) (wpAny_pure (yes (List.mem_map.mpr ⟨p, pm, eq⟩)))
        · have bf : b = false := by cases b; rfl; exact absurd (hb.mp rfl) eq
          subst bf
          refine wp_if_neg (by decide) ?_
          try refine wpAny_bind (wpAny_pure ?_)
          rw [sameMem]
          dsimp only
          simp only [if_true, slot, rows_at R.rows hp]
          refine wpAny_bind (wpAny_isSame_ref_self (wpAny_bind (wpAny_pure ?_)))
          simp only [if_true]
          refine wp_if_neg (by decide) (ih (q + 1) _ rfl c2 (by omega) fun i0 p0 h0 k0 => ?_)
          obtain ⟨c', a1, a2, a3⟩ := ahead i0 p0 h0 k0
          refine ⟨c', ?_, a2, a3⟩
          rcases Nat.lt_trichotomy c' q with z | z | z
          · exact absurd ((at_ i0 p0 h0).trans (congrArg κ.hs k0)) (earlier c' i0 a1 z a3)
          · subst z
            have := slot_live R.tab.ris a3
            rw [slot] at this
            cases this
            rw [hp] at h0
            cases h0
            exact absurd k0 eq
          · exact z
      by_cases hl : t.led = true
      · refine wp_if_neg (by simp [hl]) ?_
        try refine wpAny_bind (wpAny_pure ?_)
        exact go
      · refine wp_if_pos (by simp [hl]) (wpAny_bind (κ.hush hx (fun y hy => ?_) ?_))
        · obtain ⟨e1, he, rfl⟩ := List.mem_map.mp hy
          have h1 : e1 ∈ es.toList := by
            have : e1 ∈ es ∧ e1.1 = κ.hs k := by simpa using he
            simpa using this.1
          rw [R.rows] at h1
          obtain ⟨p2, m2, rfl⟩ := List.mem_map.mp h1
          exact ⟨_, _, rfl, R.mem p2 m2⟩
        · refine wp_if_neg (by decide) ?_
          try refine wpAny_bind (wpAny_pure ?_)
          exact go
    · rw [e]
      refine wpAny_pure (no fun hm => ?_)
      obtain ⟨p0, m0, k0⟩ := List.mem_map.mp hm
      obtain ⟨i0, l0, g0⟩ := List.getElem_of_mem m0
      have h0 : L[i0]? = some p0 := by rw [List.getElem?_eq_getElem l0, g0]
      obtain ⟨c', a1, a2, a3⟩ := ahead i0 p0 h0 k0
      exact none_ c' i0 a1 a2 a3 ((at_ i0 p0 h0).trans (congrArg κ.hs k0))
theorem look (R : StU κ s.heap a L es ep t) {x : Addr} {k : K} (hx : κ.is s.heap k x) (hu : A.units < cLine) {Q : SetFound → Shared → Prop} (yes : k ∈ L.map (·.2) → Q (.there none) s)
    (no : ∀ N, k ∉ L.map (·.2) → way t.mask (κ.hs k) N ∉ t.place.toList → (∀ c, c < N → way t.mask (κ.hs k) c ∈ t.place.toList) → Q (.free (way t.mask (κ.hs k) N) false) s) :
    wpAny (model P w) A (setSearch a (.ref x) (κ.hs k) true) Q E s := by
  obtain ⟨N, few, free, full⟩ := R.tab.first (by have := R.room; simp only [List.length_map]; omega) (κ.hs k)
  have lt : N < 100000 := by
    have : SetTable.turns t.mask ≤ 142 := by
      unfold SetTable.turns
      rcases R.tab.mok with e | e | e <;> omega
    omega
  unfold setSearch
  refine look_from R hx hu few free full yes (fun h => no N h free full) 100000 0 none rfl (Nat.zero_le _) (by omega) fun i p hp hk => ?_
  have h1 := (List.getElem?_eq_some_iff.mp hp).1
  have h2 := R.tab.sz
  simp only [List.length_map] at h2
  have h3 : i < t.place.toList.length := by rw [Array.length_toList]; omega
  obtain ⟨c, c1, c2⟩ := R.tab.before (i := i) (j := t.place.toList[i]) free (by rw [List.getElem?_map, hp, ← hk]; rfl) (List.getElem?_eq_getElem h3)
  exact ⟨c, Nat.zero_le _, c1, by rw [c2]; exact List.getElem?_eq_getElem h3⟩
/-! ### one more member -/
/-- the table without its word on plain values -/
def dull (t : SetTable) : SetTable := { t with plain := false }
theorem tab_dull {t : SetTable} {hs : List Int} (T : TabOk t hs) : TabOk (dull t) hs := ⟨T.ris, T.dm, T.sz, T.mok, T.bd, T.reach⟩
theorem mem_stays {h h' : Heap} {k : K} {b a : Addr} {o : Obj} {es : Array (Int × Value)} {ep : Nat} {t : SetTable} (m : κ.is h k b) (hg : h.get? a = some o) (hd : o.data = .set es ep t) (sb : Heap.SameBut a h h') : κ.is h' k b :=
  κ.stay m fun u e => (sb.2 b fun z => κ.noset m (by rw [z]; exact hg) hd).trans e
/-- rows in another order -/
theorem rows_order {L : Mb K} {es : Array (Int × Value)} (hr : es.toList = rwL κ L) {ix : Array Nat} (pm : ix.toList.Perm (List.range L.length)) :
    ∃ L', (ix.filterMap (es[·]?)).toList = rwL κ L' ∧ L'.Perm L ∧ hsL κ L' = ix.toList.map fun i => (es.map (·.1)).getD i 0 := by
  refine ⟨ix.toList.filterMap (L[·]?), ?_, ?_, ?_⟩
  · have : ∀ l : List Nat, l.filterMap (fun i => es[i]?) = rwL κ (l.filterMap (L[·]?)) := fun l => by
      show _ = List.map _ _
      rw [List.map_filterMap]
      congr 1
      funext i
      rw [← Array.getElem?_toList, hr, List.getElem?_map]
    rw [Array.toList_filterMap]
    exact this _
  · refine (pm.filterMap _).trans (.of_eq ?_)
    apply List.ext_getElem?
    intro i
    have key : (List.range L.length).filterMap (L[·]?) = L := by
      have : ∀ n, n ≤ L.length → (List.range n).filterMap (L[·]?) = L.take n := fun n => by
        induction n with
        | zero => intro _; simp
        | succ n ih =>
          intro h
          rw [List.range_succ, List.filterMap_append, ih (by omega), List.take_succ, List.getElem?_eq_getElem h]
          simp [List.getElem?_eq_getElem h]
      rw [this _ (Nat.le_refl _), List.take_length]
    rw [key]
  · have small : ∀ i ∈ ix.toList, i < L.length := fun i hi => List.mem_range.mp (pm.mem_iff.mp hi)
    have : ∀ l : List Nat, (∀ i ∈ l, i < L.length) → hsL κ (l.filterMap (L[·]?)) = l.map fun i => (es.map (·.1)).getD i 0 := fun l => by
      induction l with
      | nil => intro _; rfl
      | cons i l ih =>
        intro h
        have hi := h i (by simp)
        rw [List.filterMap_cons_some (List.getElem?_eq_getElem hi), hsL, List.map_cons, List.map_cons]
        refine congr (congrArg List.cons ?_) (ih fun j hj => h j (List.mem_cons_of_mem _ hj))
        have := rows_at hr (List.getElem?_eq_getElem hi)
        simp [Array.getD_eq_getD_getElem?, this]
    exact this _ small
theorem relay_u {o : Obj} (hg : s.heap.get? a = some o) (hex : o.ExactSet) (hd : o.data = .set es ep t) (rows : es.toList = rwL κ L) (dm : t.dummies = #[]) (sz : t.place.size = L.length) (le : L.length ≤ t.mask)
    (nd : (L.map (·.2)).Nodup) (mem : ∀ p ∈ L, κ.is s.heap p.2 p.1) (led : w.params.followText "set-order" = true ∨ t.led = true) (few : L.length < 64) {g M : Nat} (hM : MaskOk M) (hg2 : SetTable.sizeAbove g = M + 1) (room : L.length * 5 < M * 3)
    {Q : Unit → Shared → Prop} (k : ∀ h' L' es' ep' t', Heap.SameBut a s.heap h' → StU κ h' a L' es' ep' t' → L'.Perm L → Q () { s with heap := h' }) : wpAny (model P w) A (setRelay a g) Q E s := by
  have ez := rows_len rows
  have M128 : M ≤ 127 := by rcases hM with e | e | e <;> omega
  obtain ⟨t', ix, e1, pm, T, em, el, _, _⟩ := relaid_ok t (hs := es.map (·.1)) (wanted := g) (M := M) (by rw [hg2]; rfl) hM (by rw [Array.size_map]; omega)
  rw [Array.size_map, ez] at pm
  obtain ⟨L', r1, r2, r3⟩ := rows_order (κ := κ) rows pm
  rw [← r3] at T
  have ez' := rows_len r1
  rw [setRelay_eq]
  refine wpAny_bind (wpAny_setState_of hg hd (fits_of rows dm sz le) ?_)
  dsimp only
  refine wp_if_neg (by rw [sizeLine_eq, hg2]; omega) ?_
  try refine wpAny_bind (wpAny_pure ?_)
  rw [e1]
  refine wpAny_bind ?_
  dsimp only
  refine wp_if_neg (by rw [ez', r2.length_eq, ez]; simp) ?_
  try refine wpAny_bind (wpAny_pure ?_)
  refine wpAny_pure (wpAny_storeSet_of hg hd ?_ (by rw [ez', r2.length_eq, sizeLine_eq]; omega))
  have sb : Heap.SameBut a s.heap (s.heap.update a (Obj.putSet (ix.filterMap (es[·]?)) t')) := Heap.SameBut.update ..
  refine k _ L' _ (ep + 1) t' sb ⟨⟨_, store_at hg hd, ⟨hex.1, hex.2.1, hex.2.2⟩, rfl⟩, r1, T, (r2.map (·.2)).nodup_iff.mpr nd, fun p hp => mem_stays (mem p (r2.mem_iff.mp hp)) hg hd sb, by rw [el]; exact led, by rw [r2.length_eq, em]; exact room, by rw [r2.length_eq]; exact few⟩ r2
theorem add_u (R : StU κ s.heap a L es ep t) {x : Addr} {k : K} (hx : κ.is s.heap k x) (hu : A.units < cLine) (few : L.length + 1 < 64) {Q : Bool → Shared → Prop}
    (q : ∀ b h' L' es' ep' t', Heap.SameBut a s.heap h' → StU κ h' a L' es' ep' t' → (k ∈ L.map (·.2) ∧ L' = L ∨ L'.Perm ((x, k) :: L)) → Q b { s with heap := h' }) :
    wpAny (model P w) A (setAddHashed a (.ref x) (κ.hs k)) Q E s := by
  obtain ⟨o, hg, hex, hd⟩ := R.ob
  have ez := rows_len R.rows
  have room := R.room
  unfold setAddHashed
  refine wpAny_holding ?_
  rw [show (100000 : Nat) = 99999 + 1 from rfl, setAddHashedIn_succ]
  refine wpAny_bind (wpAny_setState_of hg hd R.fits ?_)
  dsimp only
  refine wp_if_neg (by simp [byScan, Value.scannable]) ?_
  try refine wpAny_bind (wpAny_pure ?_)
  refine wpAny_bind (look R hx hu (fun hm => wpAny_pure (q false s.heap L es ep t (Heap.SameBut.refl a s.heap) R (.inl ⟨hm, rfl⟩))) fun N hm free full => ?_)
  dsimp only
  refine wpAny_bind (wpAny_setState_of hg hd R.fits ?_)
  dsimp only
  obtain ⟨p1, p2, p3, p4, p5, _, _, _, p9⟩ := R.tab.put free full
  generalize t.put (way t.mask (κ.hs k) N) = pt at p1 p3 p4 p5 p9 ⊢
  obtain ⟨t1, p⟩ := pt
  dsimp only at p1 p3 p4 p5 p9 ⊢
  have cont : ∀ b : Bool, wpAny (model P w) A (do
      storeSet a (SetTable.insertAt es p (κ.hs k, Value.ref x)) (if b = true then t1 else dull t1)
      if (!false && (if b = true then t1 else dull t1).tooFull) = true then setRelay a (SetTable.grown (es.size + 1))
      return true) Q E s := fun b => by
    obtain ⟨t2, e2⟩ : ∃ t2, t2 = (if b = true then t1 else dull t1) := ⟨_, rfl⟩
    rw [← e2]
    have m2 : t2.mask = t1.mask := by rw [e2]; cases b <;> rfl
    have d2 : t2.led = t1.led := by rw [e2]; cases b <;> rfl
    have f2 : t2.fill = t1.fill := by rw [e2]; cases b <;> rfl
    have T2 : TabOk t2 ((hsL κ L).take p ++ κ.hs k :: (hsL κ L).drop p) := by
      rw [p1, e2]
      cases b
      · exact tab_dull p3
      · exact p3
    have le : p ≤ L.length := by rw [p1]; simpa using p2
    have rows : (SetTable.insertAt es p (κ.hs k, Value.ref x)).toList = rwL κ (L.take p ++ (x, k) :: L.drop p) := by
      rw [SetTable.toList_insertAt, R.rows]
      simp [rwL]
    have hh : (hsL κ L).take p ++ κ.hs k :: (hsL κ L).drop p = hsL κ (L.take p ++ (x, k) :: L.drop p) := by simp [hsL]
    have pm := put_perm L p (x, k)
    rw [hh] at T2
    generalize L.take p ++ (x, k) :: L.drop p = L1 at rows pm T2
    generalize SetTable.insertAt es p (κ.hs k, Value.ref x) = es1 at rows ⊢
    have l1 : L1.length = L.length + 1 := pm.length_eq
    have z1 := rows_len rows
    refine wpAny_bind (wpAny_storeSet_of hg hd ?_ (by rw [z1, l1, sizeLine_eq]; omega))
    have sb : Heap.SameBut a s.heap (s.heap.update a (Obj.putSet es1 t2)) := Heap.SameBut.update ..
    have hg1 := store_at (es' := es1) (t' := t2) hg hd
    generalize s.heap.update a (Obj.putSet es1 t2) = h1 at sb hg1 ⊢
    have mem1 : ∀ p ∈ L1, κ.is h1 p.2 p.1 := fun p hp => by
      rcases List.mem_cons.mp (pm.mem_iff.mp hp) with rfl | hp
      · exact mem_stays hx hg hd sb
      · exact mem_stays (R.mem p hp) hg hd sb
    have nd1 : (L1.map (·.2)).Nodup := (pm.map (·.2)).nodup_iff.mpr (List.nodup_cons.mpr ⟨hm, R.nd⟩)
    have led1 : w.params.followText "set-order" = true ∨ t2.led = true := by rw [d2, p5]; exact R.led
    have mk2 : t2.mask = t.mask := m2.trans p4
    have full2 : t2.tooFull = true ↔ t.mask * 3 ≤ (L.length + 1) * 5 := by
      unfold SetTable.tooFull
      rw [decide_eq_true_eq, f2, p9, mk2, List.length_map]
    by_cases hf : t2.tooFull = true
    · have big := full2.mp hf
      refine wp_if_pos (by simp [hf]) ?_
      refine wpAny_bind ?_
      rw [ez]
      have go : ∀ M, MaskOk M → SetTable.sizeAbove (SetTable.grown (L.length + 1)) = M + 1 → (L.length + 1) * 5 < M * 3 → L.length + 1 ≤ t.mask →
          wpAny (model P w) A (setRelay a (SetTable.grown (L.length + 1))) (fun _ s' => wpAny (model P w) A (pure true) Q E s') E { s with heap := h1 } := fun M h1' h2' h3' h4' =>
        relay_u (s := { s with heap := h1 }) hg1 ⟨hex.1, hex.2.1, hex.2.2⟩ rfl rows T2.dm (by simpa using T2.sz) (by rw [l1, mk2]; exact h4') nd1 mem1 led1 (by rw [l1]; exact few) h1' h2' (by rw [l1]; exact h3') fun h2 L2 es2 ep2 t3 sb2 R2 pm2 =>
          wpAny_pure (q true h2 L2 es2 ep2 t3 (sb.trans sb2) R2 (.inr (pm2.trans pm)))
      rcases R.tab.mok with e | e | e
      · rw [e] at big room go
        have : L.length = 4 := by omega
        exact go 31 (.inr (.inl rfl)) (by rw [this, size_20]) (by omega) (by omega)
      · rw [e] at big room go
        have : L.length = 18 := by omega
        exact go 127 (.inr (.inr rfl)) (by rw [this, size_76]) (by omega) (by omega)
      · rw [e] at big
        omega
    · have small : ¬ t.mask * 3 ≤ (L.length + 1) * 5 := fun z => hf (full2.mpr z)
      refine wp_if_neg (by simp [hf]) ?_
      exact wpAny_pure (q true h1 L1 es1 (ep + 1) t2 sb ⟨⟨_, hg1, ⟨hex.1, hex.2.1, hex.2.2⟩, rfl⟩, rows, T2, nd1, mem1, led1, by rw [l1, mk2]; omega, by rw [l1]; exact few⟩ (.inr pm))
  by_cases hp : t1.plain = true
  · exact wp_if_pos hp (wpAny_bind (κ.byV hx fun b => cont b))
  · refine wp_if_neg hp ?_
    first | exact cont true | exact wpAny_bind (wpAny_pure (cont true))
/-! ### set(list) -/
/-- what the set has after the first i items -/
structure Upto (ks : Mb K) (i : Nat) (L : Mb K) : Prop where
  from_ : ∀ p ∈ L, p ∈ ks.take i
  all : ∀ p ∈ ks.take i, p.2 ∈ L.map (·.2)
  len : L.length ≤ i
theorem Upto.next {ks L L' : Mb K} {i : Nat} {p : Addr × K} (g : Upto ks i L) (h : ks[i]? = some p) (d : p.2 ∈ L.map (·.2) ∧ L' = L ∨ L'.Perm (p :: L)) : Upto ks (i + 1) L' := by
  have tk : ks.take (i + 1) = ks.take i ++ [p] := by rw [List.take_succ, h]; rfl
  rcases d with ⟨m, rfl⟩ | pm
  · refine ⟨fun q hq => ?_, fun q hq => ?_, Nat.le_succ_of_le g.len⟩
    · rw [tk]; exact List.mem_append_left _ (g.from_ q hq)
    · rw [tk] at hq
      rcases List.mem_append.mp hq with h | h
      · exact g.all q h
      · rw [List.mem_singleton.mp h]; exact m
  · refine ⟨fun q hq => ?_, fun q hq => ?_, by rw [pm.length_eq]; exact Nat.succ_le_succ g.len⟩
    · rw [tk]
      rcases List.mem_cons.mp (pm.mem_iff.mp hq) with rfl | h
      · simp
      · exact List.mem_append_left _ (g.from_ q h)
    · rw [(pm.map (·.2)).mem_iff]
      rw [tk] at hq
      rcases List.mem_append.mp hq with h | h
      · exact List.mem_cons_of_mem _ (g.all q h)
      · rw [List.mem_singleton.mp h]; exact List.mem_cons_self
theorem StU.on {h h' : Heap} (R : StU κ h a L es ep t) (ha : ∀ o, h.get? a = some o → h'.get? a = some o) (hm : ∀ p ∈ L, κ.is h' p.2 p.1) : StU κ h' a L es ep t := by
  obtain ⟨o, ho, r⟩ := R.ob
  exact ⟨⟨o, ha o ho, r⟩, R.rows, R.tab, R.nd, hm, R.led, R.room, R.few⟩
theorem stU_new {h : Heap} (ho : h.get? a = some (set0 w)) : StU κ h a [] #[] 0 (.fresh 0 0 (!w.params.followText "set-order")) where
  ob := ⟨_, ho, ⟨rfl, rfl, rfl⟩, rfl⟩
  rows := rfl
  tab := ⟨.nil, rfl, rfl, .inl rfl, fun x hx => (by cases hx), fun i h j hi => (by simp at hi)⟩
  nd := .nil
  mem := fun p hp => by cases hp
  led := by
    cases hw : w.params.followText "set-order"
    · exact .inr rfl
    · exact .inl rfl
  room := by show 0 * 5 < 7 * 3; decide
  few := by show 0 < 64; decide
theorem fill_u {I : Addr} {fp wr : List Addr} {G : Array GenState → Array GenState → Prop} {n : Nat} {Pv : Nat → Value → Prop} {St : Nat → Shared → Prop} {R : Result → Shared → Prop}
    (W : WalksS P w A.in1 I fp wr G n Pv St) (S : Addr) (hSf : S ∉ fp) (ks : Mb K) (hn : n = ks.length) (few : ks.length < 64) (hval : ∀ i v, Pv i v → ∃ p, ks[i]? = some p ∧ v = .ref p.1)
    (h0 : Heap) (hk : ∀ p ∈ ks, κ.is h0 p.2 p.1) (hS0 : h0.get? S = none) (hw0 : ∀ b ∈ wr, h0.get? b = none) (hu : A.in1.units < cLine) :
    ∀ (m i : Nat) (s : Shared), n - i = m → i ≤ n → St i s → (∀ b o, h0.get? b = some o → s.heap.get? b = some o) → (∃ L es ep t, StU κ s.heap S L es ep t ∧ Upto ks i L) →
      (∀ s', Moved (S :: wr) G s s' → (∃ L es ep t, StU κ s'.heap S L es ep t ∧ Upto ks n L) → (∀ b o, h0.get? b = some o → s'.heap.get? b = some o) → R (.ok (.ret .none)) s') →
      codeAny (model P w) A (.builtin "set.update.loop" ⟨[.ref S, .ref I], []⟩) R s := by
  have nw : S ∉ wr := fun h => hSf (W.sub _ h)
  have up : ∀ b ∈ wr, b ∈ S :: wr := fun b hb => List.mem_cons_of_mem _ hb
  have old : ∀ {s s' : Shared}, Moved wr G s s' → (∀ b o, h0.get? b = some o → s.heap.get? b = some o) → ∀ b o, h0.get? b = some o → s'.heap.get? b = some o := fun mv kp b o e =>
    mv.heap b o (fun hb => by rw [hw0 b hb] at e; cases e) (kp b o e)
  have thru : ∀ {s' : Shared} {k b}, κ.is h0 k b → (∀ b o, h0.get? b = some o → s'.heap.get? b = some o) → κ.is s'.heap k b := fun m kp => κ.stay m fun o => kp _ o
  intro m
  induction m with
  | zero =>
    intro i s hm hi hst kp ⟨L, es, ep, t, hS, g⟩ k
    obtain rfl : i = n := by omega
    refine codeAny_builtin F.entry_set_update_loop ?_
    rw [Around.under_plainId F.plain_set_update_loop _]
    show wpAny _ A.in1 (pyNext (.ref I) >>= _) _ _ s
    refine wpAny_bind (W.done s _ _ hst fun s' mv => ?_)
    show wpAny _ A.in1 (ret Value.none) _ _ s'
    exact wpAny_pure (k s' (mv.mono up) ⟨L, es, ep, t, hS.on (fun o e => mv.heap S o nw e) fun p hp => thru (hk p (List.mem_of_mem_take (g.from_ p hp))) (old mv kp), g⟩ (old mv kp))
  | succ m ih =>
    intro i s hm hi hst kp ⟨L, es, ep, t, hS, g⟩ k
    have lt : i < n := by omega
    refine codeAny_builtin F.entry_set_update_loop ?_
    rw [Around.under_plainId F.plain_set_update_loop _]
    show wpAny _ A.in1 (pyNext (.ref I) >>= _) _ _ s
    refine wpAny_bind (W.item i s _ _ lt hst fun v s' hP hst' mv => ?_)
    obtain ⟨p, hp, rfl⟩ := hval i v hP
    have kp' := old mv kp
    have hx : κ.is s'.heap p.2 p.1 := thru (hk p (List.mem_of_getElem? hp)) kp'
    show wpAny _ A.in1 (holding [Value.ref p.1] (setAdd S (.ref p.1)) >>= _) _ _ s'
    refine wpAny_bind (wpAny_holding ?_)
    unfold setAdd
    refine wpAny_holding (wpAny_bind (κ.hashes hu hx ?_))
    refine add_u (s := { s' with toks := s'.toks + κ.dr p.2 }) (hS.on (fun o e => mv.heap S o nw e) fun q hq => thru (hk q (List.mem_of_mem_take (g.from_ q hq))) kp') hx hu (by have := g.len; omega) fun b h' L' es' ep' t' sb hS2 ch => ?_
    have ne : ∀ c ∈ fp, c ≠ S := fun c hc z => hSf (z ▸ hc)
    refine wpAny_pure ⟨plainId_quiet F.plain_set_update_loop _, ih (i + 1) _ (by omega) lt (W.frame _ s' _ _ hst' (Nat.le_add_right _ _) fun c hc o e => by rw [sb.2 c (ne c hc)]; exact e) (fun c o e => (sb.2 c fun z => by rw [z, hS0] at e; cases e).trans (kp' c o e)) ⟨L', es', ep', t', hS2, g.next hp ch⟩ fun s'' mv2 g2 kp2 => ?_⟩
    refine k s'' (Moved.trans W.gtrans ((mv.mono up).then_heap (Nat.le_add_right _ _) fun c o hc e => ?_) mv2) g2 kp2
    rw [sb.2 c fun z : c = S => hc (by rw [z]; exact List.mem_cons_self)]
    exact e
/-- what stands in the heap after set(list) -/
def GrownU (κ : Ks P w K) (S : Addr) (ks : Mb K) (s s' : Shared) : Prop := ∃ (h' : Heap) (tk : Nat) (L : Mb K) (es : Array (Int × Value)) (ep : Nat) (t : SetTable),
  s' = { s with heap := h', toks := tk } ∧ StU κ h' S L es ep t ∧ Upto ks ks.length L ∧ ∀ b o, b ≠ S → s.heap.get? b = some o → h'.get? b = some o
theorem init_u {S l : Addr} {xs : Array Value} {ks : Mb K} {Q : PySem.Fin → Shared → Prop} (hh : A.handled = none) (sl : S ≠ l) (h00 : Heap) (so : s.heap = h00.push (set0 w)) (hS : S = h00.objs.size) (lo : h00.IsList l xs) (hit : xs.toList = ks.map fun p => Value.ref p.1)
    (hk : ∀ p ∈ ks, κ.is h00 p.2 p.1) (few : ks.length < 64) (hu : A.units + 2 < cLine) (k : ∀ s', GrownU κ S ks s s' → Q (.done (.ret .none)) s') :
    wpAny (model P w) A (Builtin.«set.__init__» ⟨[.ref S, .ref l], []⟩) Q E s := by
  have go0 : s.heap.get? S = some (set0 w) := by rw [so, hS]; exact Heap.get?_push_size _ rfl
  have lo1 : s.heap.IsList l xs := by rw [so]; exact lo.push _
  obtain ⟨⟨cl, di, da, sls⟩, go, ec, n, ed⟩ := id lo1
  simp only at ec ed
  subst ec ed
  have tS : s.TypeIs (.ref S) "set" := ⟨_, go0, rfl⟩
  have zs : xs.size = ks.length := by simpa using congrArg List.length hit
  unfold Builtin.«set.__init__» noKeywords Builtin.Frozenset.updateFrom
  have n1 := F.sub_list_set
  have n2 := F.sub_list_frozenset
  have n3 : (Value.type "list" == Value.type "dict") = false := by decide
  generalize hPI : pyIter = PI
  wp_walk
  subst hPI
  have ltl := Heap.lt_size go
  have ltS := Heap.lt_size go0
  have gone : ∀ b, h00.objs.size ≤ b → h00.get? b = none := fun b hb => by
    cases q : h00.get? b with
    | none => rfl
    | some o => exact absurd (Nat.lt_of_lt_of_le (Heap.lt_size q) hb) (Nat.lt_irrefl _)
  have sz : s.heap.objs.size = h00.objs.size + 1 := by rw [so]; exact Heap.size_push ..
  have ne1 : l ≠ s.heap.objs.size := Nat.ne_of_lt ltl
  have ne2 : S ≠ s.heap.objs.size := Nat.ne_of_lt ltS
  have at_ : ∀ (i : Nat) (v : Value), xs[i]? = some v → ∃ p, ks[i]? = some p ∧ v = .ref p.1 := fun i v hv => by
    rw [← Array.getElem?_toList, hit, List.getElem?_map] at hv
    cases hq : ks[i]? with
    | none => rw [hq] at hv; cases hv
    | some p => rw [hq] at hv; exact ⟨p, rfl, (Option.some.inj hv).symm⟩
  refine wpAny_pyIter_list lo1 (wpAny_bind (wpAny_runValue ?_))
  refine fill_u (κ := κ) ((Walks.list (by simp [hh]) _ l ne1 xs).toS) S (by simp [sl, ne2]) ks zs few at_ h00 hk (by rw [hS]; exact gone _ (Nat.le_refl _)) (fun b hb => by rw [List.mem_singleton.mp hb]; exact gone _ (by omega)) (by show A.units + 1 < cLine; omega) _ 0 _ rfl (Nat.zero_le _) ?st ?old ?s0 ?fin
  case st => exact ⟨⟨_, Heap.get?_push_size _ rfl, rfl, rfl⟩, lo1.push _⟩
  case old => exact fun b o e => Heap.get?_push_of_some _ (by show s.heap.get? b = some o; rw [so]; exact Heap.get?_push_of_some _ e)
  case s0 => exact ⟨[], #[], 0, _, stU_new (Heap.get?_push_of_some _ go0), fun p hp => (by cases hp), fun p hp => (by simp at hp), Nat.le_refl _⟩
  case fin =>
    rintro ⟨h2, g2, d2, t2, o2⟩ m ⟨L, es, ep, t, R, g⟩ kp
    obtain rfl : g2 = s.gens := m.gens
    obtain rfl : d2 = s.drawn := m.drawn
    obtain rfl : o2 = s.os := m.os
    refine wpAny_pure (wpAny_pure (k _ ⟨h2, t2, L, es, ep, t, rfl, R, by rw [← zs]; exact g, fun b o nb e => ?_⟩))
    have lb := Heap.lt_size e
    exact m.heap b o (by simp [nb, Nat.ne_of_lt lb]) (Heap.get?_push_of_some _ e)
theorem call_u {l : Addr} {xs : Array Value} {ks : Mb K} {Q : Value → Shared → Prop} (hh : A.handled = none) (lo : s.heap.IsList l xs) (hit : xs.toList = ks.map fun p => Value.ref p.1) (hk : ∀ p ∈ ks, κ.is s.heap p.2 p.1) (few : ks.length < 64) (hu : A.units + 8 < cLine)
    (k : ∀ s', GrownU κ s.heap.objs.size ks { s with heap := s.heap.push (set0 w) } s' → Q (.ref s.heap.objs.size) s') :
    wpAny (model P w) A (call (.type "set") [.ref l]) Q E s := by
  have ⟨_, _, mro⟩ := F.called_set.mro
  have ms := F.called_set.made
  have ss := F.called_set.sub
  have nt := F.called_set.notType
  have cc := F.called_set.canCreate
  have tc := F.typeCall_set_1 (.ref l)
  have new : (s.heap.push (set0 w)).get? s.heap.objs.size = some (set0 w) := Heap.get?_push_size _ rfl
  have tS : Shared.TypeIs { s with heap := s.heap.push (set0 w) } (.ref s.heap.objs.size) "set" := ⟨_, new, rfl⟩
  have il := F.called_set.init.lookup
  have ib := F.called_set.init.bind (.ref s.heap.objs.size)
  have nel : s.heap.objs.size ≠ l := by
    obtain ⟨o, go, _⟩ := lo
    exact Nat.ne_of_gt (Heap.lt_size go)
  refine wpAny_call (codeAny_of_tree (wpAny_pure ⟨Code.quiet_builtin _ (by decide +kernel), codeAny_builtin F.entry_type_call ?_⟩))
  rw [Around.under_plain (weight_type_call_type "set" [.ref l] []) rfl]
  repeat (any_goals (first | assumption | wp_step))
  refine codeAny_mono (code_set_led1 (.ref l) (E := E) (Q₁ := fun v s' => v = .ref s.heap.objs.size ∧ s' = { s with heap := s.heap.push (set0 w) }) ⟨rfl, rfl⟩) fun r s' hr => ?_
  cases r with
  | error e => exact hr
  | ok f =>
    cases f with
    | ret v =>
      obtain ⟨rfl, rfl⟩ := hr
      repeat (any_goals (first | assumption | wp_step))
      refine codeAny_call_builtin F.called_set.init.plain F.entry_set_init (check_set_init_1 tS (init_u (κ := κ) (by simp [hh]) nel s.heap rfl rfl lo hit hk few (by show A.units + 1 + 1 + 2 < cLine; omega) fun s2 g => ?_))
      show wpAny _ _ _ _ _ _
      repeat (any_goals (first | assumption | wp_step))
      exact k s2 g
    | _ => exact hr.elim
/-! ### sorted(set) -/
theorem perm_map_back {α β : Type} {f : α → β} {xs ys : List β} (p : xs.Perm ys) : ∀ L : List α, ys = L.map f → ∃ L' : List α, L'.Perm L ∧ xs = L'.map f := by
  induction p with
  | nil => exact fun L e => ⟨[], (by cases L with | nil => exact .nil | cons _ _ => cases e), rfl⟩
  | cons x p ih =>
    intro L e
    cases L with
    | nil => cases e
    | cons y L =>
      injection e with e1 e2
      obtain ⟨L', h1, h2⟩ := ih L e2
      exact ⟨y :: L', .cons y h1, by rw [List.map_cons, e1, h2]⟩
  | swap x y l =>
    intro L e
    match L, e with
    | a :: b :: L, e =>
      injection e with e1 e2
      injection e2 with e2 e3
      exact ⟨b :: a :: L, .swap _ _ _, by rw [List.map_cons, List.map_cons, e1, e2, e3]⟩
  | trans p q ih1 ih2 =>
    intro L e
    obtain ⟨L1, h1, rfl⟩ := ih2 L e
    obtain ⟨L2, h3, h4⟩ := ih1 L1 rfl
    exact ⟨L2, h3.trans h1, h4⟩
theorem sorted_u {sh : Nat → Bool} {fs : List Value} {Q : Value → Shared → Prop} (R : StU κ s.heap a L es ep t) (hh : A.handled = none) (keys : ∀ p ∈ L, ∃ l, G.tupKeyC s.heap sh (.ref p.1) = some l) (tups : ∀ p ∈ L, ∃ f, TupOf s.heap sh (.ref p.1) f)
    (k : ∀ s' q (out : Array Value) (c : Nat) (L' : Mb K), (∀ b o, s.heap.get? b = some o → s'.heap.get? b = some o) → s'.gens = s.gens → s'.os = s.os → s.heap.objs.size ≤ q → s'.heap.get? q = some (seqObj "list" out c) →
      out.toList = L'.map (fun p => Value.ref p.1) → L'.Perm L → (out.toList.Pairwise fun u v => ordT.blt ((G.tupKeyC s.heap sh v).getD []) ((G.tupKeyC s.heap sh u).getD []) = false) → Q (.ref q) s') :
    wpAny (model P w) A (call (.builtin "sorted") [.ref a]) Q E s := by
  obtain ⟨o, go, ⟨oc, _⟩, od⟩ := R.ob
  have ez := rows_len R.rows
  have few := R.few
  refine Calls.call_function_entry kind_sorted plain_sorted entry_sorted (args_sorted1 _) ?_
  unfold Builtin.«sorted»
  refine wpAny_bind (m := checkCount "sorted" 1 1 _) (wpAny_pure (wpAny_bind (collect_set (A := A.in1) hh ⟨o, go, oc, od⟩ R.fits (by unfold scanBound; omega) R.tab.ris R.led fun s1 vs kept grew gg oo pm => ?_)))
  have er : es.toList.map (·.2) = L.map fun p => Value.ref p.1 := by rw [R.rows]; simp [rwL]
  rw [er] at pm
  obtain ⟨L1, pm1, rfl⟩ := perm_map_back pm L rfl
  have lv : (L1.map fun p => Value.ref p.1).length < 64 := by rw [List.length_map, pm1.length_eq]; exact few
  generalize hvs : (L1.map fun p => Value.ref p.1) = vs at *
  have ob : (s1.heap.push (seqObj "list" vs.toArray 0)).get? s1.heap.objs.size = some (seqObj "list" vs.toArray 0) := Heap.get?_push_size _ rfl
  refine wpAny_bind (wpAny_newList ?_ (by rw [sizeLine_eq]; omega))
  have kt0 : G.KeepsTups s.heap (s1.heap.push (seqObj "list" vs.toArray 0)) := fun b u e _ => Heap.get?_push_of_some _ (kept b u e)
  have kt := kt0.trans (G.keeps_sort6 (vs := vs) ob)
  have kv : ∀ v, v ∈ vs → ∃ l, G.tupKeyC s.heap sh v = some l := fun v hv => by
    rw [← hvs] at hv
    obtain ⟨p, hp, rfl⟩ := List.mem_map.mp hv
    exact keys p (pm1.mem_iff.mp hp)
  have tv : ∃ fs, TupsOf s.heap sh vs fs := by
    have : ∀ l : Mb K, (∀ p ∈ l, p ∈ L) → ∃ fs, TupsOf s.heap sh (l.map fun p => Value.ref p.1) fs := fun l => by
      induction l with
      | nil => exact fun _ => ⟨[], .nil⟩
      | cons p l ih =>
        intro h
        obtain ⟨f, hf⟩ := tups p (h p (by simp))
        obtain ⟨fs, hfs⟩ := ih fun q hq => h q (List.mem_cons_of_mem _ hq)
        exact ⟨f :: fs, .cons hf hfs⟩
    rw [← hvs]
    exact this L1 fun p hp => pm1.mem_iff.mp hp
  obtain ⟨fs, tv⟩ := tv
  refine wpAny_bind (wpAny_holding (wpAny_call_entry slot_list_sort ⟨_, ob, rfl⟩ entry_list_sort (G.list_sort_treeG (κ := G.tupKindC s.heap sh) (kd := _) ob (G.tupKeys kv) (G.tupC_ltAt (s := { s1 with heap := G.sortHeap6 (s1.heap.push (seqObj "list" vs.toArray 0)) s1.heap.objs.size vs }) true kt) ?_ (by rw [sizeLine_eq]; omega) fun st' a1 a2 a3 => ⟨_, rfl, ?_⟩) (args_list_sort _)))
  · intro h2 Q' hq
    exact tup_kind (s := { s1 with heap := G.sortHeap6 (s1.heap.push (seqObj "list" vs.toArray 0)) s1.heap.objs.size vs }) (by rw [G.TupsOf.length tv]; omega) (G.TupsOf.keep kt tv) hq
  · obtain ⟨c, hc⟩ := sortedHeap_at (vs := vs) (out := (arrOf st').map (·.2)) ob
    generalize hA : arrOf st' = A1 at *
    have same : ∀ p ∈ A1.toList, p.1 = p.2 ∧ p.2 ∈ vs := fun p hp => by
      have hm : p ∈ (pairsOf vs).toList := (Array.perm_iff_toList_perm.mp a1).mem_iff.mp hp
      rw [pairsOf_toList] at hm
      obtain ⟨e, m⟩ := mem_zip_self hm
      have e' : p.1 = p.2 := by rw [e]
      exact ⟨e', e' ▸ m⟩
    have perm : (A1.map (·.2)).toList.Perm vs := by
      have h2 := (Array.perm_iff_toList_perm.mp a1).map (·.2)
      rw [pairsOf_toList, List.map_snd_zip (Nat.le_refl _)] at h2
      simpa using h2
    have asc : (A1.map (·.2)).toList.Pairwise fun u v => ordT.blt ((G.tupKeyC s.heap sh v).getD []) ((G.tupKeyC s.heap sh u).getD []) = false := by
      refine List.pairwise_iff_getElem.mpr fun i j hi hj hij => ?_
      have hi' : i < A1.size := by simpa using hi
      have hj' : j < A1.size := by simpa using hj
      have := a2 i j (Nat.le_of_lt hij) (by rw [← a1.size_eq]; exact hj')
      unfold KK at this
      rw [Array.getElem?_eq_getElem hi', Array.getElem?_eq_getElem hj'] at this
      have e1 := (same A1[i] (by simp)).1
      have e2 := (same A1[j] (by simp)).1
      simp only [Array.getElem_toList, Array.getElem_map]
      rw [← e1, ← e2]
      exact this
    obtain ⟨L', pm2, e2⟩ := perm_map_back (perm.trans (.of_eq hvs.symm)) L1 rfl
    refine wpAny_pure ⟨_, rfl, k _ s1.heap.objs.size _ c L' (fun b u e => ?_) gg oo grew hc e2 (pm2.trans pm1) asc⟩
    have lb := Heap.lt_size (kept b u e)
    exact (sortedHeap_old (Nat.ne_of_lt lb) (by rw [size_push']; exact Nat.lt_succ_of_lt lb)).trans (Heap.get?_push_of_some _ (kept b u e))
end
end Pu

namespace Pu
open PySem PySem.Spec PyProof PyProof.Rows PyProof.Rows.G L2
/-! ### rows of numbers and texts as members of sets -/
section
variable {P : Program} {w : World} {A : Around} {E : Value → Shared → Prop} {s : Shared}
theorem leaf_shape {k : Leaf} {v : Value} (h : (leafKind P w).is k v = true) : carriedByValue v = true := Leaf.byValue h
theorem leaf_stmt {k : Leaf} {v : Value} (n : Nat) (h : (leafKind P w).is k v = true) : ofAClassStatement n v = pure false := by
  have h : Leaf.isOf k v = true := h
  cases k <;> cases v <;> first | (cases n <;> rfl) | (exact absurd h (by simp [Leaf.isOf, Value.isStrOf]))
theorem leaf_byV {k : Leaf} {v : Value} (n : Nat) (h : (leafKind P w).is k v = true) : ∃ b, hashByValue n v = pure b := by
  have h : Leaf.isOf k v = true := h
  cases k <;> cases v <;> first | (cases n <;> exact ⟨_, rfl⟩) | (exact absurd h (by simp [Leaf.isOf, Value.isStrOf]))
abbrev Row (P : Program) (w : World) (h : Heap) (k : List Leaf) (a : Addr) : Prop := IsTupleKey (leafKind P w) h k a
theorem items_all {k : List Leaf} {vs : List Value} (h : ItemsAre (leafKind P w) k vs) : ∀ v ∈ vs, ∃ l, (leafKind P w).is l v = true := by
  induction h with
  | nil => simp
  | cons h _ ih => exact fun v hv => (List.mem_cons.mp hv).elim (fun e => ⟨_, e ▸ h⟩) (ih v)
theorem row_stmt {k : List Leaf} {b : Addr} {Q : Bool → Shared → Prop} (hk : Row P w s.heap k b) (h : Q false s) : wpAny (model P w) A (ofAClassStatement 8 (.ref b)) Q E s := by
  have hT := hk.typeIs
  obtain ⟨o, items, n, ho, _, hd, hi⟩ := hk
  unfold ofAClassStatement
  refine wpAny_bind (wpAny_typeOf hT ?_)
  dsimp only
  rw [if_pos (by decide)]
  refine wpAny_bind (wpAny_pure ?_)
  rw [if_neg (by decide)]
  try refine wpAny_bind (wpAny_pure ?_)
  show wpAny _ _ (seqItems? (.ref b) >>= _) _ _ s
  refine wpAny_bind (wpAny_seqItems ho hd (wpAny_bind ?_))
  show wpAny _ _ (forIn items _ _) _ _ s
  rw [← Array.forIn_toList]
  refine wpAny_forIn_list _ (fun rest r s' => r.1 = none ∧ s' = s ∧ ∀ v ∈ rest, ∃ l, (leafKind P w).is l v = true) _ ?_ ?_ _ _ ⟨rfl, rfl, items_all hi⟩
  · rintro v rest r s' ⟨hr, rfl, all⟩
    obtain ⟨l, hl⟩ := all v (by simp)
    rw [leaf_stmt _ hl]
    exact wpAny_bind (wpAny_pure (wpAny_pure ⟨rfl, rfl, fun u hu => all u (List.mem_cons_of_mem _ hu)⟩))
  · rintro ⟨r1, r2⟩ s' ⟨hr, rfl, _⟩
    simp only at hr
    subst hr
    exact wpAny_pure h
theorem row_byV {k : List Leaf} {b : Addr} {Q : Bool → Shared → Prop} (hk : Row P w s.heap k b) (h : ∀ c, Q c s) : wpAny (model P w) A (hashByValue 8 (.ref b)) Q E s := by
  have hT := hk.typeIs
  obtain ⟨o, items, n, ho, _, hd, hi⟩ := hk
  unfold hashByValue
  refine wpAny_bind (wpAny_specialOf hT F.slot_tuple_hash.lookup ?_)
  show wpAny _ _ (seqItems? (.ref b) >>= _) _ _ s
  refine wpAny_bind (wpAny_seqItems ho hd (wpAny_bind ?_))
  show wpAny _ _ (forIn items _ _) _ _ s
  rw [← Array.forIn_toList]
  refine wpAny_forIn_list _ (fun rest r s' => (r.1 = none ∨ r.1 = some false) ∧ s' = s ∧ ∀ v ∈ rest, ∃ l, (leafKind P w).is l v = true) _ ?_ ?_ _ _ ⟨.inl rfl, rfl, items_all hi⟩
  · rintro v rest r s' ⟨hr, rfl, all⟩
    obtain ⟨l, hl⟩ := all v (by simp)
    obtain ⟨c, hc⟩ := leaf_byV 7 hl
    rw [hc]
    refine wpAny_bind (wpAny_pure ?_)
    cases c
    · exact wpAny_pure (wpAny_pure (h false))
    · exact wpAny_pure ⟨.inl rfl, rfl, fun u hu => all u (List.mem_cons_of_mem _ hu)⟩
  · rintro ⟨r1, r2⟩ s' ⟨hr, rfl, _⟩
    rcases hr with hr | hr
    · simp only at hr
      subst hr
      exact wpAny_pure (h true)
    · simp only at hr
      subst hr
      exact wpAny_pure (h false)
theorem row_hush {k : List Leaf} {b : Addr} {ys : List Value} {Q : Bool → Shared → Prop} (hk : Row P w s.heap k b) (hy : ∀ y ∈ ys, ∃ k' c, y = Value.ref c ∧ Row P w s.heap k' c) (h : Q false s) : wpAny (model P w) A (searchCouldBeSeen (.ref b) ys) Q E s := by
  unfold searchCouldBeSeen
  refine wpAny_bind (wpAny_forIn_list _ (fun rest r s' => r.1 = none ∧ s' = s ∧ ∀ y ∈ rest, ∃ k' c, y = Value.ref c ∧ Row P w s.heap k' c) _ ?_ ?_ _ _ ⟨rfl, rfl, hy⟩)
  · rintro v rest r s' ⟨hr, rfl, all⟩
    obtain ⟨k', c, rfl, hc⟩ := all v (by simp)
    have next : ∀ y ∈ rest, ∃ k' c, y = Value.ref c ∧ Row P w s'.heap k' c := fun u hu => all u (List.mem_cons_of_mem _ hu)
    dsimp only
    by_cases hv : (b == c || (carriedByValue (.ref b) && carriedByValue (.ref c))) = true
    · exact wp_if_pos hv (wpAny_pure ⟨rfl, rfl, next⟩)
    · refine wp_if_neg hv (wpAny_bind (wpAny_eqIsQuiet_tuple hk ?_))
      rw [if_neg (by decide)]
      refine wpAny_bind (wpAny_eqIsQuiet_tuple hc ?_)
      rw [if_neg (by decide)]
      refine wpAny_bind (row_stmt hk ?_)
      rw [if_neg (by decide)]
      refine wpAny_bind (row_stmt hc ?_)
      rw [if_neg (by decide)]
      exact wpAny_pure ⟨rfl, rfl, next⟩
  · rintro ⟨r1, r2⟩ s' ⟨hr, rfl, _⟩
    simp only at hr
    subst hr
    exact wpAny_pure h
end
def rowKs (P : Program) (w : World) : Ks P w (List Leaf) where
  is := IsTupleKey (leafKind P w)
  hs := tupleKeyHash (leafKind P w)
  dr := fun k => k.length + 1
  one := fun h1 h2 => h1.inj h2
  stay := fun ⟨o, its, n, ho, r⟩ k => ⟨o, its, n, k o ho, r⟩
  noset := fun ⟨o, its, n, ho, hc, hd, _⟩ e d => by
    obtain rfl := Option.some.inj (ho.symm.trans e)
    rw [hd] at d
    cases d
  hashes := fun hu hk h => wpAny_pyHash_tuple hu hk h
  same := fun hu hx hy h => wpAny_eqBool_tuple hu hx hy (h _ decide_eq_true_iff)
  hush := fun hk hy h => row_hush hk hy h
  byV := fun hk h => row_byV hk h
/-! ### as data -/
variable [FnTab]
def leafD : D → Option Leaf
  | .int n => some (.num n)
  | .str x => some (.text x)
  | _ => none
def leafsD : D → Option (List Leaf)
  | .tuple ds => allOf leafD ds
  | _ => none
def leafV : Leaf → D
  | .num n => .int n
  | .text x => .str x
  | .none => .none
def rowD (k : List Leaf) : D := .tuple (k.map leafV)
theorem leafD_inv {d : D} {l : Leaf} (h : leafD d = some l) : d = leafV l := by cases d <;> cases h <;> rfl
theorem leafsD_inv {d : D} {k : List Leaf} (h : leafsD d = some k) : d = rowD k := by
  unfold leafsD at h
  split at h
  · unfold rowD
    rw [allOf_some (g := leafV) (fun _ _ => leafD_inv) h]
  · cases h
/-- each once -/
def uq : List (List Leaf) → List (List Leaf)
  | [] => []
  | k :: l => if k ∈ l then uq l else k :: uq l
theorem mem_uq {k : List Leaf} : ∀ {l : List (List Leaf)}, k ∈ uq l ↔ k ∈ l
  | [] => .rfl
  | x :: l => by
    unfold uq
    split
    · rename_i h
      rw [mem_uq, List.mem_cons]
      exact ⟨.inr, fun z => z.elim (fun e => e ▸ h) id⟩
    · rw [List.mem_cons, List.mem_cons, mem_uq]
theorem uq_nodup : ∀ l : List (List Leaf), (uq l).Nodup
  | [] => .nil
  | x :: l => by
    unfold uq
    split
    · exact uq_nodup l
    · rename_i h
      exact List.nodup_cons.mpr ⟨fun z => h (mem_uq.mp z), uq_nodup l⟩
theorem uq_len : ∀ l : List (List Leaf), (uq l).length ≤ l.length
  | [] => Nat.le_refl _
  | x :: l => by
    have := uq_len l
    unfold uq
    split <;> simp only [List.length_cons] <;> omega
section
variable {X : Cx}
theorem leaf_val {K : PySem.W.Frag} {H : Hp} {P : Program} {w : World} : ∀ {ds : List D} {xs : List V} {us : List Value} {k : List Leaf}, RpAll K H xs ds → Vals xs us → allOf leafD ds = some k → ItemsAre (leafKind P w) k us
  | [], xs, us, k, ra, rv, h => by
    cases ra
    cases rv
    cases h
    exact .nil
  | d :: ds, xs, us, k, ra, rv, h => by
    obtain ⟨l, h1, h⟩ := Option.bind_eq_some_iff.mp h
    obtain ⟨k, h2, rfl⟩ := Option.map_eq_some_iff.mp h
    cases ra with
    | cons r ra =>
      cases rv with
      | cons u rv =>
        refine .cons ?_ (leaf_val ra rv h2)
        cases d <;> cases h1
        · rw [r.int_inv] at u
          obtain ⟨tk, rfl⟩ := u
          exact decide_eq_true rfl
        · rw [r.str_inv] at u
          obtain ⟨tk, rfl⟩ := u
          show (_ == _) = true; simp
theorem row_is {pins : List (Addr × Obj)} {σ : L2.St} {H Hf : Hp} {s : Shared} {v : V} {d : D} {k : List Leaf} (I : Inv X pins σ H s) (sub : Same Hf H) (r : Rp X.K Hf v d) (hk : leafsD d = some k) : ∃ a, v = V.ref a ∧ Row X.prog X.w s.heap k a := by
  unfold leafsD at hk
  split at hk
  · obtain ⟨a, xs, rfl, h1, ra⟩ := r.tup_inv
    obtain ⟨its, rv, ⟨o, ho, hc, n, hd⟩, _⟩ := I.tuple (Same.seqT sub h1)
    exact ⟨a, rfl, o, its.toArray, n, ho, hc, hd, by simpa using leaf_val ra rv hk⟩
  · cases hk
/-- the set at a, without its rows themselves -/
def SetU0 (P : Program) (w : World) (h : Heap) (a : Addr) (L : Mb (List Leaf)) : Prop := ∃ (es : Array (Int × Value)) (ep : Nat) (t : SetTable), (∃ o, h.get? a = some o ∧ o.ExactSet ∧ o.data = .set es ep t) ∧ es.toList = rwL (rowKs P w) L ∧ TabOk t (hsL (rowKs P w) L) ∧ (L.map (·.2)).Nodup ∧
    (w.params.followText "set-order" = true ∨ t.led = true) ∧ L.length * 5 < t.mask * 3 ∧ L.length < 64
def SetUO (P : Program) (w : World) (a : Addr) (L : Mb (List Leaf)) : HO := .ext fun h => SetU0 P w h a L
theorem setUO_new {P : Program} {w : World} {H : Hp} {h : Heap} {a : Addr} {L : Mb (List Leaf)} {es : Array (Int × Value)} {ep : Nat} {t : SetTable} (R : StU (rowKs P w) h a L es ep t) : ObjOk P w H h a (SetUO P w a L) := by
  have ⟨o, ho, _⟩ := R.ob
  refine ⟨⟨es, ep, t, R.ob, R.rows, R.tab, R.nd, R.led, R.room, R.few⟩, ⟨o, ho⟩, fun h1 h2 p k => ?_⟩
  obtain ⟨es', ep', t', ⟨o', ho', r'⟩, q'⟩ := p
  exact ⟨es', ep', t', ⟨o', k o' ho', r'⟩, q'⟩
/-- rows with their data -/
def RowsAre (K : PySem.W.Frag) (Hf : Hp) (L : Mb (List Leaf)) : Prop := ∀ p ∈ L, Rp K Hf (V.ref p.1) (rowD p.2)
def rSetRows (X : Cx) : List V → Hp → VK → Prop := fun xs H Q => ∃ (Hf : Hp) (l : Addr) (vs : List V) (ds : List D) (ks : List (List Leaf)), xs = [V.ref l] ∧ SqL X.K H l vs ∧ Same Hf H ∧ RpAll X.K Hf vs ds ∧ allOf leafsD ds = some ks ∧ ks.length < 64 ∧
  ∀ a L, H a = none → RowsAre X.K Hf L → (L.map (·.2)).Perm (uq ks) → Q (.ref a) (upd H a (SetUO X.prog X.w a L))
theorem zip_rows {pins : List (Addr × Obj)} {σ : L2.St} {H Hf : Hp} {s : Shared} (I : Inv X pins σ H s) (sub : Same Hf H) : ∀ {ds : List D} {vs : List V} {us : List Value} {ks : List (List Leaf)}, RpAll X.K Hf vs ds → Vals vs us → allOf leafsD ds = some ks →
    ∃ L : Mb (List Leaf), us = L.map (fun p => Value.ref p.1) ∧ L.map (·.2) = ks ∧ RowsAre X.K Hf L ∧ ∀ p ∈ L, Row X.prog X.w s.heap p.2 p.1
  | [], vs, us, ks, ra, rv, h => by
    cases ra
    cases rv
    cases h
    exact ⟨[], rfl, rfl, by simp [RowsAre], by simp⟩
  | d :: ds, vs, us, ks, ra, rv, h => by
    obtain ⟨k, h1, h⟩ := Option.bind_eq_some_iff.mp h
    obtain ⟨ks, h2, rfl⟩ := Option.map_eq_some_iff.mp h
    cases ra with
    | cons r ra =>
      cases rv with
      | cons u rv =>
        obtain ⟨L, e1, e2, e3, e4⟩ := zip_rows I sub ra rv h2
        obtain ⟨a, rfl, hr⟩ := row_is I sub r h1
        cases u
        refine ⟨(a, k) :: L, by rw [List.map_cons, e1], by rw [List.map_cons, e2], fun p hp => ?_, fun p hp => ?_⟩
        · rcases List.mem_cons.mp hp with rfl | hp
          · rw [← leafsD_inv h1]; exact r
          · exact e3 p hp
        · rcases List.mem_cons.mp hp with rfl | hp
          · exact hr
          · exact e4 p hp
theorem cr_setRows (hc : X.calm = true) (hu : X.A.units + 64 < cLine) : CallR X (.type "set") (rSetRows X) := by
  intro pins s σ H xs us Q I r h
  obtain ⟨Hf, l, vs, ds, ks, rfl, hq, sub, ra, hk, few, q⟩ := h
  rw [Vals.ref1 r]
  obtain ⟨its, rv, hl, hz⟩ := I.list hq
  obtain ⟨L0, e1, e2, e3, e4⟩ := zip_rows I sub ra rv hk
  have l0 : L0.length = ks.length := by rw [← e2, List.length_map]
  refine call_u (κ := rowKs X.prog X.w) (ks := L0) (I.ok.hd hc) hl.isList (by simpa using e1) e4 (by omega) (by omega) fun s' ⟨h', tk, L, es, ep, t, e5, R, g, kp⟩ => ?_
  subst e5
  have new : H s.heap.objs.size = none := I.hok.fresh (Nat.le_refl _)
  refine ⟨.ref _, _, I.laid (t' := tk) (fun b o e => kp b o (Nat.ne_of_lt (Heap.lt_size e)) (Heap.get?_push_of_some _ e)) (Nat.le_refl _) (setUO_new R), rfl, q _ L new (fun p hp => e3 p (List.mem_of_mem_take (g.from_ p hp))) ?_⟩
  refine (List.perm_ext_iff_of_nodup R.nd (uq_nodup ks)).mpr fun k => ?_
  rw [mem_uq, ← e2]
  constructor
  · intro h
    obtain ⟨p, hp, rfl⟩ := List.mem_map.mp h
    exact List.mem_map.mpr ⟨p, List.mem_of_mem_take (g.from_ p hp), rfl⟩
  · intro h
    obtain ⟨p, hp, rfl⟩ := List.mem_map.mp h
    exact g.all p (by rw [List.take_length]; exact hp)
theorem rpAll_rows {K : PySem.W.Frag} {Hf : Hp} : ∀ {L : Mb (List Leaf)}, RowsAre K Hf L → RpAll K Hf (L.map fun p => V.ref p.1) (L.map fun p => rowD p.2)
  | [], _ => .nil
  | p :: L, h => .cons (h p (by simp)) (rpAll_rows fun q hq => h q (List.mem_cons_of_mem _ hq))
theorem vals_refs (L : Mb (List Leaf)) : Vals (L.map fun p => V.ref p.1) (L.map fun p => Value.ref p.1) := by
  induction L with
  | nil => exact .nil
  | cons p L ih => exact .cons rfl ih
def rSortRows (X : Cx) : List V → Hp → VK → Prop := fun xs H Q => ∃ (Hf : Hp) (a : Addr) (L : Mb (List Leaf)) (sh : Nat → Bool), xs = [V.ref a] ∧ H a = some (SetUO X.prog X.w a L) ∧ Same Hf H ∧ RowsAre X.K Hf L ∧ (∀ p ∈ L, ∃ l, dKey sh (rowD p.2) = some l) ∧
  ∀ ys p, RpAll X.K Hf ys (sortT sh (L.map fun p => rowD p.2)) → H p = none → Q (.ref p) (upd H p (.lst ys))
theorem cr_sortRows (hc : X.calm = true) : CallR X (.builtin "sorted") (rSortRows X) := by
  intro pins s σ H xs us Q I r h
  obtain ⟨Hf, a, L, sh, rfl, ha, sub, hr, hk, q⟩ := h
  rw [Vals.ref1 r]
  obtain ⟨es, ep, t, ob, rows, tab, nd, led, room, few⟩ : SetU0 X.prog X.w s.heap a L := (I.hok a _ ha).1
  have ra := rpAll_rows hr
  have rv := vals_refs L
  have ks : ∀ d ∈ L.map (fun p => rowD p.2), ∃ l, dKey sh d = some l := fun d hd => by
    obtain ⟨p, hp, rfl⟩ := List.mem_map.mp hd
    exact hk p hp
  have lf : ∀ p ∈ L, leafsD (rowD p.2) = some p.2 ∨ True := fun _ _ => .inr trivial
  have R : StU (rowKs X.prog X.w) s.heap a L es ep t := ⟨ob, rows, tab, nd, fun p hp => by
    obtain ⟨l, hl⟩ := hk p hp
    have : leafsD (rowD p.2) = some p.2 := by
      have no : ∀ (i : Nat) (k : List Leaf) (l : List It0), itKey sh i (k.map leafV) = some l → allOf leafD (k.map leafV) = some k := fun i k => by
        induction k generalizing i with
        | nil => intro _ _; rfl
        | cons x k ih =>
          intro l h
          cases x with
          | none => simp [leafV, itKey] at h
          | num n =>
            simp only [List.map_cons, leafV, itKey] at h
            split at h
            · cases h
            · obtain ⟨l1, h1, _⟩ := Option.map_eq_some_iff.mp h
              simp [allOf, leafD, leafV, ih _ _ h1]
          | text y =>
            simp only [List.map_cons, leafV, itKey] at h
            split at h
            · obtain ⟨l1, h1, _⟩ := Option.map_eq_some_iff.mp h
              simp [allOf, leafD, leafV, ih _ _ h1]
            · cases h
      unfold rowD dKey at hl
      unfold rowD leafsD
      split at hl
      · rename_i e
        injection e with e
        rw [← e] at hl
        exact no 0 p.2 l hl
      · cases hl
    obtain ⟨b, e, hb⟩ := row_is I sub (hr p hp) this
    injection e with e
    rw [e]
    exact hb, led, room, few⟩
  obtain ⟨⟨fs, t1⟩, t2, t3⟩ := all_heap I sub ra rv ks
  have one : ∀ p ∈ L, (∃ l, tupKeyC s.heap sh (.ref p.1) = some l) ∧ ∃ f, TupOf s.heap sh (.ref p.1) f := fun p hp => by
    obtain ⟨l, hl⟩ := hk p hp
    have := key_heap (u := .ref p.1) I sub (hr p hp) rfl hl
    exact ⟨⟨l, this.1⟩, this.2⟩
  refine sorted_u (fs := fs) R (I.ok.hd hc) (fun p hp => (one p hp).1) (fun p hp => (one p hp).2) fun s' p out c L' kp gg oo hp hg e1 pm asc => ?_
  have new : H p = none := I.hok.fresh hp
  have hr' : RowsAre X.K Hf L' := fun p hp => hr p (pm.mem_iff.mp hp)
  have ks' : ∀ d ∈ L'.map (fun p => rowD p.2), ∃ l, dKey sh d = some l := fun d hd => by
    obtain ⟨p, hp, rfl⟩ := List.mem_map.mp hd
    exact hk p (pm.mem_iff.mp hp)
  have srt := rise I sub (rpAll_rows hr') (vals_refs L') ks' (by rw [← e1]; exact asc)
  have eq := sortT_uniq ks (pm.map fun p => rowD p.2) srt
  have vb : Vals (L'.map fun p => V.ref p.1) out.toList := by rw [e1]; exact vals_refs L'
  have ok : Inv X pins σ (upd H p (.lst (L'.map fun p => V.ref p.1))) { s with heap := s'.heap, gens := s'.gens, drawn := s'.drawn, toks := s'.toks } :=
    I.call (ch := []) (Un.laid kp hp new) (I.hok.laid kp hp ⟨by rw [List.length_map, pm.length_eq, sizeLine_eq]; omega, out.toList, c, vb, hg⟩) (by rw [gg]; exact I.bare) (fun _ z => by cases z)
  have se : s' = { s with heap := s'.heap, gens := s'.gens, drawn := s'.drawn, toks := s'.toks } := by
    obtain ⟨_, _, _, _, _⟩ := s'
    obtain ⟨_, _, _, _, _⟩ := s
    simp only at oo
    subst oo
    rfl
  rw [se]
  exact ⟨.ref p, _, ok, rfl, q _ p (by rw [← eq]; exact rpAll_rows hr') new⟩
def shK : List D → Nat → Bool
  | [] => fun _ => false
  | d :: _ => shOf d
/-- sorted(set(rows)) -/
def sortRows (ds : List D) (ks : List (List Leaf)) : List D := sortT (shK ds) ((uq ks).map rowD)
def dSortRows (r : Rs) : Option Rs := (lstOf r).bind fun ds => (allOf leafsD ds).bind fun ks => if ks.length < 64 ∧ ks.all (fun k => (dKey (shK ds) (rowD k)).isSome) = true then some (.new (sortRows ds ks)) else none
def dSortAny (r : Rs) : Option Rs := match dSortSet r with
  | some x => some x
  | none => dSortRows r
theorem pu_sortAny {e : Expr} {x y : Str} {pos p p2 pos2 : Pos} {g : En → Option Rs} (hc : X.calm = true) (hu : X.A.units + 64 < cLine) (hg : Gl X x) (hm : X.mg x = none) (hv : bootBuiltins x = some (.builtin "sorted")) (hg2 : Gl X y) (hm2 : X.mg y = none) (hv2 : bootBuiltins y = some (.type "set")) (ha : PE X e (tPu X.K g)) (hn : x ≠ "__name__" := by decide) (hn2 : y ≠ "__name__" := by decide)
    (hdb : (x == ("__debug__" : Str)) = false := by decide) (hdb2 : (y == ("__debug__" : Str)) = false := by decide) (he : starEach [e] X.env = (false, eval e X.env) :: starEach [] X.env := by rfl) (hpl : (backTo pos2 (starEach [] X.env)).any (·.1) = false := by rfl)
    (he2 : starEach [.Call (.Name y p2) [e] [] pos2] X.env = (false, eval (.Call (.Name y p2) [e] [] pos2) X.env) :: starEach [] X.env := by rfl) (hpl2 : (backTo pos (starEach [] X.env)).any (·.1) = false := by rfl) :
    PE X (.Call (.Name x p) [.Call (.Name y p2) [e] [] pos2] [] pos) (tPu X.K (gR1 dSortAny g)) := by
  have c1 : CallR X (.type "set") (fun xs H Q => rSetL X xs H Q ∨ rSetRows X xs H Q) := fun pins s σ H xs us Q I r h => h.elim (cr_setL hc pins s σ H xs us Q I r) (cr_setRows hc hu pins s σ H xs us Q I r)
  have c2 : CallR X (.builtin "sorted") (fun xs H Q => rSortS X xs H Q ∨ rSortRows X xs H Q) := fun pins s σ H xs us Q I r h => h.elim (cr_sortS hc pins s σ H xs us Q I r) (cr_sortRows hc pins s σ H xs us Q I r)
  refine PE.weaken (pe_callB c2 hg hm hv (pa_cons (pe_callTy c1 hg2 hm2 hv2 (pa_cons ha pa_nil he) hn2 hdb2 he hpl) pa_nil he2) hn hdb he2 hpl2) fun σ H Q h => ?_
  obtain ⟨H0, ρ, Hf, r, S, e1, q⟩ := h
  obtain ⟨r1, e2, e1⟩ := Option.bind_eq_some_iff.mp e1
  refine ⟨H0, ρ, Hf, r1, S, e2, fun v Hf1 H1 x1 ro => ?_⟩
  unfold dSortAny at e1
  cases hx : dSortSet r1 with
  | some x =>
    rw [hx] at e1
    cases e1
    obtain ⟨ds, e3, e1⟩ := Option.bind_eq_some_iff.mp hx
    obtain ⟨ns, e4, e1⟩ := Option.bind_eq_some_iff.mp e1
    split at e1
    · rename_i small
      cases e1
      obtain ⟨a, xs, rfl, h1, ra⟩ := lst_of ro x1.sub e3
      rw [allOf_some (g := PyData.int) asInt_inv e4] at ra
      rw [ra.ints_inv] at h1
      refine .inl ⟨a, ns, rfl, h1, by unfold scanBound; omega, fun p c hp hc => .inl ?_⟩
      refine ⟨p, _, c, rfl, upd_same, Nat.le_trans hc (Nat.le_trans (Nat.le_of_lt small) (by decide)), fun ms b asc mem len hb => ?_⟩
      obtain rfl : ms = sortU ns := asc_uniq asc (sortU_sorted ns) fun z => by rw [mem z, mem_sortU, decide_eq_true_eq]
      have x2 : Ext Hf H Hf1 (upd H1 p (SetO X.w p (fun j => decide (j ∈ ns)) c)) := x1.trans (.loose x1.sub hp)
      have x3 := x2.trans (.loose (o := .lst ((sortU ns).map V.int)) x2.sub hb)
      exact q _ Hf1 _ x3 ⟨b, _, rfl, x2.all.free hb, upd_same, x2.sub.free hb, .ints _⟩
    · cases e1
  | none =>
    rw [hx] at e1
    obtain ⟨ds, e3, e1⟩ := Option.bind_eq_some_iff.mp e1
    obtain ⟨ks, e4, e1⟩ := Option.bind_eq_some_iff.mp e1
    split at e1
    · rename_i ok
      cases e1
      obtain ⟨few, keys⟩ := ok
      obtain ⟨a, xs, rfl, h1, ra⟩ := lst_of ro x1.sub e3
      refine .inr ⟨Hf1, a, xs, ds, ks, rfl, h1, x1.sub, ra, e4, few, fun p L hp hr pm => .inr ?_⟩
      have x2 : Ext Hf H Hf1 (upd H1 p (SetUO X.prog X.w p L)) := x1.trans (.loose x1.sub hp)
      have pk : (L.map fun p => rowD p.2).Perm ((uq ks).map rowD) := by
        have := pm.map rowD
        rwa [List.map_map] at this
      refine ⟨Hf1, p, L, shK ds, rfl, upd_same, x2.sub, hr, fun p2 hp2 => ?_, fun ys b ry hb => ?_⟩
      · have : p2.2 ∈ ks := mem_uq.mp (pm.mem_iff.mp (List.mem_map.mpr ⟨p2, hp2, rfl⟩))
        exact Option.isSome_iff_exists.mp (List.all_eq_true.mp keys _ this)
      · have eq : sortT (shK ds) (L.map fun p => rowD p.2) = sortRows ds ks :=
          sortT_uniq (fun d hd => by
            obtain ⟨k, hk, rfl⟩ := List.mem_map.mp hd
            exact Option.isSome_iff_exists.mp (List.all_eq_true.mp keys _ (mem_uq.mp hk))) ((sortT_perm _ _).trans pk) (sortT_sorted _ _)
        have x3 := x2.trans (.loose (o := .lst ys) x2.sub hb)
        exact q _ Hf1 _ x3 ⟨b, _, rfl, x2.all.free hb, upd_same, x2.sub.free hb, by rw [← eq]; exact ry⟩
    · cases e1
end
/-! ### equations of mode N -/
section
variable {ρ : En} {d : D} {ds : List D}
def rn1 : On → List D := fun o => match o with
  | .rn out => out
theorem e_runN {n : Nat} {R : En → Option On} : runN n R ds = (R (start0 n ds)).map rn1 := rfl
theorem e_rn1 : rn1 (.rn ds) = ds := rfl
theorem tuple_n {ds : List D} : dTuple (.new ds) = some (.val (.tuple ds)) := rfl
end
/-! ### a new list out of parts with effects, a slot's own -/
theorem Xq.free {ρ ρ1 : En} {σ : L2.St} {H0 Hf H Hf1 H1 : Hp} {K : PySem.W.Frag} (x : Xq ρ σ Hf H ρ1 Hf1 H1) (S : StOk K H0 ρ1 σ Hf1 H1) {p : Addr} (hp : H1 p = none) : H p = none := by
  cases z : H p with
  | none => rfl
  | some o =>
    by_cases nn : NotOwn ρ σ p
    · rw [(x.oth p o z nn).1] at hp; cases hp
    · refine absurd ((x.own p).mpr fun i es ei f => ?_) nn
      obtain ⟨o', f', a, vs, rfl, _, g1, _⟩ := S.at_ i _ ei
      rw [f] at f'
      cases f'
      rw [hp] at g1
      cases g1
def gLnQ (gs : En → Option (Rz (List D))) : En → Option (Rz (List D)) := qb gs fun ds => upc (if ds.length ≤ sizeLine then some ds else none)
theorem qn_lst {X : Cx} {W : WX} {es : List Expr} {pos : Pos} {gs : En → Option (Rz (List D))} (h : PA X es (tQa X.K W gs)) : PE X (.List es pos) (tQn X.K W (gLnQ gs)) := PE.weaken (pe_lst h) fun σ H Q ⟨H0, ρ, Hf, r, S, e, p⟩ => by
  obtain ⟨r1, e1, p1⟩ := p.bind e
  refine ⟨H0, ρ, Hf, r1, S, e1, p1.imp fun ds ρ1 Hf1 H1 S1 X1 ⟨e2, p2⟩ vs rvs => ?_⟩
  obtain ⟨u, e3, q⟩ := p2.upc e2 S1
  split at e3
  · rename_i hl
    cases e3
    refine ⟨by rw [rvs.length]; exact hl, fun t ht => ?_⟩
    exact q Hf1 _ (.loose S1.sub ht) t vs (X1.free S1 ht) upd_same (S1.sub.free ht) rvs
  · cases e3
def ln1Q (ds : List D) (ρ : En) : Option (Rz (List D)) := if ds.length ≤ sizeLine then some (.ok ds ρ) else none
theorem e_gLnQ {gs : En → Option (Rz (List D))} {ρ : En} : gLnQ gs ρ = (gs ρ).bind (qb1 ln1Q) := by
  show (gs ρ).bind _ = _
  congr 1
  funext r
  cases r with
  | ok ds ρ' =>
    show Option.map _ (if _ then _ else _) = (if _ then _ else _)
    split <;> rfl
  | ex x ρ' => rfl
theorem e_ln1Q {ds : List D} {ρ : En} (h : ds.length ≤ 1000) : ln1Q ds ρ = some (.ok ds ρ) := if_pos (small_line h)
end Pu

namespace G
open PySem PySem.Spec PyProof.Rows L2 Pu
def top (i : Nat) : Stmt := PySem.Challenge.pw_pastamended_k38_corrections.main.body.getD i (.Pass ⟨0, 0, 0, 0⟩)
abbrev s__combined : Stmt := top 4
abbrev n__combined : List Str := ["first", "second", "wanted", "flips", "bounds", "holders", "n", "holder", "before", "at", "span"]
theorem sc__combined : FnScope n__combined ["first", "second", "wanted"] (defScope s__combined) := ⟨rfl, rfl, rfl, by decide +kernel, rfl, by decide +kernel, by decide +kernel⟩
abbrev s_spans_minus : Stmt := top 2
abbrev n_spans_minus : List Str := ["first", "second"]
theorem sc_spans_minus : FnScope n_spans_minus ["first", "second"] (defScope s_spans_minus) := ⟨rfl, rfl, rfl, by decide +kernel, rfl, by decide +kernel, by decide +kernel⟩
abbrev s_index_behind : Stmt := top 3
abbrev n_index_behind : List Str := ["parts", "n", "low", "high", "middle"]
theorem sc_index_behind : FnScope n_index_behind ["parts", "n"] (defScope s_index_behind) := ⟨rfl, rfl, rfl, by decide +kernel, rfl, by decide +kernel, by decide +kernel⟩
abbrev s__spans_at : Stmt := top 7
abbrev n__spans_at : List Str := ["region", "k", "at"]
theorem sc__spans_at : FnScope n__spans_at ["region", "k"] (defScope s__spans_at) := ⟨rfl, rfl, rfl, by decide +kernel, rfl, by decide +kernel, by decide +kernel⟩
abbrev s_at_known : Stmt := top 6
abbrev n_at_known : List Str := ["region", "k"]
theorem sc_at_known : FnScope n_at_known ["region", "k"] (defScope s_at_known) := ⟨rfl, rfl, rfl, by decide +kernel, rfl, by decide +kernel, by decide +kernel⟩
abbrev s_corrections : Stmt := top 9
abbrev n_corrections : List Str := ["relation", "j", "k", "found", "row", "region", "before", "after", "word", "spans"]
theorem sc_corrections : FnScope n_corrections ["relation", "j", "k"] (defScope s_corrections) := ⟨rfl, rfl, rfl, by decide +kernel, rfl, by decide +kernel, by decide +kernel⟩
abbrev s__law_state : Stmt := top 11
abbrev n__law_state : List Str := ["script", "mixed", "rest"]
theorem sc__law_state : FnScope n__law_state ["script"] (defScope s__law_state) := ⟨rfl, rfl, rfl, by decide +kernel, rfl, by decide +kernel, by decide +kernel⟩
abbrev s__law_take : Stmt := top 12
abbrev n__law_take : List Str := ["state", "many", "drawn", "cell"]
theorem sc__law_take : FnScope n__law_take ["state", "many"] (defScope s__law_take) := ⟨rfl, rfl, rfl, by decide +kernel, rfl, by decide +kernel, by decide +kernel⟩
abbrev s__law_datum : Stmt := top 13
abbrev n__law_datum : List Str := ["state", "kind"]
theorem sc__law_datum : FnScope n__law_datum ["state", "kind"] (defScope s__law_datum) := ⟨rfl, rfl, rfl, by decide +kernel, rfl, by decide +kernel, by decide +kernel⟩
abbrev s__law_drawn_rows : Stmt := top 14
abbrev n__law_drawn_rows : List Str := ["state", "kinds", "most", "rows", "n", "kind"]
theorem sc__law_drawn_rows : FnScope n__law_drawn_rows ["state", "kinds", "most"] (defScope s__law_drawn_rows) := ⟨rfl, rfl, rfl, by decide +kernel, rfl, by decide +kernel, by decide +kernel⟩
abbrev s__law_holds : Stmt := top 15
abbrev n__law_holds : List Str := ["rectangles", "m", "k", "row"]
theorem sc__law_holds : FnScope n__law_holds ["rectangles", "m", "k"] (defScope s__law_holds) := ⟨rfl, rfl, rfl, by decide +kernel, rfl, by decide +kernel, by decide +kernel⟩
abbrev s__law_strips : Stmt := top 16
abbrev n__law_strips : List Str := ["xs", "ks", "table", "strips", "j", "spans", "i"]
theorem sc__law_strips : FnScope n__law_strips ["xs", "ks", "table"] (defScope s__law_strips) := ⟨rfl, rfl, rfl, by decide +kernel, rfl, by decide +kernel, by decide +kernel⟩
abbrev s__law_region : Stmt := top 17
abbrev n__law_region : List Str := ["rectangles", "xs", "ks", "table", "j", "i", "row"]
theorem sc__law_region : FnScope n__law_region ["rectangles"] (defScope s__law_region) := ⟨rfl, rfl, rfl, by decide +kernel, rfl, by decide +kernel, by decide +kernel⟩
abbrev s__law_window : Stmt := top 18
abbrev n__law_window : List Str := ["state", "a", "j"]
theorem sc__law_window : FnScope n__law_window ["state"] (defScope s__law_window) := ⟨rfl, rfl, rfl, by decide +kernel, rfl, by decide +kernel, by decide +kernel⟩
abbrev s__law_relation : Stmt := top 19
abbrev n__law_relation : List Str := ["state", "kinds", "most", "relation", "row", "rectangles"]
theorem sc__law_relation : FnScope n__law_relation ["state", "kinds", "most"] (defScope s__law_relation) := ⟨rfl, rfl, rfl, by decide +kernel, rfl, by decide +kernel, by decide +kernel⟩
abbrev s__law_stands : Stmt := top 20
abbrev n__law_stands : List Str := ["region", "m", "k", "strip", "span"]
theorem sc__law_stands : FnScope n__law_stands ["region", "m", "k"] (defScope s__law_stands) := ⟨rfl, rfl, rfl, by decide +kernel, rfl, by decide +kernel, by decide +kernel⟩
abbrev s__law_spans : Stmt := top 21
abbrev n__law_spans : List Str := ["moments", "spans", "m"]
theorem sc__law_spans : FnScope n__law_spans ["moments"] (defScope s__law_spans) := ⟨rfl, rfl, rfl, by decide +kernel, rfl, by decide +kernel, by decide +kernel⟩
abbrev s_law : Stmt := top 22
abbrev n_law : List Str := ["script", "state", "relation", "j", "k", "due", "pair", "before", "first", "second", "came", "went", "m"]
theorem sc_law : FnScope n_law ["script"] (defScope s_law) := ⟨rfl, rfl, rfl, by decide +kernel, rfl, by decide +kernel, by decide +kernel⟩
abbrev k_IN_FIRST_ALONE : D := (.tuple [(.bool false), (.bool true), (.bool false), (.bool false)])
def R__combined : En → Option Out :=
  (rSeq (rIf (tB (b2 dEq (wVar 0) (wVar 1))) (rRet (gIf (gTru (gIx (rVar 2) (vC (.int 3)))) (gv (gR1 dList (rVar 0))) (gv (gLst2 aNil)))) rNext)
  (rSeq (rIf (tNot2 (gTru (wVar 1))) (rRet (gIf (gTru (gIx (rVar 2) (vC (.int 1)))) (gv (gR1 dList (rVar 0))) (gv (gLst2 aNil)))) rNext)
  (rSeq (rIf (tNot2 (gTru (wVar 0))) (rRet (gIf (gTru (gIx (rVar 2) (vC (.int 2)))) (gv (gR1 dList (rVar 1))) (gv (gLst2 aNil)))) rNext)
  (rSeq (rSet 3 (gv (gR1 dSortX (gr (b2 dAdd (gv (gLc2 (gItems2 (vVar 0)) (bName 10) gYes (gItems2 (vVar 10)) (bName 6) gYes (gTup2 (aCons (vVar 6) (aCons (vC (.int 1)) aNil))) [10, 6] [6])) (gv (gLc2 (gItems2 (vVar 1)) (bName 10) gYes (gItems2 (vVar 10)) (bName 6) gYes (gTup2 (aCons (vVar 6) (aCons (vC (.int 2)) aNil))) [10, 6] [6])))))))
  (rSeq (rOwn 4 (gLst2 aNil))
  (rSeq (rSet 5 (vC (.int 0)))
  (rSeq (rFor (gItems2 (vVar 3)) (bTup 2 (bCons (bName 6) (bCons (bName 7) bNil))) (rSeq (rSet 8 (gIx (rVar 2) (vVar 5)))
  (rSeq (rSet 5 (b2 dXor (vVar 5) (vVar 7)))
  (rSeq (rIf (tB (b2 dEq (gIx (rVar 2) (vVar 5)) (wVar 8))) (fun ρ => some (.ct ρ)) rNext)
  (rIf (tAnd2 (gTru (wVar 4)) (tB (b2 dEq (gIx (rVar 4) (b1 dNeg (vC (.int 1)))) (wVar 6)))) (rPopL 4) (rApp 4 (vVar 6)))))))
  (rRet (gv (gLc (gRange3 (aCons (vC (.int 0)) (aCons (gv (gR1 dLen (rVar 4))) (aCons (vC (.int 2)) aNil)))) (bName 9) gYes (gTup2 (aCons (gIx (rVar 4) (vVar 9)) (aCons (gIx (rVar 4) (b2 dAdd (vVar 9) (vC (.int 1)))) aNil))) [9]))))))))))
def φ__combined : List D → Option D := runDef 11 R__combined
def R_spans_minus : En → Option Out :=
  (rRet (gCall 3 φ__combined (aCons (vVar 0) (aCons (vVar 1) (aCons (vC k_IN_FIRST_ALONE) aNil)))))
def φ_spans_minus : List D → Option D := runDef 2 R_spans_minus
def R_index_behind : En → Option Out :=
  (rSeq (rSet 2 (vC (.int 0)))
  (rSeq (rSet 3 (gv (gR1 dLen (rVar 0))))
  (rSeq (rWhile (fun _ => 100000) (tB (b2 dLt (vVar 2) (vVar 3))) (rSeq (rSet 4 (b2 dFdiv (b2 dAdd (vVar 2) (vVar 3)) (vC (.int 2))))
  (rIf (tB (b2 dLe (gIx (gr (gIx (rVar 0) (vVar 4))) (vC (.int 1))) (vVar 1))) (rSet 2 (b2 dAdd (vVar 4) (vC (.int 1)))) (rSet 3 (vVar 4)))))
  (rRet (vVar 2)))))
def φ_index_behind : List D → Option D := runDef 5 R_index_behind
def R__spans_at : En → Option Out :=
  (rSeq (rSet 2 (gCall 2 φ_index_behind (aCons (vVar 0) (aCons (vVar 1) aNil))))
  (rSeq (rIf (tAnd2 (tB (b2 dLt (vVar 2) (gv (gR1 dLen (rVar 0))))) (tB (b2 dLe (gIx (gr (gIx (rVar 0) (vVar 2))) (vC (.int 0))) (vVar 1)))) (rRet (gIx (gr (gIx (rVar 0) (vVar 2))) (vC (.int 2)))) rNext)
  (rRet (gv (gLst2 aNil)))))
def φ__spans_at : List D → Option D := runDef 3 R__spans_at
def R_at_known : En → Option Out :=
  (rRet (gv (gR1 dList (gr (gCall 2 φ__spans_at (aCons (vVar 0) (aCons (vVar 1) aNil)))))))
def φ_at_known : List D → Option D := runDef 2 R_at_known
def R_corrections : En → Option Out :=
  (rSeq (rOwn 3 (gLst2 aNil))
  (rSeq (rFor (gItems2 (vVar 0)) (bTup 2 (bCons (bName 4) (bCons (bName 5) bNil))) (rSeq (rSet 6 (gCall 2 φ_at_known (aCons (vVar 5) (aCons (vVar 1) aNil))))
  (rSeq (rSet 7 (gCall 2 φ_at_known (aCons (vVar 5) (aCons (vVar 2) aNil))))
  (rFor (gItems2 (gTup2 (aCons (gTup2 (aCons (vC (.str "came")) (aCons (gCall 2 φ_spans_minus (aCons (vVar 7) (aCons (vVar 6) aNil))) aNil))) (aCons (gTup2 (aCons (vC (.str "went")) (aCons (gCall 2 φ_spans_minus (aCons (vVar 6) (aCons (vVar 7) aNil))) aNil))) aNil)))) (bTup 2 (bCons (bName 8) (bCons (bName 9) bNil))) (rIf (gTru (wVar 9)) (rApp 3 (gTup2 (aCons (vVar 4) (aCons (vVar 8) (aCons (vVar 9) aNil))))) rNext)))))
  (frzR 3 (rRet (vVar 3)))))
def φ_corrections : List D → Option D := runDef 10 R_corrections
def R__law_state : En → Option On :=
  (nSeq (rSet 1 (vC (.int 0)))
  (nSeq (rSet 2 (vC (.int 0)))
  (nSeq (rIf (tB (b2 dGt (gv (gR1 dLen (rVar 0))) (vC (.int 0)))) (rSeq (rSet 1 (b2 dMod (gv (gR1 dInt (gr (gIx (rVar 0) (vC (.int 0)))))) (vC (.int 2))))
  (rSet 2 (gIx (gLst2 (aCons (b2 dFdiv (gv (gR1 dAbs (gr (gIx (rVar 0) (vC (.int 0)))))) (vC (.int 2))) (aCons (vC (.int 1)) aNil))) (vVar 1)))) rNext)
  (nRet (gLst2 (aCons (vVar 0) (aCons (vVar 2) (aCons (vC (.int 1)) (aCons (vVar 1) (aCons (gv (gLst2 aNil)) (aCons (vC (.int 0)) (aCons (vC (.int 0)) (aCons (vC (.int 0)) aNil)))))))))))))
def φ__law_state : List D → Option (List D) := runN 3 R__law_state
def R__law_take : En → Option Ot :=
  (sSeq (sIf (up (tB (b2 dEq (gIx (rVar 0) (vC (.int 3))) (vC (.int 1))))) (sSeq (sSet 3 (up (gIx (gr (gIx (rVar 0) (vC (.int 0)))) (b2 dMod (gv (gR1 dInt (gr (gIx (rVar 0) (vC (.int 2)))))) (gv (gR1 dLen (gr (gIx (rVar 0) (vC (.int 0))))))))))
  (sSeq (sPut 0 (vC (.int 1)) (b2 dMod (gv (gR1 dInt (gr (b2 dAdd (b2 dAdd (b2 dAdd (b2 dMul (gIx (rVar 0) (vC (.int 1))) (vC (.int 48271))) (b2 dMul (vVar 3) (vC (.int 69621)))) (b2 dMul (gIx (rVar 0) (vC (.int 2))) (vC (.int 7919)))) (vC (.int 11)))))) (vC (.int 2147483647))))
  (sSeq (sPut 0 (vC (.int 2)) (b2 dAdd (gIx (rVar 0) (vC (.int 2))) (vC (.int 1))))
  (sRet (up (b2 dMod (b2 dMod (gv (gR1 dInt (gr (b2 dAdd (b2 dMul (gIx (rVar 0) (vC (.int 1))) (vC (.int 16807))) (vC (.int 5)))))) (vC (.int 2147483629))) (vVar 1))))))) sNext)
  (sSeq (sIf (up (tB (b2 dEq (gIx (rVar 0) (vC (.int 1))) (vC (.int 0))))) (sSeq (sIf (up (tB (b2 dGe (gIx (rVar 0) (vC (.int 2))) (gv (gR1 dLen (gr (gIx (rVar 0) (vC (.int 0))))))))) (sRet (up (vC (.int 0)))) sNext)
  (sSeq (sPut 0 (vC (.int 1)) (gv (gR1 dAbs (gr (gIx (gr (gIx (rVar 0) (vC (.int 0)))) (gIx (rVar 0) (vC (.int 2))))))))
  (sPut 0 (vC (.int 2)) (b2 dAdd (gIx (rVar 0) (vC (.int 2))) (vC (.int 1)))))) sNext)
  (sSeq (sSet 2 (up (b2 dMod (gv (gR1 dInt (gr (gIx (rVar 0) (vC (.int 1)))))) (vVar 1))))
  (sSeq (sPut 0 (vC (.int 1)) (b2 dFdiv (gIx (rVar 0) (vC (.int 1))) (vVar 1)))
  (sRet (up (vVar 2)))))))
def φ__law_take : List D → List D → Option Rs2 := runS 3 R__law_take
def R__law_datum : En → Option Ot :=
  (sSeq (sIf (up (tB (b2 dEqT (vVar 1) (vC (.str "text"))))) (sRet (gIxQ (up (gv (gLst2 (aCons (vC (.str "")) (aCons (vC (.str "a")) (aCons (vC (.str "b")) (aCons (vC (.str "ab")) aNil))))))) (gCallS 0 1 φ__law_take (up (aCons (vC (.int 4)) aNil))))) sNext)
  (sRet (b2Q dSub (gCallS 0 1 φ__law_take (up (aCons (vC (.int 3)) aNil))) (up (vC (.int 1))))))
def φ__law_datum : List D → List D → Option Rs2 := runS 1 R__law_datum
def R__law_drawn_rows : En → Option Ot :=
  (sSeq (sOwn 3 (gLst2 aNil))
  (sSeq (sFor (gRg1Q (aConsQ (gCallS 0 1 φ__law_take (up (aCons (b2 dAdd (vVar 2) (vC (.int 1))) aNil))) (up aNil))) (bName 4) (sApp 3 (gFnQ (d1of dTuple) (aConsQ (gFzQ (gLcQ (up (gItems2 (vVar 1))) (bName 5) gYes (gCallS 0 1 φ__law_datum (up (aCons (vVar 5) aNil))) [5])) (up aNil)))))
  (sRet (up (gv (gR1 dSortAny (rVar 3)))))))
def φ__law_drawn_rows : List D → List D → Option Rs2 := runS 5 R__law_drawn_rows
def R__law_holds : En → Option Out :=
  (rRet (gv (gR1 dAny (gLc (gItems2 (vVar 0)) (bName 3) gYes (gAnd (b2 dLe (gIx (rVar 3) (vC (.int 0))) (vVar 1)) (gAnd (b2 dLt (vVar 1) (gIx (rVar 3) (vC (.int 1)))) (gAnd (b2 dLe (gIx (rVar 3) (vC (.int 2))) (vVar 2)) (b2 dLt (vVar 2) (gIx (rVar 3) (vC (.int 3))))))) [3]))))
def φ__law_holds : List D → Option D := runDef 4 R__law_holds
def R__law_strips : En → Option Out :=
  (rSeq (rOwn 3 (gLst2 aNil))
  (rSeq (rFor (gRange1 (aCons (b2 dSub (gv (gR1 dLen (rVar 1))) (vC (.int 1))) aNil)) (bName 4) (rSeq (rOwn 5 (gLst2 aNil))
  (rSeq (rFor (gRange1 (aCons (b2 dSub (gv (gR1 dLen (rVar 0))) (vC (.int 1))) aNil)) (bName 6) (rIf (tAnd2 (gTru (gIx (gr (gIx (rVar 2) (vVar 4))) (vVar 6))) (tAnd2 (gTru (wVar 5)) (tB (b2 dEq (gIx (gr (gIx (rVar 5) (b1 dNeg (vC (.int 1))))) (vC (.int 1))) (gIx (rVar 0) (vVar 6)))))) (rPut 5 (b1 dNeg (vC (.int 1))) (gTup2 (aCons (gIx (gr (gIx (rVar 5) (b1 dNeg (vC (.int 1))))) (vC (.int 0))) (aCons (gIx (rVar 0) (b2 dAdd (vVar 6) (vC (.int 1)))) aNil)))) (rIf (gTru (gIx (gr (gIx (rVar 2) (vVar 4))) (vVar 6))) (rApp 5 (gTup2 (aCons (gIx (rVar 0) (vVar 6)) (aCons (gIx (rVar 0) (b2 dAdd (vVar 6) (vC (.int 1)))) aNil)))) rNext)))
  (rIf (tAnd2 (gTru (wVar 5)) (tAnd2 (gTru (wVar 3)) (tAnd2 (tB (b2 dEq (gIx (gr (gIx (rVar 3) (b1 dNeg (vC (.int 1))))) (vC (.int 1))) (gIx (rVar 1) (vVar 4)))) (tB (b2 dEq (gIx (gr (gIx (rVar 3) (b1 dNeg (vC (.int 1))))) (vC (.int 2))) (wVar 5)))))) (fun ρ => (rPut 3 (b1 dNeg (vC (.int 1))) (gTup2 (aCons (gIx (gr (gIx (rVar 3) (b1 dNeg (vC (.int 1))))) (vC (.int 0))) (aCons (gIx (rVar 1) (b2 dAdd (vVar 4) (vC (.int 1)))) (aCons (vVar 5) aNil))))) (frz 5 ρ)) (rIf (gTru (wVar 5)) (fun ρ => (rApp 3 (gTup2 (aCons (gIx (rVar 1) (vVar 4)) (aCons (gIx (rVar 1) (b2 dAdd (vVar 4) (vC (.int 1)))) (aCons (vVar 5) aNil))))) (frz 5 ρ)) rNext)))))
  (fun ρ => (rRet (vVar 3)) (frz 3 ρ))))
def φ__law_strips : List D → Option D := runDef 7 R__law_strips
def R__law_region : En → Option Out :=
  (rSeq (rSet 1 (gv (gR1 dSortSet (gr (b2 dAdd (gv (gLc (gItems2 (vVar 0)) (bName 6) gYes (gIx (rVar 6) (vC (.int 0))) [6])) (gv (gLc (gItems2 (vVar 0)) (bName 6) gYes (gIx (rVar 6) (vC (.int 1))) [6])))))))
  (rSeq (rSet 2 (gv (gR1 dSortSet (gr (b2 dAdd (gv (gLc (gItems2 (vVar 0)) (bName 6) gYes (gIx (rVar 6) (vC (.int 2))) [6])) (gv (gLc (gItems2 (vVar 0)) (bName 6) gYes (gIx (rVar 6) (vC (.int 3))) [6])))))))
  (rSeq (rOwn 3 (gLst2 aNil))
  (rSeq (rFor (gRange1 (aCons (b2 dSub (gv (gR1 dLen (rVar 2))) (vC (.int 1))) aNil)) (bName 4) (rApp 3 (gv (gLc (gRange1 (aCons (b2 dSub (gv (gR1 dLen (rVar 1))) (vC (.int 1))) aNil)) (bName 5) gYes (gCall 3 φ__law_holds (aCons (vVar 0) (aCons (gIx (rVar 1) (vVar 5)) (aCons (gIx (rVar 2) (vVar 4)) aNil)))) [5]))))
  (fun ρ => (rRet (gCall 3 φ__law_strips (aCons (vVar 1) (aCons (vVar 2) (aCons (vVar 3) aNil))))) (frz 3 ρ))))))
def φ__law_region : List D → Option D := runDef 7 R__law_region
def R__law_window : En → Option Ot :=
  (sSeq (sSet 1 (gCallS 0 1 φ__law_take (up (aCons (vC (.int 6)) aNil))))
  (sSeq (sSet 2 (gCallS 0 1 φ__law_take (up (aCons (vC (.int 4)) aNil))))
  (sRet (gTupQ (aConsQ (up (vVar 1)) (aConsQ (b2Q dAdd (up (b2 dAdd (vVar 1) (vC (.int 1)))) (gCallS 0 1 φ__law_take (up (aCons (vC (.int 4)) aNil)))) (aConsQ (up (vVar 2)) (aConsQ (b2Q dAdd (up (b2 dAdd (vVar 2) (vC (.int 1)))) (gCallS 0 1 φ__law_take (up (aCons (vC (.int 3)) aNil)))) (up aNil)))))))))
def φ__law_window : List D → List D → Option Rs2 := runS 2 R__law_window
def R__law_relation : En → Option Ot :=
  (sSeq (sOwn 3 (gLst2 aNil))
  (sSeq (sFor (gItQ (gCallS 0 2 φ__law_drawn_rows (up (aCons (vVar 1) (aCons (vVar 2) aNil))))) (bName 4) (sSeq (sOwnN 5 (gLnQ (aConsQ (gCallS 0 0 φ__law_window (up aNil)) (up aNil))))
  (sSeq (sIf (tBQ (b2Q dEq (gCallS 0 1 φ__law_take (up (aCons (vC (.int 3)) aNil))) (up (vC (.int 1))))) (sApp 5 (gCallS 0 0 φ__law_window (up aNil))) sNext)
  (frzR 5 (sApp 3 (up (gTup2 (aCons (vVar 4) (aCons (gCall 1 φ__law_region (aCons (vVar 5) aNil)) aNil)))))))))
  (frzR 3 (sRet (up (vVar 3))))))
def φ__law_relation : List D → List D → Option Rs2 := runS 5 R__law_relation
def R__law_stands : En → Option Out :=
  (rSeq (rFor (gItems2 (vVar 0)) (bName 3) (rIf (tAnd2 (tB (b2 dLe (gIx (rVar 3) (vC (.int 0))) (vVar 2))) (tB (b2 dLt (vVar 2) (gIx (rVar 3) (vC (.int 1)))))) (rRet (gv (gR1 dAny (gLc (gItems2 (gIx (rVar 3) (vC (.int 2)))) (bName 4) gYes (gAnd (b2 dLe (gIx (rVar 4) (vC (.int 0))) (vVar 1)) (b2 dLt (vVar 1) (gIx (rVar 4) (vC (.int 1))))) [4])))) rNext))
  (rRet (vC (.bool false))))
def φ__law_stands : List D → Option D := runDef 5 R__law_stands
def R__law_spans : En → Option Out :=
  (rSeq (rOwn 1 (gLst2 aNil))
  (rSeq (rFor (gItems2 (vVar 0)) (bName 2) (rIf (tAnd2 (gTru (wVar 1)) (tB (b2 dEq (gIx (gr (gIx (rVar 1) (b1 dNeg (vC (.int 1))))) (vC (.int 1))) (wVar 2)))) (rPut 1 (b1 dNeg (vC (.int 1))) (gTup2 (aCons (gIx (gr (gIx (rVar 1) (b1 dNeg (vC (.int 1))))) (vC (.int 0))) (aCons (b2 dAdd (vVar 2) (vC (.int 1))) aNil)))) (rApp 1 (gTup2 (aCons (vVar 2) (aCons (b2 dAdd (vVar 2) (vC (.int 1))) aNil))))))
  (frzR 1 (rRet (vVar 1)))))
def φ__law_spans : List D → Option D := runDef 3 R__law_spans
def R_law : En → Option Ot :=
  (sSeq (sOwnN 1 (gCallN 1 φ__law_state (up (aCons (vVar 0) aNil))))
  (sSeq (sSet 2 (gCallS 1 2 φ__law_relation (aConsQ (gIxQ (up (gv (gLst2 (aCons (gv (gLst2 (aCons (vC (.str "number")) (aCons (vC (.str "text")) aNil)))) (aCons (gv (gLst2 (aCons (vC (.str "text")) aNil))) (aCons (gv (gLst2 (aCons (vC (.str "number")) aNil))) aNil)))))) (gCallS 1 1 φ__law_take (up (aCons (vC (.int 3)) aNil)))) (up (aCons (vC (.int 5)) aNil)))))
  (sSeq (sSet 3 (gCallS 1 1 φ__law_take (up (aCons (vC (.int 8)) aNil))))
  (sSeq (sSet 4 (gCallS 1 1 φ__law_take (up (aCons (vC (.int 8)) aNil))))
  (sSeq (sOwn 5 (gLst2 aNil))
  (sSeq (sFor (up (gItems2 (vVar 2))) (bName 6) (sSeq (sSet 8 (up (gv (gLc (gRange1 (aCons (vC (.int 12)) aNil)) (bName 12) (gTru (gCall 3 φ__law_stands (aCons (gIx (rVar 6) (vC (.int 1))) (aCons (vVar 12) (aCons (vVar 3) aNil))))) (vVar 12) [12]))))
  (sSeq (sSet 9 (up (gv (gLc (gRange1 (aCons (vC (.int 12)) aNil)) (bName 12) (gTru (gCall 3 φ__law_stands (aCons (gIx (rVar 6) (vC (.int 1))) (aCons (vVar 12) (aCons (vVar 4) aNil))))) (vVar 12) [12]))))
  (sSeq (sOwn 10 (gLc (gItems2 (vVar 9)) (bName 12) (tB (b2 dNotIn (vVar 12) (vVar 8))) (vVar 12) [12]))
  (frzR 10 (sSeq (sOwn 11 (gLc (gItems2 (vVar 8)) (bName 12) (tB (b2 dNotIn (vVar 12) (vVar 9))) (vVar 12) [12]))
  (frzR 11 (sSeq (sIf (up (gTru (wVar 10))) (sApp 5 (up (gTup2 (aCons (gIx (rVar 6) (vC (.int 0))) (aCons (vC (.str "came")) (aCons (gCall 1 φ__law_spans (aCons (vVar 10) aNil)) aNil)))))) sNext)
  (sIf (up (gTru (wVar 11))) (sApp 5 (up (gTup2 (aCons (gIx (rVar 6) (vC (.int 0))) (aCons (vC (.str "went")) (aCons (gCall 1 φ__law_spans (aCons (vVar 11) aNil)) aNil)))))) sNext)))))))))
  (sSeq (sSet 7 (up (gv (gR1 dRepr (rVar 2)))))
  (sRet (up (gAnd (b2 dEqT (gv (gR1 dRepr (gr (gCall 3 φ_corrections (aCons (vVar 2) (aCons (vVar 3) (aCons (vVar 4) aNil))))))) (gv (gR1 dRepr (rVar 5)))) (b2 dEqT (gv (gR1 dRepr (rVar 2))) (vVar 7))))))))))))
def φ_law : List D → Option D := runQ 13 R_law
section
variable [FnTab] {P : Program} {w : World} {K : PySem.W.Frag} {mg : Str → Option Value} {base : Heap}
theorem ok__combined {f : Addr} {fd : FuncData} (F : Fun K "_combined" "_combined" s__combined f fd) (gm : mg "_combined" = some (.ref f)) (z_list : mg "list" = none) (z_sorted : mg "sorted" = none) (z_range : mg "range" = none) (z_len : mg "len" = none) : Fk P w K mg base 1 "_combined" 3 φ__combined := by
  refine ⟨f, fd, ["first", "second", "wanted"], fn_pu (R := R__combined) (N := n__combined) F sc__combined (fun cdv A outer s H E hr => ?_), gm, F.kp, F.binds fun _ _ _ _ _ _ us hl => match us, hl with | [_, _, _], _ => rfl⟩
  exact (qss_cons (qs_if (pt_eq hr.units (pw_var (pv 0)) (pw_var (pv 1))) (qss_one (qs_ret (pv_if (pt_pw (pw_v (pv_ix (pu_var (pv 2)) (pv_c pe_int (fun _ => .int _)) (fun _ _ => rfl)))) (pv_of (pu_callT1 cl_list (by rfl) z_list bt_list (pu_var (pv 0)))) (pv_of (pu_lst qa_nil))))) qss_nil)
      (qss_cons (qs_if (qt_not (pt_pw (pw_var (pv 1)))) (qss_one (qs_ret (pv_if (pt_pw (pw_v (pv_ix (pu_var (pv 2)) (pv_c pe_int (fun _ => .int _)) (fun _ _ => rfl)))) (pv_of (pu_callT1 cl_list (by rfl) z_list bt_list (pu_var (pv 0)))) (pv_of (pu_lst qa_nil))))) qss_nil)
      (qss_cons (qs_if (qt_not (pt_pw (pw_var (pv 0)))) (qss_one (qs_ret (pv_if (pt_pw (pw_v (pv_ix (pu_var (pv 2)) (pv_c pe_int (fun _ => .int _)) (fun _ _ => rfl)))) (pv_of (pu_callT1 cl_list (by rfl) z_list bt_list (pu_var (pv 1)))) (pv_of (pu_lst qa_nil))))) qss_nil)
      (qss_cons (qs_set (i := 3) sc__combined.nd rfl (by first | exact .inl rfl | exact .inr rfl) (pv_of (pu_call1 cl_sortX (by rfl) z_sorted bt_sorted (pu_of (pv_op or_add (pv_of (pu_lc2 (own := [("span", 10), ("n", 6)]) (vs1 := [6]) rfl sc__combined.nd (qi_lt (pv_var (pv 0))) (blkOk_by (N := n__combined) (sc := defScope s__combined) (by decide +kernel)) (fun _ _ _ _ _ => (qg_name (i := 10) sc__combined.nd rfl (by first | exact .inl rfl | exact .inr rfl))) (fun _ _ _ _ _ => qt_yes) (fun _ _ _ _ _ => (qi_lt (pv_var (pv 10)))) (fun _ _ _ _ _ => (qg_name (i := 6) sc__combined.nd rfl (by first | exact .inl rfl | exact .inr rfl))) (fun _ _ _ _ _ => qt_yes) (fun _ _ _ _ _ => (pv_tup (qa_cons (pv_var (pv 6)) (qa_cons (pv_c pe_int (fun _ => .int _)) qa_nil)))) nb_name)) (pv_of (pu_lc2 (own := [("span", 10), ("n", 6)]) (vs1 := [6]) rfl sc__combined.nd (qi_lt (pv_var (pv 1))) (blkOk_by (N := n__combined) (sc := defScope s__combined) (by decide +kernel)) (fun _ _ _ _ _ => (qg_name (i := 10) sc__combined.nd rfl (by first | exact .inl rfl | exact .inr rfl))) (fun _ _ _ _ _ => qt_yes) (fun _ _ _ _ _ => (qi_lt (pv_var (pv 10)))) (fun _ _ _ _ _ => (qg_name (i := 6) sc__combined.nd rfl (by first | exact .inl rfl | exact .inr rfl))) (fun _ _ _ _ _ => qt_yes) (fun _ _ _ _ _ => (pv_tup (qa_cons (pv_var (pv 6)) (qa_cons (pv_c pe_int (fun _ => .int _)) qa_nil)))) nb_name)))))))
      (qss_cons (qs_own (i := 4) sc__combined.nd rfl (by first | exact .inl rfl | exact .inr rfl) (pu_lst qa_nil))
      (qss_cons (qs_set (i := 5) sc__combined.nd rfl (by first | exact .inl rfl | exact .inr rfl) (pv_c pe_int (fun _ => .int _)))
      (qss_cons (qs_for PassesOwn.never rfl (qi_lt (pv_var (pv 3))) (qg_tup (fun h => pg_tup rfl h rfl) (fun h => pg_unl rfl h rfl) (qgs_cons (qg_name (i := 6) sc__combined.nd rfl (by first | exact .inl rfl | exact .inr rfl)) (qgs_cons (qg_name (i := 7) sc__combined.nd rfl (by first | exact .inl rfl | exact .inr rfl)) qgs_nil))) (qss_cons (qs_set (i := 8) sc__combined.nd rfl (by first | exact .inl rfl | exact .inr rfl) (pv_ix (pu_var (pv 2)) (pv_var (pv 5)) (fun _ _ => rfl)))
      (qss_cons (qs_set (i := 5) sc__combined.nd rfl (by first | exact .inl rfl | exact .inr rfl) (pv_op or_xor (pv_var (pv 5)) (pv_var (pv 7))))
      (qss_cons (qs_if (pt_eq hr.units (pw_v (pv_ix (pu_var (pv 2)) (pv_var (pv 5)) (fun _ _ => rfl))) (pw_var (pv 8))) (qss_one qs_continue) qss_nil)
      (qss_one (qs_if (qw_and (pt_pw (pw_var (pv 4))) (qw_and1 (pt_eq hr.units (pw_v (pv_ix (pu_var (pv 4)) (pv_neg (pv_c pe_int (fun _ => .int _))) (fun _ _ => rfl))) (pw_var (pv 6))))).pt (qss_one (qs_pop (pv 4) (fun hx => pe_bm0 PySem.F.plainAttrs_list PySem.F.slot_list_pop PySem.F.type_list_pop mt_pop hx))) (qss_one (qs_append (pv 4) (pv_var (pv 6)) (fun hx he => pe_bm PySem.F.plainAttrs_list PySem.F.slot_list_append PySem.F.type_list_append mt_append hx (pa_cons he pa_nil))))))))))
      (qss_one (qs_ret (pv_of (pu_lc (own := [("at", 9)]) rfl sc__combined.nd (qi_range3 (by rfl) z_range (qa_cons (pv_c pe_int (fun _ => .int _)) (qa_cons (pv_of (pu_call1 cl_len (by rfl) z_len bt_len (pu_var (pv 4)))) (qa_cons (pv_c pe_int (fun _ => .int _)) qa_nil)))) (blkOk_by (N := n__combined) (sc := defScope s__combined) (by decide +kernel)) (fun _ _ _ _ _ => (qg_name (i := 9) sc__combined.nd rfl (by first | exact .inl rfl | exact .inr rfl))) (fun _ _ _ _ _ => qt_yes) (fun _ _ _ _ _ => (pv_tup (qa_cons (pv_ix (pu_var (pv 4)) (pv_var (pv 9)) (fun _ _ => rfl)) (qa_cons (pv_ix (pu_var (pv 4)) (pv_op or_add (pv_var (pv 9)) (pv_c pe_int (fun _ => .int _))) (fun _ _ => rfl)) qa_nil)))))))))))))))
theorem ok_spans_minus {f : Addr} {fd : FuncData} (F : Fun K "spans_minus" "spans_minus" s_spans_minus f fd) (gm : mg "spans_minus" = some (.ref f)) (c_IN_FIRST_ALONE : Ck K mg "IN_FIRST_ALONE" k_IN_FIRST_ALONE) (f__combined : Fk P w K mg base 1 "_combined" 3 φ__combined) : Fk P w K mg base 2 "spans_minus" 2 φ_spans_minus := by
  refine ⟨f, fd, ["first", "second"], fn_pu (R := R_spans_minus) (N := n_spans_minus) F sc_spans_minus (fun cdv A outer s H E hr => ?_), gm, F.kp, F.binds fun _ _ _ _ _ _ us hl => match us, hl with | [_, _], _ => rfl⟩
  exact (qss_one (qs_ret (pv_callF f__combined hr (by decide) (by rfl) (qa_cons (pv_var (pv 0)) (qa_cons (pv_var (pv 1)) (qa_cons (pv_glob c_IN_FIRST_ALONE (by rfl)) qa_nil))))))
theorem ok_index_behind {f : Addr} {fd : FuncData} (F : Fun K "index_behind" "index_behind" s_index_behind f fd) (gm : mg "index_behind" = some (.ref f)) (z_len : mg "len" = none) : Fk P w K mg base 1 "index_behind" 2 φ_index_behind := by
  refine ⟨f, fd, ["parts", "n"], fn_pu (R := R_index_behind) (N := n_index_behind) F sc_index_behind (fun cdv A outer s H E hr => ?_), gm, F.kp, F.binds fun _ _ _ _ _ _ us hl => match us, hl with | [_, _], _ => rfl⟩
  exact (qss_cons (qs_set (i := 2) sc_index_behind.nd rfl (by first | exact .inl rfl | exact .inr rfl) (pv_c pe_int (fun _ => .int _)))
      (qss_cons (qs_set (i := 3) sc_index_behind.nd rfl (by first | exact .inl rfl | exact .inr rfl) (pv_of (pu_call1 cl_len (by rfl) z_len bt_len (pu_var (pv 0)))))
      (qss_cons (qs_while (fun _ => 100000) PassesOwn.never (pt_cmp2 or_lt (pv_var (pv 2)) (pv_var (pv 3)) (nomark _)) (qss_cons (qs_set (i := 4) sc_index_behind.nd rfl (by first | exact .inl rfl | exact .inr rfl) (pv_op or_fdiv (pv_op or_add (pv_var (pv 2)) (pv_var (pv 3))) (pv_c pe_int (fun _ => .int _))))
      (qss_one (qs_if (pt_cmp2 or_le (pv_ix (pu_of (pv_ix (pu_var (pv 0)) (pv_var (pv 4)) (fun _ _ => rfl))) (pv_c pe_int (fun _ => .int _)) (fun _ _ => rfl)) (pv_var (pv 1)) (nomark _)) (qss_one (qs_set (i := 2) sc_index_behind.nd rfl (by first | exact .inl rfl | exact .inr rfl) (pv_op or_add (pv_var (pv 4)) (pv_c pe_int (fun _ => .int _))))) (qss_one (qs_set (i := 3) sc_index_behind.nd rfl (by first | exact .inl rfl | exact .inr rfl) (pv_var (pv 4))))))))
      (qss_one (qs_ret (pv_var (pv 2)))))))
theorem ok__spans_at {f : Addr} {fd : FuncData} (F : Fun K "_spans_at" "_spans_at" s__spans_at f fd) (gm : mg "_spans_at" = some (.ref f)) (z_len : mg "len" = none) (f_index_behind : Fk P w K mg base 1 "index_behind" 2 φ_index_behind) : Fk P w K mg base 2 "_spans_at" 2 φ__spans_at := by
  refine ⟨f, fd, ["region", "k"], fn_pu (R := R__spans_at) (N := n__spans_at) F sc__spans_at (fun cdv A outer s H E hr => ?_), gm, F.kp, F.binds fun _ _ _ _ _ _ us hl => match us, hl with | [_, _], _ => rfl⟩
  exact (qss_cons (qs_set (i := 2) sc__spans_at.nd rfl (by first | exact .inl rfl | exact .inr rfl) (pv_callF f_index_behind hr (by decide) (by rfl) (qa_cons (pv_var (pv 0)) (qa_cons (pv_var (pv 1)) qa_nil))))
      (qss_cons (qs_if (qw_and (pt_cmp2 or_lt (pv_var (pv 2)) (pv_of (pu_call1 cl_len (by rfl) z_len bt_len (pu_var (pv 0)))) (nomark _)) (qw_and1 (pt_cmp2 or_le (pv_ix (pu_of (pv_ix (pu_var (pv 0)) (pv_var (pv 2)) (fun _ _ => rfl))) (pv_c pe_int (fun _ => .int _)) (fun _ _ => rfl)) (pv_var (pv 1)) (nomark _)))).pt (qss_one (qs_ret (pv_ix (pu_of (pv_ix (pu_var (pv 0)) (pv_var (pv 2)) (fun _ _ => rfl))) (pv_c pe_int (fun _ => .int _)) (fun _ _ => rfl)))) qss_nil)
      (qss_one (qs_ret (pv_of (pu_lst qa_nil))))))
theorem ok_at_known {f : Addr} {fd : FuncData} (F : Fun K "at_known" "at_known" s_at_known f fd) (gm : mg "at_known" = some (.ref f)) (z_list : mg "list" = none) (f__spans_at : Fk P w K mg base 2 "_spans_at" 2 φ__spans_at) : Fk P w K mg base 3 "at_known" 2 φ_at_known := by
  refine ⟨f, fd, ["region", "k"], fn_pu (R := R_at_known) (N := n_at_known) F sc_at_known (fun cdv A outer s H E hr => ?_), gm, F.kp, F.binds fun _ _ _ _ _ _ us hl => match us, hl with | [_, _], _ => rfl⟩
  exact (qss_one (qs_ret (pv_of (pu_callT1 cl_list (by rfl) z_list bt_list (pu_of (pv_callF f__spans_at hr (by decide) (by rfl) (qa_cons (pv_var (pv 0)) (qa_cons (pv_var (pv 1)) qa_nil))))))))
theorem ok_corrections {f : Addr} {fd : FuncData} (F : Fun K "corrections" "corrections" s_corrections f fd) (gm : mg "corrections" = some (.ref f)) (f_at_known : Fk P w K mg base 3 "at_known" 2 φ_at_known) (f_spans_minus : Fk P w K mg base 2 "spans_minus" 2 φ_spans_minus) : Fk P w K mg base 4 "corrections" 3 φ_corrections := by
  refine ⟨f, fd, ["relation", "j", "k"], fn_pu (R := R_corrections) (N := n_corrections) F sc_corrections (fun cdv A outer s H E hr => ?_), gm, F.kp, F.binds fun _ _ _ _ _ _ us hl => match us, hl with | [_, _, _], _ => rfl⟩
  exact (qss_cons (qs_own (i := 3) sc_corrections.nd rfl (by first | exact .inl rfl | exact .inr rfl) (pu_lst qa_nil))
      (qss_cons (qs_for PassesOwn.never rfl (qi_lt (pv_var (pv 0))) (qg_tup (fun h => pg_tup rfl h rfl) (fun h => pg_unl rfl h rfl) (qgs_cons (qg_name (i := 4) sc_corrections.nd rfl (by first | exact .inl rfl | exact .inr rfl)) (qgs_cons (qg_name (i := 5) sc_corrections.nd rfl (by first | exact .inl rfl | exact .inr rfl)) qgs_nil))) (qss_cons (qs_set (i := 6) sc_corrections.nd rfl (by first | exact .inl rfl | exact .inr rfl) (pv_callF f_at_known hr (by decide) (by rfl) (qa_cons (pv_var (pv 5)) (qa_cons (pv_var (pv 1)) qa_nil))))
      (qss_cons (qs_set (i := 7) sc_corrections.nd rfl (by first | exact .inl rfl | exact .inr rfl) (pv_callF f_at_known hr (by decide) (by rfl) (qa_cons (pv_var (pv 5)) (qa_cons (pv_var (pv 2)) qa_nil))))
      (qss_one (qs_for PassesOwn.never rfl (qi_lt (pv_tup (qa_cons (pv_tup (qa_cons (pv_c pe_str (fun _ => .str _)) (qa_cons (pv_callF f_spans_minus hr (by decide) (by rfl) (qa_cons (pv_var (pv 7)) (qa_cons (pv_var (pv 6)) qa_nil))) qa_nil))) (qa_cons (pv_tup (qa_cons (pv_c pe_str (fun _ => .str _)) (qa_cons (pv_callF f_spans_minus hr (by decide) (by rfl) (qa_cons (pv_var (pv 6)) (qa_cons (pv_var (pv 7)) qa_nil))) qa_nil))) qa_nil)))) (qg_tup (fun h => pg_tup rfl h rfl) (fun h => pg_unl rfl h rfl) (qgs_cons (qg_name (i := 8) sc_corrections.nd rfl (by first | exact .inl rfl | exact .inr rfl)) (qgs_cons (qg_name (i := 9) sc_corrections.nd rfl (by first | exact .inl rfl | exact .inr rfl)) qgs_nil))) (qss_one (qs_if (pt_pw (pw_var (pv 9))) (qss_one (qs_append (pv 3) (pv_tup (qa_cons (pv_var (pv 4)) (qa_cons (pv_var (pv 8)) (qa_cons (pv_var (pv 9)) qa_nil)))) (fun hx he => pe_bm PySem.F.plainAttrs_list PySem.F.slot_list_append PySem.F.type_list_append mt_append hx (pa_cons he pa_nil)))) qss_nil)))))))
      (qss_one (qs_freeze 3 (qs_ret (pv_var (pv 3)))))))
theorem ok__law_state {f : Addr} {fd : FuncData} (F : Fun K "_law_state" "_law_state" s__law_state f fd) (gm : mg "_law_state" = some (.ref f)) (z_len : mg "len" = none) (z_int : mg "int" = none) (z_abs : mg "abs" = none) : Fn1 P w K mg base 1 "_law_state" 1 φ__law_state := by
  refine ⟨⟨f, fd, ["script"], fn_n (R := R__law_state) (N := n__law_state) F sc__law_state (fun cdv A outer s H E hr => ?_), gm, F.kp, F.binds fun _ _ _ _ _ _ us hl => match us, hl with | [_], _ => rfl⟩⟩
  exact (qn_cons (qs_set (i := 1) sc__law_state.nd rfl (by first | exact .inl rfl | exact .inr rfl) (pv_c pe_int (fun _ => .int _)))
      (qn_cons (qs_set (i := 2) sc__law_state.nd rfl (by first | exact .inl rfl | exact .inr rfl) (pv_c pe_int (fun _ => .int _)))
      (qn_cons (qs_if (pt_cmp2 or_gt (pv_of (pu_call1 cl_len (by rfl) z_len bt_len (pu_var (pv 0)))) (pv_c pe_int (fun _ => .int _)) (nomark _)) (qss_cons (qs_set (i := 1) sc__law_state.nd rfl (by first | exact .inl rfl | exact .inr rfl) (pv_op or_mod (pv_of (pu_callT1 cl_int (by rfl) z_int bt_int (pu_of (pv_ix (pu_var (pv 0)) (pv_c pe_int (fun _ => .int _)) (fun _ _ => rfl))))) (pv_c pe_int (fun _ => .int _))))
      (qss_one (qs_set (i := 2) sc__law_state.nd rfl (by first | exact .inl rfl | exact .inr rfl) (pv_ix (pu_lst (qa_cons (pv_op or_fdiv (pv_of (pu_call1 cl_abs (by rfl) z_abs bt_abs (pu_of (pv_ix (pu_var (pv 0)) (pv_c pe_int (fun _ => .int _)) (fun _ _ => rfl))))) (pv_c pe_int (fun _ => .int _))) (qa_cons (pv_c pe_int (fun _ => .int _)) qa_nil))) (pv_var (pv 1)) (fun _ _ => rfl))))) qss_nil)
      (qn_ret (pu_lst (qa_cons (pv_var (pv 0)) (qa_cons (pv_var (pv 2)) (qa_cons (pv_c pe_int (fun _ => .int _)) (qa_cons (pv_var (pv 1)) (qa_cons (pv_of (pu_lst qa_nil)) (qa_cons (pv_c pe_int (fun _ => .int _)) (qa_cons (pv_c pe_int (fun _ => .int _)) (qa_cons (pv_c pe_int (fun _ => .int _)) qa_nil)))))))))))))
theorem ok__law_take {f : Addr} {fd : FuncData} (F : Fun K "_law_take" "_law_take" s__law_take f fd) (gm : mg "_law_take" = some (.ref f)) (z_int : mg "int" = none) (z_len : mg "len" = none) (z_abs : mg "abs" = none) : Fs P w K mg base 1 "_law_take" 1 φ__law_take := by
  refine ⟨⟨f, fd, ["state", "many"], fn_s (R := R__law_take) (N := n__law_take) F sc__law_take rfl rfl (fun cdv A outer s H E hr => ?_), gm, F.kp, F.binds fun _ _ _ _ _ _ us hl => match us, hl with | [_, _], _ => rfl⟩⟩
  exact (sq_cons (sq_if (qt_up (pt_eq hr.units (pw_v (pv_ix (pu_var (pv 0)) (pv_c pe_int (fun _ => .int _)) (fun _ _ => rfl))) (pw_v (pv_c pe_int (fun _ => .int _))))) (sq_cons (sq_set (i := 3) (.inr (by decide)) sc__law_take.nd rfl (by first | exact .inl rfl | exact .inr rfl) (qv_up (pv_ix (pu_of (pv_ix (pu_var (pv 0)) (pv_c pe_int (fun _ => .int _)) (fun _ _ => rfl))) (pv_op or_mod (pv_of (pu_callT1 cl_int (by rfl) z_int bt_int (pu_of (pv_ix (pu_var (pv 0)) (pv_c pe_int (fun _ => .int _)) (fun _ _ => rfl))))) (pv_of (pu_call1 cl_len (by rfl) z_len bt_len (pu_of (pv_ix (pu_var (pv 0)) (pv_c pe_int (fun _ => .int _)) (fun _ _ => rfl)))))) (fun _ _ => rfl))))
      (sq_cons (sq_put (pv 0) (pv_c pe_int (fun _ => .int _)) (pv_op or_mod (pv_of (pu_callT1 cl_int (by rfl) z_int bt_int (pu_of (pv_op or_add (pv_op or_add (pv_op or_add (pv_op or_mul (pv_ix (pu_var (pv 0)) (pv_c pe_int (fun _ => .int _)) (fun _ _ => rfl)) (pv_c pe_int (fun _ => .int _))) (pv_op or_mul (pv_var (pv 3)) (pv_c pe_int (fun _ => .int _)))) (pv_op or_mul (pv_ix (pu_var (pv 0)) (pv_c pe_int (fun _ => .int _)) (fun _ _ => rfl)) (pv_c pe_int (fun _ => .int _)))) (pv_c pe_int (fun _ => .int _)))))) (pv_c pe_int (fun _ => .int _))) rfl rfl (fun hx hk => pg_sub hx hk set_list))
      (sq_cons (sq_put (pv 0) (pv_c pe_int (fun _ => .int _)) (pv_op or_add (pv_ix (pu_var (pv 0)) (pv_c pe_int (fun _ => .int _)) (fun _ _ => rfl)) (pv_c pe_int (fun _ => .int _))) rfl rfl (fun hx hk => pg_sub hx hk set_list))
      (sq_one (sq_ret (qv_up (pv_op or_mod (pv_op or_mod (pv_of (pu_callT1 cl_int (by rfl) z_int bt_int (pu_of (pv_op or_add (pv_op or_mul (pv_ix (pu_var (pv 0)) (pv_c pe_int (fun _ => .int _)) (fun _ _ => rfl)) (pv_c pe_int (fun _ => .int _))) (pv_c pe_int (fun _ => .int _)))))) (pv_c pe_int (fun _ => .int _))) (pv_var (pv 1))))))))) sq_nil)
      (sq_cons (sq_if (qt_up (pt_eq hr.units (pw_v (pv_ix (pu_var (pv 0)) (pv_c pe_int (fun _ => .int _)) (fun _ _ => rfl))) (pw_v (pv_c pe_int (fun _ => .int _))))) (sq_cons (sq_if (qt_up (pt_cmp2 or_ge (pv_ix (pu_var (pv 0)) (pv_c pe_int (fun _ => .int _)) (fun _ _ => rfl)) (pv_of (pu_call1 cl_len (by rfl) z_len bt_len (pu_of (pv_ix (pu_var (pv 0)) (pv_c pe_int (fun _ => .int _)) (fun _ _ => rfl))))) (nomark _))) (sq_one (sq_ret (qv_up (pv_c pe_int (fun _ => .int _))))) sq_nil)
      (sq_cons (sq_put (pv 0) (pv_c pe_int (fun _ => .int _)) (pv_of (pu_call1 cl_abs (by rfl) z_abs bt_abs (pu_of (pv_ix (pu_of (pv_ix (pu_var (pv 0)) (pv_c pe_int (fun _ => .int _)) (fun _ _ => rfl))) (pv_ix (pu_var (pv 0)) (pv_c pe_int (fun _ => .int _)) (fun _ _ => rfl)) (fun _ _ => rfl))))) rfl rfl (fun hx hk => pg_sub hx hk set_list))
      (sq_one (sq_put (pv 0) (pv_c pe_int (fun _ => .int _)) (pv_op or_add (pv_ix (pu_var (pv 0)) (pv_c pe_int (fun _ => .int _)) (fun _ _ => rfl)) (pv_c pe_int (fun _ => .int _))) rfl rfl (fun hx hk => pg_sub hx hk set_list))))) sq_nil)
      (sq_cons (sq_set (i := 2) (.inr (by decide)) sc__law_take.nd rfl (by first | exact .inl rfl | exact .inr rfl) (qv_up (pv_op or_mod (pv_of (pu_callT1 cl_int (by rfl) z_int bt_int (pu_of (pv_ix (pu_var (pv 0)) (pv_c pe_int (fun _ => .int _)) (fun _ _ => rfl))))) (pv_var (pv 1)))))
      (sq_cons (sq_put (pv 0) (pv_c pe_int (fun _ => .int _)) (pv_op or_fdiv (pv_ix (pu_var (pv 0)) (pv_c pe_int (fun _ => .int _)) (fun _ _ => rfl)) (pv_var (pv 1))) rfl rfl (fun hx hk => pg_sub hx hk set_list))
      (sq_one (sq_ret (qv_up (pv_var (pv 2)))))))))
theorem ok__law_datum {f : Addr} {fd : FuncData} (F : Fun K "_law_datum" "_law_datum" s__law_datum f fd) (gm : mg "_law_datum" = some (.ref f)) (f__law_take : Fs P w K mg base 1 "_law_take" 1 φ__law_take) : Fs P w K mg base 2 "_law_datum" 1 φ__law_datum := by
  refine ⟨⟨f, fd, ["state", "kind"], fn_s (R := R__law_datum) (N := n__law_datum) F sc__law_datum rfl rfl (fun cdv A outer s H E hr => ?_), gm, F.kp, F.binds fun _ _ _ _ _ _ us hl => match us, hl with | [_, _], _ => rfl⟩⟩
  exact (sq_cons (sq_if (qt_up (pt_cmp2 (or_eqT hr.units) (pv_var (pv 1)) (pv_c pe_str (fun _ => .str _)) (nomark _))) (sq_one (sq_ret (qv_ix (qv_up (pv_of (pu_lst (qa_cons (pv_c pe_str (fun _ => .str _)) (qa_cons (pv_c pe_str (fun _ => .str _)) (qa_cons (pv_c pe_str (fun _ => .str _)) (qa_cons (pv_c pe_str (fun _ => .str _)) qa_nil))))))) (qv_callS (i := 0) f__law_take (takes_of rfl rfl rfl rfl) (pv 0) hr (by decide) (by rfl) (qa_up (qa_cons (pv_c pe_int (fun _ => .int _)) qa_nil))) (fun _ _ => rfl)))) sq_nil)
      (sq_one (sq_ret (qv_op or_sub (qv_callS (i := 0) f__law_take (takes_of rfl rfl rfl rfl) (pv 0) hr (by decide) (by rfl) (qa_up (qa_cons (pv_c pe_int (fun _ => .int _)) qa_nil))) (qv_up (pv_c pe_int (fun _ => .int _)))))))
theorem ok__law_drawn_rows {f : Addr} {fd : FuncData} (F : Fun K "_law_drawn_rows" "_law_drawn_rows" s__law_drawn_rows f fd) (gm : mg "_law_drawn_rows" = some (.ref f)) (z_range : mg "range" = none) (z_tuple : mg "tuple" = none) (z_sorted : mg "sorted" = none) (z_set : mg "set" = none) (f__law_take : Fs P w K mg base 1 "_law_take" 1 φ__law_take) (f__law_datum : Fs P w K mg base 2 "_law_datum" 1 φ__law_datum) : Fs P w K mg base 3 "_law_drawn_rows" 2 φ__law_drawn_rows := by
  refine ⟨⟨f, fd, ["state", "kinds", "most"], fn_s (R := R__law_drawn_rows) (N := n__law_drawn_rows) F sc__law_drawn_rows rfl rfl (fun cdv A outer s H E hr => ?_), gm, F.kp, F.binds fun _ _ _ _ _ _ us hl => match us, hl with | [_, _, _], _ => rfl⟩⟩
  exact (sq_cons (sq_own (i := 3) (.inr (by decide)) sc__law_drawn_rows.nd rfl (by first | exact .inl rfl | exact .inr rfl) (pu_lst qa_nil))
      (sq_cons (sq_for (.inr (by decide)) (passes_of rfl) rfl (qi_rg1Q (by rfl) z_range (qa_consQ (qv_callS (i := 0) f__law_take (takes_of rfl rfl rfl rfl) (pv 0) hr (by decide) (by rfl) (qa_up (qa_cons (pv_op or_add (pv_var (pv 2)) (pv_c pe_int (fun _ => .int _))) qa_nil))) (qa_up qa_nil))) (qg_name (i := 4) sc__law_drawn_rows.nd rfl (by first | exact .inl rfl | exact .inr rfl)) (sq_one (sq_append (pv 3) (qv_callT (rPc_of cl_tuple) (by rfl) z_tuple bt_tuple (qa_consQ (qv_ofn (qn_lc (own := [("kind", 5)]) rfl sc__law_drawn_rows.nd nb_name kb_name (qi_up (qi_lt (pv_var (pv 1)))) (blkOk_by (N := n__law_drawn_rows) (sc := defScope s__law_drawn_rows) (by decide +kernel)) (fun _ _ _ _ _ => (qg_name (i := 5) sc__law_drawn_rows.nd rfl (by first | exact .inl rfl | exact .inr rfl))) (fun _ _ _ _ _ => qt_yes) (fun _ _ _ _ _ => (qv_callS (i := 0) f__law_datum takes0 (pv 0) hr (by decide) (by rfl) (qa_up (qa_cons (pv_var (pv 5)) qa_nil)))))) (qa_up qa_nil))) (fun hx he => pe_bm PySem.F.plainAttrs_list PySem.F.slot_list_append PySem.F.type_list_append mt_append hx (pa_cons he pa_nil)))))
      (sq_one (sq_ret (qv_up (pv_of (pu_sortAny rfl hr.units (by rfl) z_sorted bt_sorted (by rfl) z_set bt_set (pu_var (pv 3)))))))))
theorem ok__law_holds {f : Addr} {fd : FuncData} (F : Fun K "_law_holds" "_law_holds" s__law_holds f fd) (gm : mg "_law_holds" = some (.ref f)) (z_any : mg "any" = none) : Fk P w K mg base 1 "_law_holds" 3 φ__law_holds := by
  refine ⟨f, fd, ["rectangles", "m", "k"], fn_pu (R := R__law_holds) (N := n__law_holds) F sc__law_holds (fun cdv A outer s H E hr => ?_), gm, F.kp, F.binds fun _ _ _ _ _ _ us hl => match us, hl with | [_, _, _], _ => rfl⟩
  exact (qss_one (qs_ret (pv_of (pu_call1 (cl_any rfl) (by rfl) z_any bt_any (pu_lc (own := [("row", 3)]) rfl sc__law_holds.nd (qi_lt (pv_var (pv 0))) (blkOk_by (N := n__law_holds) (sc := defScope s__law_holds) (by decide +kernel)) (fun _ _ _ _ _ => (qg_name (i := 3) sc__law_holds.nd rfl (by first | exact .inl rfl | exact .inr rfl))) (fun _ _ _ _ _ => qt_yes) (fun _ _ _ _ _ => (pv_and (pv_cmp or_le (pv_ix (pu_var (pv 3)) (pv_c pe_int (fun _ => .int _)) (fun _ _ => rfl)) (pv_var (pv 1)) (nomark _)) (pv_and (pv_cmp or_lt (pv_var (pv 1)) (pv_ix (pu_var (pv 3)) (pv_c pe_int (fun _ => .int _)) (fun _ _ => rfl)) (nomark _)) (pv_and (pv_cmp or_le (pv_ix (pu_var (pv 3)) (pv_c pe_int (fun _ => .int _)) (fun _ _ => rfl)) (pv_var (pv 2)) (nomark _)) (pv_one (pv_cmp or_lt (pv_var (pv 2)) (pv_ix (pu_var (pv 3)) (pv_c pe_int (fun _ => .int _)) (fun _ _ => rfl)) (nomark _))))))))))))
theorem ok__law_strips {f : Addr} {fd : FuncData} (F : Fun K "_law_strips" "_law_strips" s__law_strips f fd) (gm : mg "_law_strips" = some (.ref f)) (z_range : mg "range" = none) (z_len : mg "len" = none) : Fk P w K mg base 1 "_law_strips" 3 φ__law_strips := by
  refine ⟨f, fd, ["xs", "ks", "table"], fn_pu (R := R__law_strips) (N := n__law_strips) F sc__law_strips (fun cdv A outer s H E hr => ?_), gm, F.kp, F.binds fun _ _ _ _ _ _ us hl => match us, hl with | [_, _, _], _ => rfl⟩
  exact (qss_cons (qs_own (i := 3) sc__law_strips.nd rfl (by first | exact .inl rfl | exact .inr rfl) (pu_lst qa_nil))
      (qss_cons (qs_for PassesOwn.never rfl (qi_range1 (by rfl) z_range (qa_cons (pv_op or_sub (pv_of (pu_call1 cl_len (by rfl) z_len bt_len (pu_var (pv 1)))) (pv_c pe_int (fun _ => .int _))) qa_nil)) (qg_name (i := 4) sc__law_strips.nd rfl (by first | exact .inl rfl | exact .inr rfl)) (qss_cons (qs_own (i := 5) sc__law_strips.nd rfl (by first | exact .inl rfl | exact .inr rfl) (pu_lst qa_nil))
      (qss_cons (qs_for PassesOwn.never rfl (qi_range1 (by rfl) z_range (qa_cons (pv_op or_sub (pv_of (pu_call1 cl_len (by rfl) z_len bt_len (pu_var (pv 0)))) (pv_c pe_int (fun _ => .int _))) qa_nil)) (qg_name (i := 6) sc__law_strips.nd rfl (by first | exact .inl rfl | exact .inr rfl)) (qss_one (qs_if (qw_and (pt_pw (pw_v (pv_ix (pu_of (pv_ix (pu_var (pv 2)) (pv_var (pv 4)) (fun _ _ => rfl))) (pv_var (pv 6)) (fun _ _ => rfl)))) (qw_and (pt_pw (pw_var (pv 5))) (qw_and1 (pt_eq hr.units (pw_v (pv_ix (pu_of (pv_ix (pu_var (pv 5)) (pv_neg (pv_c pe_int (fun _ => .int _))) (fun _ _ => rfl))) (pv_c pe_int (fun _ => .int _)) (fun _ _ => rfl))) (pw_v (pv_ix (pu_var (pv 0)) (pv_var (pv 6)) (fun _ _ => rfl))))))).pt (qss_one (qs_put (pv 5) (pv_neg (pv_c pe_int (fun _ => .int _))) (pv_tup (qa_cons (pv_ix (pu_of (pv_ix (pu_var (pv 5)) (pv_neg (pv_c pe_int (fun _ => .int _))) (fun _ _ => rfl))) (pv_c pe_int (fun _ => .int _)) (fun _ _ => rfl)) (qa_cons (pv_ix (pu_var (pv 0)) (pv_op or_add (pv_var (pv 6)) (pv_c pe_int (fun _ => .int _))) (fun _ _ => rfl)) qa_nil))) rfl rfl (fun hx hk => pg_sub hx hk set_list))) (qss_one (qs_if (pt_pw (pw_v (pv_ix (pu_of (pv_ix (pu_var (pv 2)) (pv_var (pv 4)) (fun _ _ => rfl))) (pv_var (pv 6)) (fun _ _ => rfl)))) (qss_one (qs_append (pv 5) (pv_tup (qa_cons (pv_ix (pu_var (pv 0)) (pv_var (pv 6)) (fun _ _ => rfl)) (qa_cons (pv_ix (pu_var (pv 0)) (pv_op or_add (pv_var (pv 6)) (pv_c pe_int (fun _ => .int _))) (fun _ _ => rfl)) qa_nil))) (fun hx he => pe_bm PySem.F.plainAttrs_list PySem.F.slot_list_append PySem.F.type_list_append mt_append hx (pa_cons he pa_nil)))) qss_nil)))))
      (qss_one (qs_if (qw_and (pt_pw (pw_var (pv 5))) (qw_and (pt_pw (pw_var (pv 3))) (qw_and (pt_eq hr.units (pw_v (pv_ix (pu_of (pv_ix (pu_var (pv 3)) (pv_neg (pv_c pe_int (fun _ => .int _))) (fun _ _ => rfl))) (pv_c pe_int (fun _ => .int _)) (fun _ _ => rfl))) (pw_v (pv_ix (pu_var (pv 1)) (pv_var (pv 4)) (fun _ _ => rfl)))) (qw_and1 (pt_eq hr.units (pw_v (pv_ix (pu_of (pv_ix (pu_var (pv 3)) (pv_neg (pv_c pe_int (fun _ => .int _))) (fun _ _ => rfl))) (pv_c pe_int (fun _ => .int _)) (fun _ _ => rfl))) (pw_var (pv 5))))))).pt (qss_one (qs_freeze 5 (qs_put (pv 3) (pv_neg (pv_c pe_int (fun _ => .int _))) (pv_tup (qa_cons (pv_ix (pu_of (pv_ix (pu_var (pv 3)) (pv_neg (pv_c pe_int (fun _ => .int _))) (fun _ _ => rfl))) (pv_c pe_int (fun _ => .int _)) (fun _ _ => rfl)) (qa_cons (pv_ix (pu_var (pv 1)) (pv_op or_add (pv_var (pv 4)) (pv_c pe_int (fun _ => .int _))) (fun _ _ => rfl)) (qa_cons (pv_var (pv 5)) qa_nil)))) rfl rfl (fun hx hk => pg_sub hx hk set_list)))) (qss_one (qs_if (pt_pw (pw_var (pv 5))) (qss_one (qs_freeze 5 (qs_append (pv 3) (pv_tup (qa_cons (pv_ix (pu_var (pv 1)) (pv_var (pv 4)) (fun _ _ => rfl)) (qa_cons (pv_ix (pu_var (pv 1)) (pv_op or_add (pv_var (pv 4)) (pv_c pe_int (fun _ => .int _))) (fun _ _ => rfl)) (qa_cons (pv_var (pv 5)) qa_nil)))) (fun hx he => pe_bm PySem.F.plainAttrs_list PySem.F.slot_list_append PySem.F.type_list_append mt_append hx (pa_cons he pa_nil))))) qss_nil)))))))
      (qss_one (qs_freeze 3 (qs_ret (pv_var (pv 3)))))))
theorem ok__law_region {f : Addr} {fd : FuncData} (F : Fun K "_law_region" "_law_region" s__law_region f fd) (gm : mg "_law_region" = some (.ref f)) (z_sorted : mg "sorted" = none) (z_set : mg "set" = none) (z_range : mg "range" = none) (z_len : mg "len" = none) (f__law_holds : Fk P w K mg base 1 "_law_holds" 3 φ__law_holds) (f__law_strips : Fk P w K mg base 1 "_law_strips" 3 φ__law_strips) : Fk P w K mg base 2 "_law_region" 1 φ__law_region := by
  refine ⟨f, fd, ["rectangles"], fn_pu (R := R__law_region) (N := n__law_region) F sc__law_region (fun cdv A outer s H E hr => ?_), gm, F.kp, F.binds fun _ _ _ _ _ _ us hl => match us, hl with | [_], _ => rfl⟩
  exact (qss_cons (qs_set (i := 1) sc__law_region.nd rfl (by first | exact .inl rfl | exact .inr rfl) (pv_of (pu_sortSet rfl (by rfl) z_sorted bt_sorted (by rfl) z_set bt_set (pu_of (pv_op or_add (pv_of (pu_lc (own := [("row", 6)]) rfl sc__law_region.nd (qi_lt (pv_var (pv 0))) (blkOk_by (N := n__law_region) (sc := defScope s__law_region) (by decide +kernel)) (fun _ _ _ _ _ => (qg_name (i := 6) sc__law_region.nd rfl (by first | exact .inl rfl | exact .inr rfl))) (fun _ _ _ _ _ => qt_yes) (fun _ _ _ _ _ => (pv_ix (pu_var (pv 6)) (pv_c pe_int (fun _ => .int _)) (fun _ _ => rfl))))) (pv_of (pu_lc (own := [("row", 6)]) rfl sc__law_region.nd (qi_lt (pv_var (pv 0))) (blkOk_by (N := n__law_region) (sc := defScope s__law_region) (by decide +kernel)) (fun _ _ _ _ _ => (qg_name (i := 6) sc__law_region.nd rfl (by first | exact .inl rfl | exact .inr rfl))) (fun _ _ _ _ _ => qt_yes) (fun _ _ _ _ _ => (pv_ix (pu_var (pv 6)) (pv_c pe_int (fun _ => .int _)) (fun _ _ => rfl))))))))))
      (qss_cons (qs_set (i := 2) sc__law_region.nd rfl (by first | exact .inl rfl | exact .inr rfl) (pv_of (pu_sortSet rfl (by rfl) z_sorted bt_sorted (by rfl) z_set bt_set (pu_of (pv_op or_add (pv_of (pu_lc (own := [("row", 6)]) rfl sc__law_region.nd (qi_lt (pv_var (pv 0))) (blkOk_by (N := n__law_region) (sc := defScope s__law_region) (by decide +kernel)) (fun _ _ _ _ _ => (qg_name (i := 6) sc__law_region.nd rfl (by first | exact .inl rfl | exact .inr rfl))) (fun _ _ _ _ _ => qt_yes) (fun _ _ _ _ _ => (pv_ix (pu_var (pv 6)) (pv_c pe_int (fun _ => .int _)) (fun _ _ => rfl))))) (pv_of (pu_lc (own := [("row", 6)]) rfl sc__law_region.nd (qi_lt (pv_var (pv 0))) (blkOk_by (N := n__law_region) (sc := defScope s__law_region) (by decide +kernel)) (fun _ _ _ _ _ => (qg_name (i := 6) sc__law_region.nd rfl (by first | exact .inl rfl | exact .inr rfl))) (fun _ _ _ _ _ => qt_yes) (fun _ _ _ _ _ => (pv_ix (pu_var (pv 6)) (pv_c pe_int (fun _ => .int _)) (fun _ _ => rfl))))))))))
      (qss_cons (qs_own (i := 3) sc__law_region.nd rfl (by first | exact .inl rfl | exact .inr rfl) (pu_lst qa_nil))
      (qss_cons (qs_for PassesOwn.never rfl (qi_range1 (by rfl) z_range (qa_cons (pv_op or_sub (pv_of (pu_call1 cl_len (by rfl) z_len bt_len (pu_var (pv 2)))) (pv_c pe_int (fun _ => .int _))) qa_nil)) (qg_name (i := 4) sc__law_region.nd rfl (by first | exact .inl rfl | exact .inr rfl)) (qss_one (qs_append (pv 3) (pv_of (pu_lc (own := [("i", 5)]) rfl sc__law_region.nd (qi_range1 (by rfl) z_range (qa_cons (pv_op or_sub (pv_of (pu_call1 cl_len (by rfl) z_len bt_len (pu_var (pv 1)))) (pv_c pe_int (fun _ => .int _))) qa_nil)) (blkOk_by (N := n__law_region) (sc := defScope s__law_region) (by decide +kernel)) (fun _ _ _ _ _ => (qg_name (i := 5) sc__law_region.nd rfl (by first | exact .inl rfl | exact .inr rfl))) (fun _ _ _ _ _ => qt_yes) (fun _ _ _ _ _ => (pv_callF f__law_holds hr (by decide) (by rfl) (qa_cons (pv_var (pv 0)) (qa_cons (pv_ix (pu_var (pv 1)) (pv_var (pv 5)) (fun _ _ => rfl)) (qa_cons (pv_ix (pu_var (pv 2)) (pv_var (pv 4)) (fun _ _ => rfl)) qa_nil))))))) (fun hx he => pe_bm PySem.F.plainAttrs_list PySem.F.slot_list_append PySem.F.type_list_append mt_append hx (pa_cons he pa_nil)))))
      (qss_one (qs_freeze 3 (qs_ret (pv_callF f__law_strips hr (by decide) (by rfl) (qa_cons (pv_var (pv 1)) (qa_cons (pv_var (pv 2)) (qa_cons (pv_var (pv 3)) qa_nil)))))))))))
theorem ok__law_window {f : Addr} {fd : FuncData} (F : Fun K "_law_window" "_law_window" s__law_window f fd) (gm : mg "_law_window" = some (.ref f)) (f__law_take : Fs P w K mg base 1 "_law_take" 1 φ__law_take) : Fs P w K mg base 2 "_law_window" 0 φ__law_window := by
  refine ⟨⟨f, fd, ["state"], fn_s (R := R__law_window) (N := n__law_window) F sc__law_window rfl rfl (fun cdv A outer s H E hr => ?_), gm, F.kp, F.binds fun _ _ _ _ _ _ us hl => match us, hl with | [_], _ => rfl⟩⟩
  exact (sq_cons (sq_set (i := 1) (.inr (by decide)) sc__law_window.nd rfl (by first | exact .inl rfl | exact .inr rfl) (qv_callS (i := 0) f__law_take (takes_of rfl rfl rfl rfl) (pv 0) hr (by decide) (by rfl) (qa_up (qa_cons (pv_c pe_int (fun _ => .int _)) qa_nil))))
      (sq_cons (sq_set (i := 2) (.inr (by decide)) sc__law_window.nd rfl (by first | exact .inl rfl | exact .inr rfl) (qv_callS (i := 0) f__law_take (takes_of rfl rfl rfl rfl) (pv 0) hr (by decide) (by rfl) (qa_up (qa_cons (pv_c pe_int (fun _ => .int _)) qa_nil))))
      (sq_one (sq_ret (qv_tup (qa_consQ (qv_up (pv_var (pv 1))) (qa_consQ (qv_op or_add (qv_up (pv_op or_add (pv_var (pv 1)) (pv_c pe_int (fun _ => .int _)))) (qv_callS (i := 0) f__law_take (takes_of rfl rfl rfl rfl) (pv 0) hr (by decide) (by rfl) (qa_up (qa_cons (pv_c pe_int (fun _ => .int _)) qa_nil)))) (qa_consQ (qv_up (pv_var (pv 2))) (qa_consQ (qv_op or_add (qv_up (pv_op or_add (pv_var (pv 2)) (pv_c pe_int (fun _ => .int _)))) (qv_callS (i := 0) f__law_take (takes_of rfl rfl rfl rfl) (pv 0) hr (by decide) (by rfl) (qa_up (qa_cons (pv_c pe_int (fun _ => .int _)) qa_nil)))) (qa_up qa_nil))))))))))
theorem ok__law_relation {f : Addr} {fd : FuncData} (F : Fun K "_law_relation" "_law_relation" s__law_relation f fd) (gm : mg "_law_relation" = some (.ref f)) (f__law_drawn_rows : Fs P w K mg base 3 "_law_drawn_rows" 2 φ__law_drawn_rows) (f__law_window : Fs P w K mg base 2 "_law_window" 0 φ__law_window) (f__law_take : Fs P w K mg base 1 "_law_take" 1 φ__law_take) (f__law_region : Fk P w K mg base 2 "_law_region" 1 φ__law_region) : Fs P w K mg base 4 "_law_relation" 2 φ__law_relation := by
  refine ⟨⟨f, fd, ["state", "kinds", "most"], fn_s (R := R__law_relation) (N := n__law_relation) F sc__law_relation rfl rfl (fun cdv A outer s H E hr => ?_), gm, F.kp, F.binds fun _ _ _ _ _ _ us hl => match us, hl with | [_, _, _], _ => rfl⟩⟩
  exact (sq_cons (sq_own (i := 3) (.inr (by decide)) sc__law_relation.nd rfl (by first | exact .inl rfl | exact .inr rfl) (pu_lst qa_nil))
      (sq_cons (sq_for (.inr (by decide)) (passes_of rfl) rfl (qi_ltQ (qv_callS (i := 0) f__law_drawn_rows (takes_of rfl rfl rfl rfl) (pv 0) hr (by decide) (by rfl) (qa_up (qa_cons (pv_var (pv 1)) (qa_cons (pv_var (pv 2)) qa_nil))))) (qg_name (i := 4) sc__law_relation.nd rfl (by first | exact .inl rfl | exact .inr rfl)) (sq_cons (sq_ownN (i := 5) (.inr (by decide)) sc__law_relation.nd rfl (by first | exact .inl rfl | exact .inr rfl) (qn_lst (qa_consQ (qv_callS (i := 0) f__law_window (takes_of rfl rfl rfl rfl) (pv 0) hr (by decide) (by rfl) (qa_up qa_nil)) (qa_up qa_nil))))
      (sq_cons (sq_if (qt_cmp (or_eq hr.units) (qv_callS (i := 0) f__law_take (takes_of rfl rfl rfl rfl) (pv 0) hr (by decide) (by rfl) (qa_up (qa_cons (pv_c pe_int (fun _ => .int _)) qa_nil))) (qv_up (pv_c pe_int (fun _ => .int _))) (nomark _)) (sq_one (sq_append (pv 5) (qv_callS (i := 0) f__law_window (takes_of rfl rfl rfl rfl) (pv 0) hr (by decide) (by rfl) (qa_up qa_nil)) (fun hx he => pe_bm PySem.F.plainAttrs_list PySem.F.slot_list_append PySem.F.type_list_append mt_append hx (pa_cons he pa_nil)))) sq_nil)
      (sq_one (sq_freeze 5 (sq_append (pv 3) (qv_up (pv_tup (qa_cons (pv_var (pv 4)) (qa_cons (pv_callF f__law_region hr (by decide) (by rfl) (qa_cons (pv_var (pv 5)) qa_nil)) qa_nil)))) (fun hx he => pe_bm PySem.F.plainAttrs_list PySem.F.slot_list_append PySem.F.type_list_append mt_append hx (pa_cons he pa_nil))))))))
      (sq_one (sq_freeze 3 (sq_ret (qv_up (pv_var (pv 3))))))))
theorem ok__law_stands {f : Addr} {fd : FuncData} (F : Fun K "_law_stands" "_law_stands" s__law_stands f fd) (gm : mg "_law_stands" = some (.ref f)) (z_any : mg "any" = none) : Fk P w K mg base 1 "_law_stands" 3 φ__law_stands := by
  refine ⟨f, fd, ["region", "m", "k"], fn_pu (R := R__law_stands) (N := n__law_stands) F sc__law_stands (fun cdv A outer s H E hr => ?_), gm, F.kp, F.binds fun _ _ _ _ _ _ us hl => match us, hl with | [_, _, _], _ => rfl⟩
  exact (qss_cons (qs_for PassesOwn.never rfl (qi_lt (pv_var (pv 0))) (qg_name (i := 3) sc__law_stands.nd rfl (by first | exact .inl rfl | exact .inr rfl)) (qss_one (qs_if (qw_and (pt_cmp2 or_le (pv_ix (pu_var (pv 3)) (pv_c pe_int (fun _ => .int _)) (fun _ _ => rfl)) (pv_var (pv 2)) (nomark _)) (qw_and1 (pt_cmp2 or_lt (pv_var (pv 2)) (pv_ix (pu_var (pv 3)) (pv_c pe_int (fun _ => .int _)) (fun _ _ => rfl)) (nomark _)))).pt (qss_one (qs_ret (pv_of (pu_call1 (cl_any rfl) (by rfl) z_any bt_any (pu_lc (own := [("span", 4)]) rfl sc__law_stands.nd (qi_lt (pv_ix (pu_var (pv 3)) (pv_c pe_int (fun _ => .int _)) (fun _ _ => rfl))) (blkOk_by (N := n__law_stands) (sc := defScope s__law_stands) (by decide +kernel)) (fun _ _ _ _ _ => (qg_name (i := 4) sc__law_stands.nd rfl (by first | exact .inl rfl | exact .inr rfl))) (fun _ _ _ _ _ => qt_yes) (fun _ _ _ _ _ => (pv_and (pv_cmp or_le (pv_ix (pu_var (pv 4)) (pv_c pe_int (fun _ => .int _)) (fun _ _ => rfl)) (pv_var (pv 1)) (nomark _)) (pv_one (pv_cmp or_lt (pv_var (pv 1)) (pv_ix (pu_var (pv 4)) (pv_c pe_int (fun _ => .int _)) (fun _ _ => rfl)) (nomark _)))))))))) qss_nil)))
      (qss_one (qs_ret (pv_c pe_bl (fun _ => .bl _)))))
theorem ok__law_spans {f : Addr} {fd : FuncData} (F : Fun K "_law_spans" "_law_spans" s__law_spans f fd) (gm : mg "_law_spans" = some (.ref f))  : Fk P w K mg base 1 "_law_spans" 1 φ__law_spans := by
  refine ⟨f, fd, ["moments"], fn_pu (R := R__law_spans) (N := n__law_spans) F sc__law_spans (fun cdv A outer s H E hr => ?_), gm, F.kp, F.binds fun _ _ _ _ _ _ us hl => match us, hl with | [_], _ => rfl⟩
  exact (qss_cons (qs_own (i := 1) sc__law_spans.nd rfl (by first | exact .inl rfl | exact .inr rfl) (pu_lst qa_nil))
      (qss_cons (qs_for PassesOwn.never rfl (qi_lt (pv_var (pv 0))) (qg_name (i := 2) sc__law_spans.nd rfl (by first | exact .inl rfl | exact .inr rfl)) (qss_one (qs_if (qw_and (pt_pw (pw_var (pv 1))) (qw_and1 (pt_eq hr.units (pw_v (pv_ix (pu_of (pv_ix (pu_var (pv 1)) (pv_neg (pv_c pe_int (fun _ => .int _))) (fun _ _ => rfl))) (pv_c pe_int (fun _ => .int _)) (fun _ _ => rfl))) (pw_var (pv 2))))).pt (qss_one (qs_put (pv 1) (pv_neg (pv_c pe_int (fun _ => .int _))) (pv_tup (qa_cons (pv_ix (pu_of (pv_ix (pu_var (pv 1)) (pv_neg (pv_c pe_int (fun _ => .int _))) (fun _ _ => rfl))) (pv_c pe_int (fun _ => .int _)) (fun _ _ => rfl)) (qa_cons (pv_op or_add (pv_var (pv 2)) (pv_c pe_int (fun _ => .int _))) qa_nil))) rfl rfl (fun hx hk => pg_sub hx hk set_list))) (qss_one (qs_append (pv 1) (pv_tup (qa_cons (pv_var (pv 2)) (qa_cons (pv_op or_add (pv_var (pv 2)) (pv_c pe_int (fun _ => .int _))) qa_nil))) (fun hx he => pe_bm PySem.F.plainAttrs_list PySem.F.slot_list_append PySem.F.type_list_append mt_append hx (pa_cons he pa_nil)))))))
      (qss_one (qs_freeze 1 (qs_ret (pv_var (pv 1)))))))
theorem ok_law' {f : Addr} {fd : FuncData} (F : Fun K "law" "law" s_law f fd) (z_range : mg "range" = none) (z_repr : mg "repr" = none) (f__law_state : Fn1 P w K mg base 1 "_law_state" 1 φ__law_state) (f__law_relation : Fs P w K mg base 4 "_law_relation" 2 φ__law_relation) (f__law_take : Fs P w K mg base 1 "_law_take" 1 φ__law_take) (f__law_stands : Fk P w K mg base 1 "_law_stands" 3 φ__law_stands) (f__law_spans : Fk P w K mg base 1 "_law_spans" 1 φ__law_spans) (f_corrections : Fk P w K mg base 4 "corrections" 3 φ_corrections) : FnG P w K mg base CX0 5 f fd ["script"] (spPu K 1 φ_law) :=
  fn_q (R := R_law) (N := n_law) F sc_law fun cdv A outer s H E hr =>
  (sq_cons (sq_ownN (i := 1) (.inl rfl) sc_law.nd rfl (by first | exact .inl rfl | exact .inr rfl) (qn_callN f__law_state hr (by decide) (by rfl) (qa_up (qa_cons (pv_var (pv 0)) qa_nil))))
      (sq_cons (sq_set (i := 2) (.inl rfl) sc_law.nd rfl (by first | exact .inl rfl | exact .inr rfl) (qv_callS (i := 1) f__law_relation takes0 (pv 1) hr (by decide) (by rfl) (qa_consQ (qv_ix (qv_up (pv_of (pu_lst (qa_cons (pv_of (pu_lst (qa_cons (pv_c pe_str (fun _ => .str _)) (qa_cons (pv_c pe_str (fun _ => .str _)) qa_nil)))) (qa_cons (pv_of (pu_lst (qa_cons (pv_c pe_str (fun _ => .str _)) qa_nil))) (qa_cons (pv_of (pu_lst (qa_cons (pv_c pe_str (fun _ => .str _)) qa_nil))) qa_nil)))))) (qv_callS (i := 1) f__law_take takes0 (pv 1) hr (by decide) (by rfl) (qa_up (qa_cons (pv_c pe_int (fun _ => .int _)) qa_nil))) (fun _ _ => rfl)) (qa_up (qa_cons (pv_c pe_int (fun _ => .int _)) qa_nil)))))
      (sq_cons (sq_set (i := 3) (.inl rfl) sc_law.nd rfl (by first | exact .inl rfl | exact .inr rfl) (qv_callS (i := 1) f__law_take takes0 (pv 1) hr (by decide) (by rfl) (qa_up (qa_cons (pv_c pe_int (fun _ => .int _)) qa_nil))))
      (sq_cons (sq_set (i := 4) (.inl rfl) sc_law.nd rfl (by first | exact .inl rfl | exact .inr rfl) (qv_callS (i := 1) f__law_take takes0 (pv 1) hr (by decide) (by rfl) (qa_up (qa_cons (pv_c pe_int (fun _ => .int _)) qa_nil))))
      (sq_cons (sq_own (i := 5) (.inl rfl) sc_law.nd rfl (by first | exact .inl rfl | exact .inr rfl) (pu_lst qa_nil))
      (sq_cons (sq_for (.inl rfl) PassesOwn.never rfl (qi_up (qi_lt (pv_var (pv 2)))) (qg_name (i := 6) sc_law.nd rfl (by first | exact .inl rfl | exact .inr rfl)) (sq_cons (sq_set (i := 8) (.inl rfl) sc_law.nd rfl (by first | exact .inl rfl | exact .inr rfl) (qv_up (pv_of (pu_lc (own := [("m", 12)]) rfl sc_law.nd (qi_range1 (by rfl) z_range (qa_cons (pv_c pe_int (fun _ => .int _)) qa_nil)) (blkOk_by (N := n_law) (sc := defScope s_law) (by decide +kernel)) (fun _ _ _ _ _ => (qg_name (i := 12) sc_law.nd rfl (by first | exact .inl rfl | exact .inr rfl))) (fun _ _ _ _ _ => (qt_one (pt_pw (pw_v (pv_callF f__law_stands hr (by decide) (by rfl) (qa_cons (pv_ix (pu_var (pv 6)) (pv_c pe_int (fun _ => .int _)) (fun _ _ => rfl)) (qa_cons (pv_var (pv 12)) (qa_cons (pv_var (pv 3)) qa_nil)))))))) (fun _ _ _ _ _ => (pv_var (pv 12)))))))
      (sq_cons (sq_set (i := 9) (.inl rfl) sc_law.nd rfl (by first | exact .inl rfl | exact .inr rfl) (qv_up (pv_of (pu_lc (own := [("m", 12)]) rfl sc_law.nd (qi_range1 (by rfl) z_range (qa_cons (pv_c pe_int (fun _ => .int _)) qa_nil)) (blkOk_by (N := n_law) (sc := defScope s_law) (by decide +kernel)) (fun _ _ _ _ _ => (qg_name (i := 12) sc_law.nd rfl (by first | exact .inl rfl | exact .inr rfl))) (fun _ _ _ _ _ => (qt_one (pt_pw (pw_v (pv_callF f__law_stands hr (by decide) (by rfl) (qa_cons (pv_ix (pu_var (pv 6)) (pv_c pe_int (fun _ => .int _)) (fun _ _ => rfl)) (qa_cons (pv_var (pv 12)) (qa_cons (pv_var (pv 4)) qa_nil)))))))) (fun _ _ _ _ _ => (pv_var (pv 12)))))))
      (sq_cons (sq_lcSet (i := 10) (.inl rfl) (own := [("m", 12)]) rfl sc_law.nd rfl rfl (sw_true rfl rfl rfl (by decide +kernel)) (qi_lt (pv_var (pv 9))) (blkOk_by (N := n_law) (sc := defScope s_law) (by decide +kernel)) (fun _ _ _ _ _ => (qg_name (i := 12) sc_law.nd rfl (by first | exact .inl rfl | exact .inr rfl))) (fun _ _ _ _ _ => (qt_one (pt_cmp2 (or_notIn hr) (pv_var (pv 12)) (pv_var (pv 8)) (by rfl)))) (fun _ _ _ _ _ => (pv_var (pv 12))))
      (sqs_freeze 10 (sq_cons (sq_lcSet (i := 11) (.inl rfl) (own := [("m", 12)]) rfl sc_law.nd rfl rfl (sw_true rfl rfl rfl (by decide +kernel)) (qi_lt (pv_var (pv 8))) (blkOk_by (N := n_law) (sc := defScope s_law) (by decide +kernel)) (fun _ _ _ _ _ => (qg_name (i := 12) sc_law.nd rfl (by first | exact .inl rfl | exact .inr rfl))) (fun _ _ _ _ _ => (qt_one (pt_cmp2 (or_notIn hr) (pv_var (pv 12)) (pv_var (pv 9)) (by rfl)))) (fun _ _ _ _ _ => (pv_var (pv 12))))
      (sqs_freeze 11 (sq_cons (sq_if (qt_up (pt_pw (pw_var (pv 10)))) (sq_one (sq_append (pv 5) (qv_up (pv_tup (qa_cons (pv_ix (pu_var (pv 6)) (pv_c pe_int (fun _ => .int _)) (fun _ _ => rfl)) (qa_cons (pv_c pe_str (fun _ => .str _)) (qa_cons (pv_callF f__law_spans hr (by decide) (by rfl) (qa_cons (pv_var (pv 10)) qa_nil)) qa_nil))))) (fun hx he => pe_bm PySem.F.plainAttrs_list PySem.F.slot_list_append PySem.F.type_list_append mt_append hx (pa_cons he pa_nil)))) sq_nil)
      (sq_one (sq_if (qt_up (pt_pw (pw_var (pv 11)))) (sq_one (sq_append (pv 5) (qv_up (pv_tup (qa_cons (pv_ix (pu_var (pv 6)) (pv_c pe_int (fun _ => .int _)) (fun _ _ => rfl)) (qa_cons (pv_c pe_str (fun _ => .str _)) (qa_cons (pv_callF f__law_spans hr (by decide) (by rfl) (qa_cons (pv_var (pv 11)) qa_nil)) qa_nil))))) (fun hx he => pe_bm PySem.F.plainAttrs_list PySem.F.slot_list_append PySem.F.type_list_append mt_append hx (pa_cons he pa_nil)))) sq_nil))))))))))
      (sq_cons (sq_set (i := 7) (.inl rfl) sc_law.nd rfl (by first | exact .inl rfl | exact .inr rfl) (qv_up (pv_of (pu_call1 (cl_repr hr) (by rfl) z_repr bt_repr (pu_var (pv 2))))))
      (sq_one (sq_ret (qv_up (pv_and (pv_cmp (or_eqT hr.units) (pv_of (pu_call1 (cl_repr hr) (by rfl) z_repr bt_repr (pu_of (pv_callF f_corrections hr (by decide) (by rfl) (qa_cons (pv_var (pv 2)) (qa_cons (pv_var (pv 3)) (qa_cons (pv_var (pv 4)) qa_nil))))))) (pv_of (pu_call1 (cl_repr hr) (by rfl) z_repr bt_repr (pu_var (pv 5)))) (nomark _)) (pv_one (pv_cmp (or_eqT hr.units) (pv_of (pu_call1 (cl_repr hr) (by rfl) z_repr bt_repr (pu_var (pv 2)))) (pv_var (pv 7)) (nomark _))))))))))))))
end
section
variable {P : Program} {w : World} {K : PySem.W.Frag} {mg : Str → Option Value} {base : Heap}
theorem all_mk {l : PySem.W.OpenLaw} {h : Heap} {fa g0 g1 g2 g3 g4 g5 g6 g7 g8 g9 g10 g11 g12 g13 g14 g15 g16 g17 : Addr} (X : K.In h) (G : h.Ns mainGlobals mg) (hfa : mg "law" = some (.ref fa))
    {od0 an0 od1 an1 od2 an2 od3 an3 od4 an4 od5 an5 od6 an6 od7 an7 od8 an8 od9 an9 od10 an10 od11 an11 od12 an12 od13 an13 od14 an14 od15 an15 od16 an16 od17 an17 : Option Addr} {sl0 sl1 sl2 sl3 sl4 sl5 sl6 sl7 sl8 sl9 sl10 sl11 sl12 sl13 sl14 sl15 sl16 sl17 : Array (Option Value)} {oc0 kV0 dc0 pm0 cd0 ct0 oc1 kV1 dc1 pm1 cd1 ct1 oc2 kV2 dc2 pm2 cd2 ct2 oc3 kV3 dc3 pm3 cd3 ct3 oc4 kV4 dc4 pm4 cd4 ct4 oc5 kV5 dc5 pm5 cd5 ct5 oc6 kV6 dc6 pm6 cd6 ct6 oc7 kV7 dc7 pm7 cd7 ct7 oc8 kV8 dc8 pm8 cd8 ct8 oc9 kV9 dc9 pm9 cd9 ct9 oc10 kV10 dc10 pm10 cd10 ct10 oc11 kV11 dc11 pm11 cd11 ct11 oc12 kV12 dc12 pm12 cd12 ct12 oc13 kV13 dc13 pm13 cd13 ct13 oc14 kV14 dc14 pm14 cd14 ct14 oc15 kV15 dc15 pm15 cd15 ct15 oc16 kV16 dc16 pm16 cd16 ct16 oc17 kV17 dc17 pm17 cd17 ct17 : Value} {ta0 : Addr} {tod0 : Option Addr} {tn0 : Nat} {tsl0 : Array (Option Value)}
    (a0 : PySem.W.nsIn K mainGlobals "_combined" = some (some (.ref g0)))
    (l0 : K.lookup g0 = some ⟨oc0, od0, .func (PySem.W.fnOf "_combined" "_combined" (defArgs s__combined) (defBody s__combined) (defScope s__combined) .none kV0 dc0 pm0 an0 cd0 ct0), sl0⟩)
    (e0 : PySem.W.codeIn K cd0 "_combined" = true) (k0 : PySem.W.keepIn K (.ref g0) = true)
    (a1 : PySem.W.nsIn K mainGlobals "spans_minus" = some (some (.ref g1)))
    (l1 : K.lookup g1 = some ⟨oc1, od1, .func (PySem.W.fnOf "spans_minus" "spans_minus" (defArgs s_spans_minus) (defBody s_spans_minus) (defScope s_spans_minus) .none kV1 dc1 pm1 an1 cd1 ct1), sl1⟩)
    (e1 : PySem.W.codeIn K cd1 "spans_minus" = true) (k1 : PySem.W.keepIn K (.ref g1) = true)
    (a2 : PySem.W.nsIn K mainGlobals "index_behind" = some (some (.ref g2)))
    (l2 : K.lookup g2 = some ⟨oc2, od2, .func (PySem.W.fnOf "index_behind" "index_behind" (defArgs s_index_behind) (defBody s_index_behind) (defScope s_index_behind) .none kV2 dc2 pm2 an2 cd2 ct2), sl2⟩)
    (e2 : PySem.W.codeIn K cd2 "index_behind" = true) (k2 : PySem.W.keepIn K (.ref g2) = true)
    (a3 : PySem.W.nsIn K mainGlobals "_spans_at" = some (some (.ref g3)))
    (l3 : K.lookup g3 = some ⟨oc3, od3, .func (PySem.W.fnOf "_spans_at" "_spans_at" (defArgs s__spans_at) (defBody s__spans_at) (defScope s__spans_at) .none kV3 dc3 pm3 an3 cd3 ct3), sl3⟩)
    (e3 : PySem.W.codeIn K cd3 "_spans_at" = true) (k3 : PySem.W.keepIn K (.ref g3) = true)
    (a4 : PySem.W.nsIn K mainGlobals "at_known" = some (some (.ref g4)))
    (l4 : K.lookup g4 = some ⟨oc4, od4, .func (PySem.W.fnOf "at_known" "at_known" (defArgs s_at_known) (defBody s_at_known) (defScope s_at_known) .none kV4 dc4 pm4 an4 cd4 ct4), sl4⟩)
    (e4 : PySem.W.codeIn K cd4 "at_known" = true) (k4 : PySem.W.keepIn K (.ref g4) = true)
    (a5 : PySem.W.nsIn K mainGlobals "corrections" = some (some (.ref g5)))
    (l5 : K.lookup g5 = some ⟨oc5, od5, .func (PySem.W.fnOf "corrections" "corrections" (defArgs s_corrections) (defBody s_corrections) (defScope s_corrections) .none kV5 dc5 pm5 an5 cd5 ct5), sl5⟩)
    (e5 : PySem.W.codeIn K cd5 "corrections" = true) (k5 : PySem.W.keepIn K (.ref g5) = true)
    (a6 : PySem.W.nsIn K mainGlobals "_law_state" = some (some (.ref g6)))
    (l6 : K.lookup g6 = some ⟨oc6, od6, .func (PySem.W.fnOf "_law_state" "_law_state" (defArgs s__law_state) (defBody s__law_state) (defScope s__law_state) .none kV6 dc6 pm6 an6 cd6 ct6), sl6⟩)
    (e6 : PySem.W.codeIn K cd6 "_law_state" = true) (k6 : PySem.W.keepIn K (.ref g6) = true)
    (a7 : PySem.W.nsIn K mainGlobals "_law_take" = some (some (.ref g7)))
    (l7 : K.lookup g7 = some ⟨oc7, od7, .func (PySem.W.fnOf "_law_take" "_law_take" (defArgs s__law_take) (defBody s__law_take) (defScope s__law_take) .none kV7 dc7 pm7 an7 cd7 ct7), sl7⟩)
    (e7 : PySem.W.codeIn K cd7 "_law_take" = true) (k7 : PySem.W.keepIn K (.ref g7) = true)
    (a8 : PySem.W.nsIn K mainGlobals "_law_datum" = some (some (.ref g8)))
    (l8 : K.lookup g8 = some ⟨oc8, od8, .func (PySem.W.fnOf "_law_datum" "_law_datum" (defArgs s__law_datum) (defBody s__law_datum) (defScope s__law_datum) .none kV8 dc8 pm8 an8 cd8 ct8), sl8⟩)
    (e8 : PySem.W.codeIn K cd8 "_law_datum" = true) (k8 : PySem.W.keepIn K (.ref g8) = true)
    (a9 : PySem.W.nsIn K mainGlobals "_law_drawn_rows" = some (some (.ref g9)))
    (l9 : K.lookup g9 = some ⟨oc9, od9, .func (PySem.W.fnOf "_law_drawn_rows" "_law_drawn_rows" (defArgs s__law_drawn_rows) (defBody s__law_drawn_rows) (defScope s__law_drawn_rows) .none kV9 dc9 pm9 an9 cd9 ct9), sl9⟩)
    (e9 : PySem.W.codeIn K cd9 "_law_drawn_rows" = true) (k9 : PySem.W.keepIn K (.ref g9) = true)
    (a10 : PySem.W.nsIn K mainGlobals "_law_holds" = some (some (.ref g10)))
    (l10 : K.lookup g10 = some ⟨oc10, od10, .func (PySem.W.fnOf "_law_holds" "_law_holds" (defArgs s__law_holds) (defBody s__law_holds) (defScope s__law_holds) .none kV10 dc10 pm10 an10 cd10 ct10), sl10⟩)
    (e10 : PySem.W.codeIn K cd10 "_law_holds" = true) (k10 : PySem.W.keepIn K (.ref g10) = true)
    (a11 : PySem.W.nsIn K mainGlobals "_law_strips" = some (some (.ref g11)))
    (l11 : K.lookup g11 = some ⟨oc11, od11, .func (PySem.W.fnOf "_law_strips" "_law_strips" (defArgs s__law_strips) (defBody s__law_strips) (defScope s__law_strips) .none kV11 dc11 pm11 an11 cd11 ct11), sl11⟩)
    (e11 : PySem.W.codeIn K cd11 "_law_strips" = true) (k11 : PySem.W.keepIn K (.ref g11) = true)
    (a12 : PySem.W.nsIn K mainGlobals "_law_region" = some (some (.ref g12)))
    (l12 : K.lookup g12 = some ⟨oc12, od12, .func (PySem.W.fnOf "_law_region" "_law_region" (defArgs s__law_region) (defBody s__law_region) (defScope s__law_region) .none kV12 dc12 pm12 an12 cd12 ct12), sl12⟩)
    (e12 : PySem.W.codeIn K cd12 "_law_region" = true) (k12 : PySem.W.keepIn K (.ref g12) = true)
    (a13 : PySem.W.nsIn K mainGlobals "_law_window" = some (some (.ref g13)))
    (l13 : K.lookup g13 = some ⟨oc13, od13, .func (PySem.W.fnOf "_law_window" "_law_window" (defArgs s__law_window) (defBody s__law_window) (defScope s__law_window) .none kV13 dc13 pm13 an13 cd13 ct13), sl13⟩)
    (e13 : PySem.W.codeIn K cd13 "_law_window" = true) (k13 : PySem.W.keepIn K (.ref g13) = true)
    (a14 : PySem.W.nsIn K mainGlobals "_law_relation" = some (some (.ref g14)))
    (l14 : K.lookup g14 = some ⟨oc14, od14, .func (PySem.W.fnOf "_law_relation" "_law_relation" (defArgs s__law_relation) (defBody s__law_relation) (defScope s__law_relation) .none kV14 dc14 pm14 an14 cd14 ct14), sl14⟩)
    (e14 : PySem.W.codeIn K cd14 "_law_relation" = true) (k14 : PySem.W.keepIn K (.ref g14) = true)
    (a15 : PySem.W.nsIn K mainGlobals "_law_stands" = some (some (.ref g15)))
    (l15 : K.lookup g15 = some ⟨oc15, od15, .func (PySem.W.fnOf "_law_stands" "_law_stands" (defArgs s__law_stands) (defBody s__law_stands) (defScope s__law_stands) .none kV15 dc15 pm15 an15 cd15 ct15), sl15⟩)
    (e15 : PySem.W.codeIn K cd15 "_law_stands" = true) (k15 : PySem.W.keepIn K (.ref g15) = true)
    (a16 : PySem.W.nsIn K mainGlobals "_law_spans" = some (some (.ref g16)))
    (l16 : K.lookup g16 = some ⟨oc16, od16, .func (PySem.W.fnOf "_law_spans" "_law_spans" (defArgs s__law_spans) (defBody s__law_spans) (defScope s__law_spans) .none kV16 dc16 pm16 an16 cd16 ct16), sl16⟩)
    (e16 : PySem.W.codeIn K cd16 "_law_spans" = true) (k16 : PySem.W.keepIn K (.ref g16) = true)
    (a17 : PySem.W.nsIn K mainGlobals "law" = some (some (.ref g17)))
    (l17 : K.lookup g17 = some ⟨oc17, od17, .func (PySem.W.fnOf "law" "law" (defArgs s_law) (defBody s_law) (defScope s_law) .none kV17 dc17 pm17 an17 cd17 ct17), sl17⟩)
    (e17 : PySem.W.codeIn K cd17 "law" = true) (k17 : PySem.W.keepIn K (.ref g17) = true)
    (z0 : PySem.W.nsIn K mainGlobals "list" = some none)
    (z1 : PySem.W.nsIn K mainGlobals "sorted" = some none)
    (z2 : PySem.W.nsIn K mainGlobals "range" = some none)
    (z3 : PySem.W.nsIn K mainGlobals "len" = some none)
    (z4 : PySem.W.nsIn K mainGlobals "int" = some none)
    (z5 : PySem.W.nsIn K mainGlobals "abs" = some none)
    (z6 : PySem.W.nsIn K mainGlobals "tuple" = some none)
    (z7 : PySem.W.nsIn K mainGlobals "set" = some none)
    (z8 : PySem.W.nsIn K mainGlobals "any" = some none)
    (z9 : PySem.W.nsIn K mainGlobals "repr" = some none)
    (q0 : PySem.W.nsIn K mainGlobals "IN_FIRST_ALONE" = some (some (.ref ta0)))
    (r0 : K.lookup ta0 = some ⟨.type "tuple", tod0, .seq #[.bool false, .bool true, .bool false, .bool false] tn0, tsl0⟩) :
    ∃ fd : FuncData, (∀ (s : Shared) (v : Value), BindsTo s fd ⟨[v], []⟩ [("script", v)]) ∧ ∀ base : Heap, K.In base → base.Ns mainGlobals mg → FnG l.prog w K mg base CX0 5 fa fd ["script"] (@spPu (tabOf K []) K 1 φ_law) := by
  letI : FnTab := tabOf K []
  have e := hfa.symm.trans (PySem.W.mg_of X G a17)
  cases e
  refine ⟨PySem.W.fnOf "law" "law" (defArgs s_law) (defBody s_law) (defScope s_law) .none kV17 dc17 pm17 an17 cd17 ct17, fun s v => .of_eq rfl, fun base _ _ => ?_⟩
  have h__combined := ok__combined (P := l.prog) (w := w) (base := base) (fun_mk (st := s__combined) l0 e0 k0) (PySem.W.mg_of X G a0) (PySem.W.mg_none_of X G z0) (PySem.W.mg_none_of X G z1) (PySem.W.mg_none_of X G z2) (PySem.W.mg_none_of X G z3)
  have h_spans_minus := ok_spans_minus (P := l.prog) (w := w) (base := base) (fun_mk (st := s_spans_minus) l1 e1 k1) (PySem.W.mg_of X G a1) (Ck.tup (vs := [.bl false, .bl true, .bl false, .bl false]) (PySem.W.mg_of X G q0) r0 rfl rfl (sz1000 (by decide)) (.cons rfl (.cons rfl (.cons rfl (.cons rfl .nil)))) (fun _ => (RpAll.cons (.bl _) (RpAll.cons (.bl _) (RpAll.cons (.bl _) (RpAll.cons (.bl _) RpAll.nil)))))) h__combined
  have h_index_behind := ok_index_behind (P := l.prog) (w := w) (base := base) (fun_mk (st := s_index_behind) l2 e2 k2) (PySem.W.mg_of X G a2) (PySem.W.mg_none_of X G z3)
  have h__spans_at := ok__spans_at (P := l.prog) (w := w) (base := base) (fun_mk (st := s__spans_at) l3 e3 k3) (PySem.W.mg_of X G a3) (PySem.W.mg_none_of X G z3) h_index_behind
  have h_at_known := ok_at_known (P := l.prog) (w := w) (base := base) (fun_mk (st := s_at_known) l4 e4 k4) (PySem.W.mg_of X G a4) (PySem.W.mg_none_of X G z0) h__spans_at
  have h_corrections := ok_corrections (P := l.prog) (w := w) (base := base) (fun_mk (st := s_corrections) l5 e5 k5) (PySem.W.mg_of X G a5) h_at_known h_spans_minus
  have h__law_state := ok__law_state (P := l.prog) (w := w) (base := base) (fun_mk (st := s__law_state) l6 e6 k6) (PySem.W.mg_of X G a6) (PySem.W.mg_none_of X G z3) (PySem.W.mg_none_of X G z4) (PySem.W.mg_none_of X G z5)
  have h__law_take := ok__law_take (P := l.prog) (w := w) (base := base) (fun_mk (st := s__law_take) l7 e7 k7) (PySem.W.mg_of X G a7) (PySem.W.mg_none_of X G z4) (PySem.W.mg_none_of X G z3) (PySem.W.mg_none_of X G z5)
  have h__law_datum := ok__law_datum (P := l.prog) (w := w) (base := base) (fun_mk (st := s__law_datum) l8 e8 k8) (PySem.W.mg_of X G a8) h__law_take
  have h__law_drawn_rows := ok__law_drawn_rows (P := l.prog) (w := w) (base := base) (fun_mk (st := s__law_drawn_rows) l9 e9 k9) (PySem.W.mg_of X G a9) (PySem.W.mg_none_of X G z2) (PySem.W.mg_none_of X G z6) (PySem.W.mg_none_of X G z1) (PySem.W.mg_none_of X G z7) h__law_take h__law_datum
  have h__law_holds := ok__law_holds (P := l.prog) (w := w) (base := base) (fun_mk (st := s__law_holds) l10 e10 k10) (PySem.W.mg_of X G a10) (PySem.W.mg_none_of X G z8)
  have h__law_strips := ok__law_strips (P := l.prog) (w := w) (base := base) (fun_mk (st := s__law_strips) l11 e11 k11) (PySem.W.mg_of X G a11) (PySem.W.mg_none_of X G z2) (PySem.W.mg_none_of X G z3)
  have h__law_region := ok__law_region (P := l.prog) (w := w) (base := base) (fun_mk (st := s__law_region) l12 e12 k12) (PySem.W.mg_of X G a12) (PySem.W.mg_none_of X G z1) (PySem.W.mg_none_of X G z7) (PySem.W.mg_none_of X G z2) (PySem.W.mg_none_of X G z3) h__law_holds h__law_strips
  have h__law_window := ok__law_window (P := l.prog) (w := w) (base := base) (fun_mk (st := s__law_window) l13 e13 k13) (PySem.W.mg_of X G a13) h__law_take
  have h__law_relation := ok__law_relation (P := l.prog) (w := w) (base := base) (fun_mk (st := s__law_relation) l14 e14 k14) (PySem.W.mg_of X G a14) h__law_drawn_rows h__law_window h__law_take h__law_region
  have h__law_stands := ok__law_stands (P := l.prog) (w := w) (base := base) (fun_mk (st := s__law_stands) l15 e15 k15) (PySem.W.mg_of X G a15) (PySem.W.mg_none_of X G z8)
  have h__law_spans := ok__law_spans (P := l.prog) (w := w) (base := base) (fun_mk (st := s__law_spans) l16 e16 k16) (PySem.W.mg_of X G a16) 
  have hl := ok_law' (P := l.prog) (w := w) (base := base) (fun_mk (st := s_law) l17 e17 k17) (PySem.W.mg_none_of X G z2) (PySem.W.mg_none_of X G z9) h__law_state h__law_relation h__law_take h__law_stands h__law_spans h_corrections
  exact hl
end
end G

namespace M
open PySem L2 Pu G
variable [FnTab]
local macro_rules | `(tactic| walk_at "ev") => `(tactic| simp -implicitDefEqProofs (disch := first | assumption | decide | omega | (simp only [List.length_map, List.length_append, List.length_cons, List.length_nil, List.length_range]; first | done | omega)) only [Pu.e_seq, Pu.e_sq_nx, Pu.e_sq_rt, Pu.e_sq_bk, Pu.e_sq_ct, Pu.e_if, Pu.e_iff_t, Pu.e_iff_f, Pu.e_next, Pu.e_set, Pu.e_en1, Pu.e_own, Pu.e_on_new, Pu.e_on_val, Pu.e_ret, Pu.e_run, Pu.e_run_rt, Pu.e_run_nx, Pu.e_b2, Pu.e_b2b, Pu.e_b1, Pu.e_gv, Pu.e_fz_val, Pu.e_fz_new, Pu.e_gr, Pu.e_gw, Pu.e_vw_val, Pu.e_vw_new, Pu.e_vw_view, Pu.e_gR1, Pu.e_and, Pu.e_and_t, Pu.e_and_f, Pu.e_or, Pu.e_or_t, Pu.e_or_f, Pu.e_gIf, Pu.e_if1_t, Pu.e_if1_f, Pu.e_gTru, Pu.e_tB, Pu.e_gB, Pu.e_tAnd, Pu.e_tOr, Pu.e_ta_t, Pu.e_ta_f, Pu.e_to_t, Pu.e_to_f, Pu.e_ta, Pu.e_to, Pu.e_tNot, Pu.e_ix, Pu.e_ix1, Pu.e_aNil, Pu.e_aCons, Pu.e_ac1, Pu.e_gTup, Pu.e_gLst, Pu.e_tu2, Pu.e_tu1, Pu.e_tu3, Pu.e_tu4, Pu.e_ls0, Pu.e_call, Pu.e_cl1, Pu.e_cl2, Pu.e_cl3, Pu.e_cl4, Pu.e_gFn, Pu.e_isi, Pu.e_is1, Pu.e_vVar, Pu.e_rVar, Pu.e_wVar, Pu.e_ownAt, Pu.e_frz, Pu.e_vC, Pu.e_add, Pu.e_sub, Pu.e_neg, Pu.e_not, Pu.e_lt, Pu.e_le, Pu.e_gt, Pu.e_ge, Pu.e_tru_b, Pu.e_tru_i, Pu.e_tru_l, Pu.e_tru_t, Pu.e_len_v, Pu.e_len_t, Pu.e_len_w, Pu.e_len_n, Pu.e_len_s, Pu.e_int_i, Pu.e_abs, Pu.e_max, Pu.e_min, Pu.e_ix_l, Pu.e_ix_w, Pu.e_ix_n, Pu.e_ix_t, Pu.e_ix_s, Pu.e_at0, Pu.e_at1, Pu.e_at2, Pu.e_at3, Pu.e_gItems, Pu.e_it_l, Pu.e_it_t, Pu.e_it_s, Pu.e_rFor, Pu.e_fo1, Pu.e_fl_nil, Pu.e_fl_cons, Pu.e_fl1, Pu.e_fl2_nx, Pu.e_fl2_ct, Pu.e_fl2_bk, Pu.e_fl2_rt, Pu.e_bName, Pu.e_bTup, Pu.e_bTup_l, Pu.e_bNil, Pu.e_bCons, Pu.e_rAsg, Pu.e_as1, Pu.e_app, Pu.e_put, Pu.e_pop, Pu.e_aug, Pu.e_au1, Pu.e_iadd, Pu.e_isub, Pu.e_range1, Pu.e_p18, Pu.e_p6, Pu.e_p24, Pu.e_mul_l, Pu.e_mul_r, Pu.e_mod_p, Pu.e_fdiv_p, Pu.e_decT, Pu.e_decF, Pu.e_mul_h, Pu.e_ls1, Pu.e_ls2, Pu.e_ls3, Pu.e_ls4, Pu.e_ls5, Pu.e_ls6, Pu.e_ap1_ok, Pu.e_ra1_nat, Pu.e_gLc, Pu.e_lcO, Pu.e_pairD, Pu.e_wipe0, Pu.e_wipe1, Pu.e_wipe2, Pu.e_gYes, Pu.e_and_b, Pu.e_or_b, Pu.e_any_map, Pu.e_all_map, Pu.e_ix_last, Pu.e_tru_app, Pu.e_pu1_last, Pu.e_gSl, Pu.e_sl1, Pu.e_oNone, Pu.e_list_w, Pu.e_list_n, Pu.e_list_l, Pu.e_list_t, Pu.e_list_s, Pu.e_oSome, Pu.e_os1, Pu.e_lcL_nil, Pu.e_lcL_cons, Pu.e_lc3, Pu.e_lcF, Pu.e_lf1, Pu.e_lf2_t, Pu.e_lf2_f, Pu.e_lcF2, Pu.e_lg1, Pu.e_lg2_t, Pu.e_lg2_f, Pu.e_lg3, Pu.e_gLc2, Pu.e_po1, Pu.e_sum_map, Pu.e_ra1_sub, Pu.e_gRange3, Pu.e_catL, Pu.e_ra3_2, Pu.e_wh1_t, Pu.e_wh1_f, Pu.e_wh2_nx, Pu.e_wh2_ct, Pu.e_wh2_bk, Pu.e_wh2_rt, Pu.e_rWhile, Pu.e_ra1_3, Pu.e_gSc2, Pu.e_gZip, Pu.e_zi1, Pu.e_gCallV, Pu.e_cv1, Pu.e_cv2, Pu.e_cv3, Pu.e_ls7, Pu.e_ls8, Pu.e_ls9, Pu.e_ls10, Pu.e_ls11, Pu.e_ls12, Pu.e_tu5, Pu.e_tu6, Pu.e_tu7, Pu.e_tu8, Pu.e_tu9, Pu.e_cl5, Pu.e_cl6, Pu.e_cl7, Pu.e_cl8, Pu.e_cl9, Pu.e_stripD, Pu.e_rectD, Pu.e_wipec, Pu.e_up, Pu.e_up1, Pu.e_upc, Pu.e_qb, Pu.e_qb_ok, Pu.e_qb_ex, Pu.e_sb, Pu.e_sb_ok, Pu.e_sb_ex, Pu.e_sSeq, Pu.e_ss_nx, Pu.e_ss_rt, Pu.e_ss_bk, Pu.e_ss_ct, Pu.e_ss_ex, Pu.e_sNext, Pu.e_sRet, Pu.e_sr1, Pu.e_sDrop, Pu.e_sd1, Pu.e_sIf, Pu.e_sif_t, Pu.e_sif_f, Pu.e_sSet, Pu.e_sv1, Pu.e_sOwn, Pu.e_so_new, Pu.e_so_val, Pu.e_sAsg, Pu.e_sa1, Pu.e_sApp, Pu.e_sp0, Pu.e_sp1, Pu.e_sp2, Pu.e_sFor, Pu.e_fq_nx, Pu.e_fq_ct, Pu.e_fq_bk, Pu.e_fq_rt, Pu.e_fq_ex, Pu.e_sTry, Pu.e_sy_nx, Pu.e_sy_rt, Pu.e_sy_ex, Pu.e_sy2_t, Pu.e_sy2_f, Pu.e_noEx_nx, Pu.e_noEx_rt, Pu.e_sTryB, Pu.e_sz_nx, Pu.e_sz_ex, Pu.e_sz2_t, Pu.e_sz3, Pu.e_sz4, Pu.e_runX, Pu.e_rx_rt, Pu.e_rx_nx, Pu.e_rx_ex, Pu.e_runQ, Pu.e_rq_rt, Pu.e_rq_nx, Pu.e_gCallX, Pu.e_gx1, Pu.e_gx2, Pu.e_gx3, Pu.e_ofRx_ok, Pu.e_ofRx_er, Pu.e_b2Q, Pu.e_b2Q1, Pu.e_b2Q2, Pu.e_tBQ, Pu.e_tq1, Pu.e_gTruQ, Pu.e_tr1, Pu.e_tNotQ, Pu.e_tn1, Pu.e_gIxQ, Pu.e_gq1, Pu.e_gq2, Pu.e_aConsQ, Pu.e_ac1Q, Pu.e_ac2Q, Pu.e_gTupQ, Pu.e_tu1Q, Pu.e_gLstQ, Pu.e_ls1Q, Pu.e_gCallQ, Pu.e_cq1, Pu.e_gFnQ, Pu.e_fn1Q, Pu.e_gRg1Q, Pu.e_ra1Q, Pu.e_is_nn, Pu.e_isnot_nn, Pu.e_gItQ, Pu.e_it1Q_l, Pu.e_it1Q_t, Pu.e_it1Q_s, Pu.e_gFzQ, Pu.e_fz1Q, Pu.e_sOwnN, Pu.e_onN, Pu.e_gLcQ, Pu.e_gCallS, Pu.e_cs1, Pu.e_cs2, Pu.e_cs3, Pu.e_ofRs_ok, Pu.e_ofRs_ex, Pu.e_runS, Pu.e_startS, Pu.e_rs1_rt, Pu.e_rs1_nx, Pu.e_rs1_ex, Pu.e_prOk, Pu.e_prEx, Pu.e_sPopL, Pu.e_sPut, Pu.e_pu1Q, Pu.e_nxO, Pu.e_sPutQ, Pu.e_puQ, Pu.e_sWhile, Pu.e_whq_f, Pu.e_sAug, Pu.e_sau1, Pu.e_nxV, Pu.e_gAndQ, Pu.e_ad1Q_t, Pu.e_ad1Q_f, Pu.e_gOrQ, Pu.e_or1Q_t, Pu.e_or1Q_f, Pu.e_nRet, Pu.e_nr1, Pu.e_nSeq, Pu.e_ns1, Pu.e_gCallN, Pu.e_cn1, Pu.e_okL, Pu.e_gPopAt, Pu.e_pa1Q, Pu.e_pa2Q, Pu.e_pa3Q, Pu.e_gListRg, Pu.e_lrg, Pu.e_gMs, Pu.e_ms1, Pu.e_ms2, Pu.e_gMl, Pu.e_ml1, Pu.e_ml2, Pu.e_newS, Pu.e_gJs, Pu.e_jsL_nil, Pu.e_jsL_cons, Pu.e_js1, Pu.e_gItemsS, Pu.e_itS_l, Pu.e_itS_t, Pu.e_itS_x, Pu.e_mFind1, Pu.e_mFind2, Pu.e_mStarts1, Pu.e_mStarts2, Pu.e_mIsdigit, Pu.e_dTuple_n, Pu.e_dTuple_l, Pu.e_dTuple_t, Pu.e_gDict0, Pu.e_maxL, Pu.e_maxLn, Pu.e_minL, Pu.e_minLn, Pu.e_gIndex, Pu.e_ixa, Pu.e_ixb, Pu.e_rExtL, Pu.e_ex1L, Pu.e_ex2_v, Pu.e_ex2_n, Pu.e_sExtL, Pu.e_exq1, Pu.e_exq2_v, Pu.e_exq2_n, Pu.e_ch, Pu.e_ch_t, Pu.e_ch_f, Pu.e_fac, Pu.e_whq_t, Pu.e_wq2_nx, Pu.e_wq2_ct, Pu.e_wq2_bk, Pu.e_wq2_rt, Pu.e_wq2_ex, Pu.e_eqS, Pu.e_neS, Pu.e_inS, Pu.e_notInS, Pu.e_signsS, Pu.e_itS, Pu.e_chD, Pu.e_ixS, Pu.e_ixS0, Pu.e_addS, Pu.e_lenS, Pu.e_truS, Pu.e_slS_to, Pu.e_slS_from, Pu.e_slS_mid, Pu.e_strS, Pu.e_fmtS, Pu.e_fmtT, Pu.e_intS, Pu.e_mulS_i, Pu.e_intS_i, Pu.e_splitMaxS, Pu.e_newTx, Pu.e_js1S, Pu.e_empty, Pu.e_repS1, Pu.e_eqT_s, Pu.e_neT_s, Pu.e_eqT_i, Pu.e_neT_i, Pu.e_tx_eq, Pu.e_gEnum, Pu.e_enq, Pu.e_frzR, Pu.e_runN, Pu.e_rn1, Pu.e_gLnQ, Pu.e_ln1Q, decide_true, decide_false, isi_int_int, isi_bool_int, isi_list_list, isi_tuple_tuple, isi_bool_bool, isi_str_str, isi_str_int, dEq_int, dNe_int, dEq_bool, dNe_bool, Option.bind_some, Option.bind_none, Option.map_some, Option.map_none, start0, List.map_cons, List.map_nil, List.length_cons, List.length_nil, List.length_map, List.map_append, beq_self_eq_true, List.isEmpty_nil, List.isEmpty_cons, List.replicate_succ, List.replicate_zero, List.cons_append, List.nil_append, List.getElem?_cons_zero, List.getElem?_cons_succ, List.set_cons_zero, List.set_cons_succ, Nat.reduceAdd, Nat.reduceSub, Nat.reduceLeDiff, Int.reduceNeg, Int.reduceMul, Int.reduceAdd, Int.reduceSub, Int.reduceEq, Int.reduceLT, Int.reduceLE, Int.reduceMod, Int.reduceToNat, Int.toNat_natCast, List.length_range, Nat.reduceEqDiff, ne_eq, not_false_eq_true, if_true, if_false, ite_not, Bool.not_not, Bool.not_true, Bool.not_false, Bool.false_eq_true, reduceIte, Bool.true_and, Bool.false_and, Bool.and_true, Bool.and_false, Bool.true_or, Bool.false_or, Bool.or_false, Bool.or_true])
local macro_rules | `(tactic| walk_at "evh") => `(tactic| simp -implicitDefEqProofs (disch := first | assumption | decide | omega | (simp only [List.length_map, List.length_append, List.length_cons, List.length_nil, List.length_range]; first | done | omega)) only [Pu.e_seq, Pu.e_sq_nx, Pu.e_sq_rt, Pu.e_sq_bk, Pu.e_sq_ct, Pu.e_if, Pu.e_iff_t, Pu.e_iff_f, Pu.e_next, Pu.e_set, Pu.e_en1, Pu.e_own, Pu.e_on_new, Pu.e_on_val, Pu.e_ret, Pu.e_run, Pu.e_run_rt, Pu.e_run_nx, Pu.e_b2, Pu.e_b2b, Pu.e_b1, Pu.e_gv, Pu.e_fz_val, Pu.e_fz_new, Pu.e_gr, Pu.e_gw, Pu.e_vw_val, Pu.e_vw_new, Pu.e_vw_view, Pu.e_gR1, Pu.e_and, Pu.e_and_t, Pu.e_and_f, Pu.e_or, Pu.e_or_t, Pu.e_or_f, Pu.e_gIf, Pu.e_if1_t, Pu.e_if1_f, Pu.e_gTru, Pu.e_tB, Pu.e_gB, Pu.e_tAnd, Pu.e_tOr, Pu.e_ta_t, Pu.e_ta_f, Pu.e_to_t, Pu.e_to_f, Pu.e_ta, Pu.e_to, Pu.e_tNot, Pu.e_ix, Pu.e_ix1, Pu.e_aNil, Pu.e_aCons, Pu.e_ac1, Pu.e_gTup, Pu.e_gLst, Pu.e_tu2, Pu.e_tu1, Pu.e_tu3, Pu.e_tu4, Pu.e_ls0, Pu.e_call, Pu.e_cl1, Pu.e_cl2, Pu.e_cl3, Pu.e_cl4, Pu.e_gFn, Pu.e_isi, Pu.e_is1, Pu.e_vVar, Pu.e_rVar, Pu.e_wVar, Pu.e_ownAt, Pu.e_frz, Pu.e_vC, Pu.e_add, Pu.e_sub, Pu.e_neg, Pu.e_not, Pu.e_lt, Pu.e_le, Pu.e_gt, Pu.e_ge, Pu.e_tru_b, Pu.e_tru_i, Pu.e_tru_l, Pu.e_tru_t, Pu.e_len_v, Pu.e_len_t, Pu.e_len_w, Pu.e_len_n, Pu.e_len_s, Pu.e_int_i, Pu.e_abs, Pu.e_max, Pu.e_min, Pu.e_ix_l, Pu.e_ix_w, Pu.e_ix_n, Pu.e_ix_t, Pu.e_ix_s, Pu.e_at0, Pu.e_at1, Pu.e_at2, Pu.e_at3, Pu.e_gItems, Pu.e_it_l, Pu.e_it_t, Pu.e_it_s, Pu.e_rFor, Pu.e_fo1, Pu.e_fl_nil, Pu.e_fl_cons, Pu.e_fl1, Pu.e_fl2_nx, Pu.e_fl2_ct, Pu.e_fl2_bk, Pu.e_fl2_rt, Pu.e_bName, Pu.e_bTup, Pu.e_bTup_l, Pu.e_bNil, Pu.e_bCons, Pu.e_rAsg, Pu.e_as1, Pu.e_app, Pu.e_put, Pu.e_pop, Pu.e_aug, Pu.e_au1, Pu.e_iadd, Pu.e_isub, Pu.e_range1, Pu.e_p18, Pu.e_p6, Pu.e_p24, Pu.e_mul_l, Pu.e_mul_r, Pu.e_mod_p, Pu.e_fdiv_p, Pu.e_decT, Pu.e_decF, Pu.e_mul_h, Pu.e_ls1, Pu.e_ls2, Pu.e_ls3, Pu.e_ls4, Pu.e_ls5, Pu.e_ls6, Pu.e_ap1_ok, Pu.e_ra1_nat, Pu.e_gLc, Pu.e_lcO, Pu.e_pairD, Pu.e_wipe0, Pu.e_wipe1, Pu.e_wipe2, Pu.e_gYes, Pu.e_and_b, Pu.e_or_b, Pu.e_any_map, Pu.e_all_map, Pu.e_ix_last, Pu.e_tru_app, Pu.e_pu1_last, Pu.e_gSl, Pu.e_sl1, Pu.e_oNone, Pu.e_list_w, Pu.e_list_n, Pu.e_list_l, Pu.e_list_t, Pu.e_list_s, Pu.e_oSome, Pu.e_os1, Pu.e_lcL_nil, Pu.e_lcL_cons, Pu.e_lc3, Pu.e_lcF, Pu.e_lf1, Pu.e_lf2_t, Pu.e_lf2_f, Pu.e_lcF2, Pu.e_lg1, Pu.e_lg2_t, Pu.e_lg2_f, Pu.e_lg3, Pu.e_gLc2, Pu.e_po1, Pu.e_sum_map, Pu.e_ra1_sub, Pu.e_gRange3, Pu.e_catL, Pu.e_ra3_2, Pu.e_wh1_t, Pu.e_wh1_f, Pu.e_wh2_nx, Pu.e_wh2_ct, Pu.e_wh2_bk, Pu.e_wh2_rt, Pu.e_rWhile, Pu.e_ra1_3, Pu.e_gSc2, Pu.e_gZip, Pu.e_zi1, Pu.e_gCallV, Pu.e_cv1, Pu.e_cv2, Pu.e_cv3, Pu.e_ls7, Pu.e_ls8, Pu.e_ls9, Pu.e_ls10, Pu.e_ls11, Pu.e_ls12, Pu.e_tu5, Pu.e_tu6, Pu.e_tu7, Pu.e_tu8, Pu.e_tu9, Pu.e_cl5, Pu.e_cl6, Pu.e_cl7, Pu.e_cl8, Pu.e_cl9, Pu.e_stripD, Pu.e_rectD, Pu.e_wipec, Pu.e_up, Pu.e_up1, Pu.e_upc, Pu.e_qb, Pu.e_qb_ok, Pu.e_qb_ex, Pu.e_sb, Pu.e_sb_ok, Pu.e_sb_ex, Pu.e_sSeq, Pu.e_ss_nx, Pu.e_ss_rt, Pu.e_ss_bk, Pu.e_ss_ct, Pu.e_ss_ex, Pu.e_sNext, Pu.e_sRet, Pu.e_sr1, Pu.e_sDrop, Pu.e_sd1, Pu.e_sIf, Pu.e_sif_t, Pu.e_sif_f, Pu.e_sSet, Pu.e_sv1, Pu.e_sOwn, Pu.e_so_new, Pu.e_so_val, Pu.e_sAsg, Pu.e_sa1, Pu.e_sApp, Pu.e_sp0, Pu.e_sp1, Pu.e_sp2, Pu.e_sFor, Pu.e_fq_nx, Pu.e_fq_ct, Pu.e_fq_bk, Pu.e_fq_rt, Pu.e_fq_ex, Pu.e_sTry, Pu.e_sy_nx, Pu.e_sy_rt, Pu.e_sy_ex, Pu.e_sy2_t, Pu.e_sy2_f, Pu.e_noEx_nx, Pu.e_noEx_rt, Pu.e_sTryB, Pu.e_sz_nx, Pu.e_sz_ex, Pu.e_sz2_t, Pu.e_sz3, Pu.e_sz4, Pu.e_runX, Pu.e_rx_rt, Pu.e_rx_nx, Pu.e_rx_ex, Pu.e_runQ, Pu.e_rq_rt, Pu.e_rq_nx, Pu.e_gCallX, Pu.e_gx1, Pu.e_gx2, Pu.e_gx3, Pu.e_ofRx_ok, Pu.e_ofRx_er, Pu.e_b2Q, Pu.e_b2Q1, Pu.e_b2Q2, Pu.e_tBQ, Pu.e_tq1, Pu.e_gTruQ, Pu.e_tr1, Pu.e_tNotQ, Pu.e_tn1, Pu.e_gIxQ, Pu.e_gq1, Pu.e_gq2, Pu.e_aConsQ, Pu.e_ac1Q, Pu.e_ac2Q, Pu.e_gTupQ, Pu.e_tu1Q, Pu.e_gLstQ, Pu.e_ls1Q, Pu.e_gCallQ, Pu.e_cq1, Pu.e_gFnQ, Pu.e_fn1Q, Pu.e_gRg1Q, Pu.e_ra1Q, Pu.e_is_nn, Pu.e_isnot_nn, Pu.e_gItQ, Pu.e_it1Q_l, Pu.e_it1Q_t, Pu.e_it1Q_s, Pu.e_gFzQ, Pu.e_fz1Q, Pu.e_sOwnN, Pu.e_onN, Pu.e_gLcQ, Pu.e_gCallS, Pu.e_cs1, Pu.e_cs2, Pu.e_cs3, Pu.e_ofRs_ok, Pu.e_ofRs_ex, Pu.e_runS, Pu.e_startS, Pu.e_rs1_rt, Pu.e_rs1_nx, Pu.e_rs1_ex, Pu.e_prOk, Pu.e_prEx, Pu.e_sPopL, Pu.e_sPut, Pu.e_pu1Q, Pu.e_nxO, Pu.e_sPutQ, Pu.e_puQ, Pu.e_sWhile, Pu.e_whq_f, Pu.e_sAug, Pu.e_sau1, Pu.e_nxV, Pu.e_gAndQ, Pu.e_ad1Q_t, Pu.e_ad1Q_f, Pu.e_gOrQ, Pu.e_or1Q_t, Pu.e_or1Q_f, Pu.e_nRet, Pu.e_nr1, Pu.e_nSeq, Pu.e_ns1, Pu.e_gCallN, Pu.e_cn1, Pu.e_okL, Pu.e_gPopAt, Pu.e_pa1Q, Pu.e_pa2Q, Pu.e_pa3Q, Pu.e_gListRg, Pu.e_lrg, Pu.e_gMs, Pu.e_ms1, Pu.e_ms2, Pu.e_gMl, Pu.e_ml1, Pu.e_ml2, Pu.e_newS, Pu.e_gJs, Pu.e_jsL_nil, Pu.e_jsL_cons, Pu.e_js1, Pu.e_gItemsS, Pu.e_itS_l, Pu.e_itS_t, Pu.e_itS_x, Pu.e_mFind1, Pu.e_mFind2, Pu.e_mStarts1, Pu.e_mStarts2, Pu.e_mIsdigit, Pu.e_dTuple_n, Pu.e_dTuple_l, Pu.e_dTuple_t, Pu.e_gDict0, Pu.e_maxL, Pu.e_maxLn, Pu.e_minL, Pu.e_minLn, Pu.e_gIndex, Pu.e_ixa, Pu.e_ixb, Pu.e_rExtL, Pu.e_ex1L, Pu.e_ex2_v, Pu.e_ex2_n, Pu.e_sExtL, Pu.e_exq1, Pu.e_exq2_v, Pu.e_exq2_n, Pu.e_ch, Pu.e_ch_t, Pu.e_ch_f, Pu.e_fac, Pu.e_whq_t, Pu.e_wq2_nx, Pu.e_wq2_ct, Pu.e_wq2_bk, Pu.e_wq2_rt, Pu.e_wq2_ex, Pu.e_eqS, Pu.e_neS, Pu.e_inS, Pu.e_notInS, Pu.e_signsS, Pu.e_itS, Pu.e_chD, Pu.e_ixS, Pu.e_ixS0, Pu.e_addS, Pu.e_lenS, Pu.e_truS, Pu.e_slS_to, Pu.e_slS_from, Pu.e_slS_mid, Pu.e_strS, Pu.e_fmtS, Pu.e_fmtT, Pu.e_intS, Pu.e_mulS_i, Pu.e_intS_i, Pu.e_splitMaxS, Pu.e_newTx, Pu.e_js1S, Pu.e_empty, Pu.e_repS1, Pu.e_eqT_s, Pu.e_neT_s, Pu.e_eqT_i, Pu.e_neT_i, Pu.e_tx_eq, Pu.e_gEnum, Pu.e_enq, Pu.e_frzR, Pu.e_runN, Pu.e_rn1, Pu.e_gLnQ, Pu.e_ln1Q, decide_true, decide_false, isi_int_int, isi_bool_int, isi_list_list, isi_tuple_tuple, isi_bool_bool, isi_str_str, isi_str_int, dEq_int, dNe_int, dEq_bool, dNe_bool, Option.bind_some, Option.bind_none, Option.map_some, Option.map_none, start0, List.map_cons, List.map_nil, List.length_cons, List.length_nil, List.length_map, List.map_append, beq_self_eq_true, List.isEmpty_nil, List.isEmpty_cons, List.replicate_succ, List.replicate_zero, List.cons_append, List.nil_append, List.getElem?_cons_zero, List.getElem?_cons_succ, List.set_cons_zero, List.set_cons_succ, Nat.reduceAdd, Nat.reduceSub, Nat.reduceLeDiff, Int.reduceNeg, Int.reduceMul, Int.reduceAdd, Int.reduceSub, Int.reduceEq, Int.reduceLT, Int.reduceLE, Int.reduceMod, Int.reduceToNat, Int.toNat_natCast, List.length_range, Nat.reduceEqDiff, ne_eq, not_false_eq_true, if_true, if_false, ite_not, Bool.not_not, Bool.not_true, Bool.not_false, Bool.false_eq_true, reduceIte, Bool.true_and, Bool.false_and, Bool.and_true, Bool.and_false, Bool.true_or, Bool.false_or, Bool.or_false, Bool.or_true, *])
local macro_rules | `(tactic| walk_at "evh0") => `(tactic| walk_at "ev")
theorem kS_0 : PySem.Str.ofString "pastamended.spans" = tx [112, 97, 115, 116, 97, 109, 101, 110, 100, 101, 100, 46, 115, 112, 97, 110, 115] := by decide +kernel
theorem kS_1 : PySem.Str.ofString "pastamended.regions" = tx [112, 97, 115, 116, 97, 109, 101, 110, 100, 101, 100, 46, 114, 101, 103, 105, 111, 110, 115] := by decide +kernel
theorem kS_2 : PySem.Str.ofString "pastamended.corrections" = tx [112, 97, 115, 116, 97, 109, 101, 110, 100, 101, 100, 46, 99, 111, 114, 114, 101, 99, 116, 105, 111, 110, 115] := by decide +kernel
theorem kS_3 : PySem.Str.ofString "law_pastamended_k38_corrections" = tx [108, 97, 119, 95, 112, 97, 115, 116, 97, 109, 101, 110, 100, 101, 100, 95, 107, 51, 56, 95, 99, 111, 114, 114, 101, 99, 116, 105, 111, 110, 115] := by decide +kernel
theorem kS_4 : PySem.Str.ofString "text" = tx [116, 101, 120, 116] := by decide +kernel
theorem kS_5 : PySem.Str.ofString "came" = tx [99, 97, 109, 101] := by decide +kernel
theorem kS_6 : PySem.Str.ofString "went" = tx [119, 101, 110, 116] := by decide +kernel
theorem kS_7 : PySem.Str.ofString "" = tx [] := by decide +kernel
theorem kS_8 : PySem.Str.ofString "a" = tx [97] := by decide +kernel
theorem kS_9 : PySem.Str.ofString "b" = tx [98] := by decide +kernel
theorem kS_10 : PySem.Str.ofString "ab" = tx [97, 98] := by decide +kernel
theorem kS_11 : PySem.Str.ofString "number" = tx [110, 117, 109, 98, 101, 114] := by decide +kernel
local macro_rules | `(tactic| walk_at "st") => `(tactic| simp only [kS_0, kS_1, kS_2, kS_3, kS_4, kS_5, kS_6, kS_7, kS_8, kS_9, kS_10, kS_11, k_IN_FIRST_ALONE])
theorem lholds_eq (rs : List Rect) (hl : rs.length < 50000) (m k : Int) : φ__law_holds [.list (rs.map rectD), .int m, .int k] = some (.bool (holdB rs m k)) := by
  unfold φ__law_holds R__law_holds
  walk_at "ev"
  generalize hC : lc1 _ _ _ _ _ _ = C
  obtain rfl := lcM_of hC (fun r => .bool (decide (r.1 ≤ m) && (decide (m < r.2.1) && (decide (r.2.2.1 ≤ k) && decide (k < r.2.2.2))))) (by omega) (by
    clear hC C
    intro p hp
    walk_at "ev")
  walk_at "ev"
  rfl
theorem isEmpty_map {α β : Type} (f : α → β) (xs : List α) : (xs.map f).isEmpty = xs.isEmpty := by cases xs <;> rfl
theorem strips_eq (xs ks : List Int) (H : Int → Int → Bool) (hx : xs.Pairwise (· < ·)) (lx : xs.length < 40000) (lk : ks.length < 40000) :
    φ__law_strips [.list (xs.map .int), .list (ks.map .int), .list ((List.range (ks.length - 1)).map fun j => PyData.list ((List.range (xs.length - 1)).map fun i => PyData.bool (H (xs.getD i 0) (ks.getD j 0))))] = some (.list ((lawG xs ks H).map stripD)) := by
  unfold φ__law_strips R__law_strips
  have rk := e_ra1_sub (n := ks.length) (by omega)
  have rx := e_ra1_sub (n := xs.length) (by omega)
  generalize hT : (PyData.list ((List.range (ks.length - 1)).map fun j => PyData.list ((List.range (xs.length - 1)).map fun i => PyData.bool (H (xs.getD i 0) (ks.getD j 0))))) = T
  walk_at "evh"
  generalize hF : forL _ _ _ _ = F
  obtain ⟨ρ', rfl, u4, u5, u6, rfl⟩ := for_of hF (fun pre ρ => ∃ u4 u5 u6, ρ = [.val (.list (xs.map .int)), .val (.list (ks.map .int)), .val T, .own (((pre.map fun j => (ks.getD j 0, ks.getD (j + 1) 0, rowS xs fun x => H x (ks.getD j 0))).foldl joinR []).map stripD), u4, u5, u6]) ⟨_, _, _, rfl⟩ (by
    clear hF F
    rintro pre j post e ρ ⟨u4, u5, u6, rfl⟩
    obtain ⟨rfl, hj⟩ := range_mid e
    have hR : ((pre.map fun j => (ks.getD j 0, ks.getD (j + 1) 0, rowS xs fun x => H x (ks.getD j 0))).foldl joinR []).length ≤ 40000 := Nat.le_trans (foldR_len _) (by rw [List.length_map]; omega)
    rw [List.map_append, List.foldl_append, List.map_cons, List.map_nil, List.foldl_cons, List.foldl_nil]
    generalize (pre.map fun j => (ks.getD j 0, ks.getD (j + 1) 0, rowS xs fun x => H x (ks.getD j 0))).foldl joinR [] = R at hR
    have j1 := atI_map (g := PyData.int) (xs := ks) (k := pre.length) (by omega)
    have j2 := atI_map (g := PyData.int) (xs := ks) (k := pre.length + 1) (by omega)
    rw [show ((pre.length + 1 : Nat) : Int) = (pre.length : Int) + 1 by omega] at j2
    rw [← getD0_at] at j1 j2
    have tj : atI ((List.range (ks.length - 1)).map fun j => PyData.list ((List.range (xs.length - 1)).map fun i => PyData.bool (H (xs.getD i 0) (ks.getD j 0)))) (pre.length : Int) = some (PyData.list ((List.range (xs.length - 1)).map fun i => PyData.bool (H (xs.getD i 0) (ks.getD pre.length 0)))) := by
      rw [atI_map (by simpa using hj)]
      simp
    subst hT
    generalize ((List.range (ks.length - 1)).map fun j => PyData.list ((List.range (xs.length - 1)).map fun i => PyData.bool (H (xs.getD i 0) (ks.getD j 0)))) = Tl at tj
    clear e rk
    walk_at "evh"
    generalize hF : forL _ _ _ _ = F
    generalize hfl : (fun x => H x (ks.getD pre.length 0)) = fl at *
    have hfl2 : ∀ x, H x (ks.getD pre.length 0) = fl x := fun x => by rw [← hfl]
    simp only [hfl2] at tj
    obtain ⟨ρ', rfl, v6, rfl, _⟩ := for_of hF (fun pre2 ρ => ∃ v6, ρ = [.val (.list (xs.map .int)), .val (.list (ks.map .int)), .val (.list Tl), .own (R.map stripD), .val (.int (pre.length : Int)), .own ((((pre2.filter fun i => fl (xs.getD i 0)).map (cellX xs)).foldl joinS []).map pairD), v6] ∧
        ∀ q ∈ ((pre2.filter fun i => fl (xs.getD i 0)).map (cellX xs)).foldl joinS [], q.2 ≤ xs.getD pre2.length 0) ⟨_, rfl, by simp⟩ (by
      clear hF F
      rintro pre2 i post e ρ ⟨v6, rfl, hb⟩
      obtain ⟨rfl, hi⟩ := range_mid e
      have hS : (((pre2.filter fun i => fl (xs.getD i 0)).map (cellX xs)).foldl joinS []).length ≤ 40000 := Nat.le_trans (foldJ_len _) (by rw [List.length_map]; exact Nat.le_trans (List.length_filter_le _ _) (by omega))
      have i1 := atI_map (g := PyData.int) (xs := xs) (k := pre2.length) (by omega)
      have i2 := atI_map (g := PyData.int) (xs := xs) (k := pre2.length + 1) (by omega)
      rw [show ((pre2.length + 1 : Nat) : Int) = (pre2.length : Int) + 1 by omega] at i2
      rw [← getD0_at] at i1 i2
      have tt : atI ((List.range (xs.length - 1)).map fun i => PyData.bool (fl (xs.getD i 0))) (pre2.length : Int) = some (PyData.bool (fl (xs.getD pre2.length 0))) := by
        rw [atI_map (by simpa using hi)]
        simp
      have up := asc_lt hx (show pre2.length < pre2.length + 1 by omega) (by omega)
      rw [List.filter_append, List.map_append, List.foldl_append]
      generalize ((pre2.filter fun i => fl (xs.getD i 0)).map (cellX xs)).foldl joinS [] = S at *
      rw [show (pre2 ++ [pre2.length]).length = pre2.length + 1 by simp]
      by_cases hf : fl (xs.getD pre2.length 0) = true
      · rw [List.filter_cons_of_pos (by simpa using hf), List.filter_nil, List.map_cons, List.map_nil, List.foldl_cons, List.foldl_nil]
        rw [hf] at tt
        have bound := joinS_bound (S := S) (p := cellX xs pre2.length) (b := xs.getD (pre2.length + 1) 0) (fun q hq => by have := hb q hq; omega) (Int.le_refl _)
        unfold cellX at *
        generalize ((List.range (xs.length - 1)).map fun i => PyData.bool (fl (xs.getD i 0))) = Tr at *
        generalize xs.getD pre2.length 0 = x1 at *
        generalize xs.getD (pre2.length + 1) 0 = x2 at *
        clear hfl hfl2 hf e j1 j2 hR
        rcases List.eq_nil_or_concat S with rfl | ⟨o, l, rfl⟩
        · rw [joinS_nil] at *
          walk_at "evh"
          exact ⟨_, .inl rfl, _, rfl, bound⟩
        · rw [List.concat_eq_append] at *
          have hl := hb l (by simp)
          clear hb
          simp only [List.length_append, List.length_cons, List.length_nil] at hS
          by_cases c : l.2 = x1
          · rw [joinS_le (show (x1, x2).1 ≤ l.2 from by show x1 ≤ l.2; omega)] at *
            rw [show max l.2 (x1, x2).2 = x2 by show max l.2 x2 = x2; omega] at *
            walk_at "evh"
            exact ⟨_, .inl rfl, _, rfl, bound⟩
          · rw [joinS_gt (show ¬ (x1, x2).1 ≤ l.2 from by show ¬ x1 ≤ l.2; omega)] at *
            walk_at "evh"
            exact ⟨_, .inl rfl, _, rfl, bound⟩
      · rw [List.filter_cons_of_neg (by simpa using hf), List.filter_nil, List.map_nil, List.foldl_nil]
        rw [Bool.not_eq_true] at hf
        rw [hf] at tt
        have bound : ∀ q ∈ S, q.2 ≤ xs.getD (pre2.length + 1) 0 := fun q hq => by have := hb q hq; omega
        generalize ((List.range (xs.length - 1)).map fun i => PyData.bool (fl (xs.getD i 0))) = Tr at *
        clear hfl hfl2 hf e j1 j2 hR i1 i2 hb
        walk_at "evh"
        exact ⟨_, .inl rfl, _, rfl, bound⟩)
    clear hF
    have hrow : (((List.range (xs.length - 1)).filter fun i => fl (xs.getD i 0)).map (cellX xs)).foldl joinS [] = rowS xs fl := rfl
    rw [hrow]
    clear hrow tj hfl hfl2 rx
    generalize rowS xs fl = S
    generalize ks.getD pre.length 0 = y1 at *
    generalize ks.getD (pre.length + 1) 0 = y2 at *
    by_cases hS : S = []
    · subst hS
      rw [joinR_empty rfl]
      rcases List.eq_nil_or_concat R with rfl | ⟨o, l, rfl⟩
      · walk_at "evh"
        exact ⟨_, .inl rfl, _, _, _, rfl⟩
      · walk_at "evh"
        exact ⟨_, .inl rfl, _, _, _, rfl⟩
    have hS2 : S.isEmpty = false := by cases S with
      | nil => exact (hS rfl).elim
      | cons _ _ => rfl
    have hS3 : (S.map pairD).isEmpty = false := by rw [isEmpty_map, hS2]
    rcases List.eq_nil_or_concat R with rfl | ⟨o, l, rfl⟩
    · rw [joinR_first (p := (y1, y2, S)) hS]
      walk_at "evh"
      exact ⟨_, .inl rfl, _, _, _, rfl⟩
    · rw [List.concat_eq_append] at *
      simp only [List.length_append, List.length_cons, List.length_nil] at hR
      have hq := dEq_pairs l.2.2 S
      by_cases c1 : l.2.1 = y1
      · by_cases c2 : l.2.2 = S
        · rw [joinR_in (p := (y1, y2, S)) hS c1 c2]
          rw [c2] at hq
          walk_at "evh"
          exact ⟨_, .inl rfl, _, _, _, rfl⟩
        · rw [joinR_on (p := (y1, y2, S)) hS (fun z => c2 z.2)]
          walk_at "evh"
          exact ⟨_, .inl rfl, _, _, _, rfl⟩
      · rw [joinR_on (p := (y1, y2, S)) hS (fun z => c1 z.1)]
        walk_at "evh"
        exact ⟨_, .inl rfl, _, _, _, rfl⟩)
  walk_at "evh"
  rfl
theorem lregion_eq (rs : List Rect) (hl : rs.length ≤ 900) : φ__law_region [.list (rs.map rectD)] = some (.list ((lawR rs).map stripD)) := by
  unfold φ__law_region R__law_region
  have hcat1 := e_catL (xs := rs.map fun r => PyData.int r.1) (ys := rs.map fun r => PyData.int r.2.1) (by simp only [List.length_map]; omega)
  have hss1 := e_sortSet (r := .val (.list ((rs.map fun r => PyData.int r.1) ++ rs.map fun r => PyData.int r.2.1))) (ns := rs.map (fun r => r.1) ++ rs.map (fun r => r.2.1)) (by rw [List.map_append (f := PyData.int), List.map_map, List.map_map]; rfl) (by simp only [List.length_append, List.length_map]; omega)
  change dSortSet _ = some (.new ((xsOf rs).map .int)) at hss1
  have hb1 : (xsOf rs).length ≤ 2000 := Nat.le_trans (sortU_len _) (by simp only [List.length_append, List.length_map]; omega)
  have hcat2 := e_catL (xs := rs.map fun r => PyData.int r.2.2.1) (ys := rs.map fun r => PyData.int r.2.2.2) (by simp only [List.length_map]; omega)
  have hss2 := e_sortSet (r := .val (.list ((rs.map fun r => PyData.int r.2.2.1) ++ rs.map fun r => PyData.int r.2.2.2))) (ns := rs.map (fun r => r.2.2.1) ++ rs.map (fun r => r.2.2.2)) (by rw [List.map_append (f := PyData.int), List.map_map, List.map_map]; rfl) (by simp only [List.length_append, List.length_map]; omega)
  change dSortSet _ = some (.new ((ksOf rs).map .int)) at hss2
  have hb2 : (ksOf rs).length ≤ 2000 := Nat.le_trans (sortU_len _) (by simp only [List.length_append, List.length_map]; omega)
  walk_at "ev"
  generalize hC : lc1 _ _ (gIx (rVar 6) (vC (.int 0))) _ _ _ = C
  obtain rfl := lcM_of hC (fun r => .int r.1) (by omega) (by
    clear hC C
    intro p hp
    walk_at "ev")
  clear hC
  generalize hC : lc1 _ _ (gIx (rVar 6) (vC (.int 1))) _ _ _ = C
  obtain rfl := lcM_of hC (fun r => .int r.2.1) (by omega) (by
    clear hC C
    intro p hp
    walk_at "ev")
  clear hC
  walk_at "evh"
  generalize hC : lc1 _ _ (gIx (rVar 6) (vC (.int 2))) _ _ _ = C
  obtain rfl := lcM_of hC (fun r => .int r.2.2.1) (by omega) (by
    clear hC C
    intro p hp
    walk_at "ev")
  clear hC
  generalize hC : lc1 _ _ (gIx (rVar 6) (vC (.int 3))) _ _ _ = C
  obtain rfl := lcM_of hC (fun r => .int r.2.2.2) (by omega) (by
    clear hC C
    intro p hp
    walk_at "ev")
  clear hC
  walk_at "evh"
  have rk := e_ra1_sub (n := (ksOf rs).length) (by omega)
  have rx := e_ra1_sub (n := (xsOf rs).length) (by omega)
  clear hcat1 hcat2 hss1 hss2
  have hho := lholds_eq rs (by omega)
  have hst := strips_eq (xsOf rs) (ksOf rs) (holdB rs) (sortU_sorted _) (by omega) (by omega)
  change _ = some (PyData.list ((lawR rs).map stripD)) at hst
  generalize lawR rs = LR at *
  generalize xsOf rs = xs at *
  generalize ksOf rs = ks at *
  generalize hF : forL _ _ _ _ = F
  obtain ⟨ρ', rfl, u4, rfl⟩ := for_of hF (fun pre ρ => ∃ u4, ρ = [.val (.list (rs.map rectD)), .val (.list (xs.map .int)), .val (.list (ks.map .int)), .own (pre.map fun j => PyData.list ((List.range (xs.length - 1)).map fun i => PyData.bool (holdB rs (xs.getD i 0) (ks.getD j 0)))), u4, .un, .un]) ⟨_, rfl⟩ (by
    clear hF F hst
    rintro pre j post e ρ ⟨u4, rfl⟩
    obtain ⟨rfl, hj⟩ := range_mid e
    have j1 := atI_map (g := PyData.int) (xs := ks) (k := pre.length) (by omega)
    rw [← getD0_at] at j1
    clear e rk
    walk_at "evh"
    generalize hC : lc1 _ _ _ _ _ _ = C
    obtain rfl := lcM_of hC (fun i : Nat => PyData.bool (holdB rs (xs.getD i 0) (ks.getD pre.length 0))) (by rw [List.length_range]; omega) (by
      clear hC C
      intro i hi
      have hi := List.mem_range.mp hi
      have i1 := atI_map (g := PyData.int) (xs := xs) (k := i) (by omega)
      rw [← getD0_at] at i1
      walk_at "evh")
    clear hC
    have hp : (pre.map fun j => PyData.list ((List.range (xs.length - 1)).map fun i => PyData.bool (holdB rs (xs.getD i 0) (ks.getD j 0)))).length ≤ 2000 := by rw [List.length_map]; omega
    generalize (pre.map fun j => PyData.list ((List.range (xs.length - 1)).map fun i => PyData.bool (holdB rs (xs.getD i 0) (ks.getD j 0)))) = T at *
    walk_at "evh"
    exact ⟨_, .inl rfl, _, rfl⟩)
  walk_at "evh"
theorem ib_eq {α : Type} (enc : α → D) (en : α → Int) (xs : List α) (n : Int) (hl : xs.length < 50000) (he : ∀ x ∈ xs, ∃ a r, enc x = .tuple (a :: .int (en x) :: r)) (hs : (xs.map en).Pairwise (· ≤ ·)) :
    ∃ k, k ≤ xs.length ∧ φ_index_behind [.list (xs.map enc), .int n] = some (.int (k : Int)) ∧ (∀ i (h : i < xs.length), i < k → en xs[i] ≤ n) ∧ ∀ i (h : i < xs.length), k ≤ i → n < en xs[i] := by
  have mono : ∀ i j (hi : i < xs.length) (hj : j < xs.length), i ≤ j → en xs[i] ≤ en xs[j] := fun i j hi hj hij => by
    rcases Nat.lt_or_eq_of_le hij with h | h
    · have := List.pairwise_iff_getElem.mp hs i j (by simpa using hi) (by simpa using hj) h
      simpa using this
    · subst h; exact Int.le_refl _
  have go : ∀ (m lo hi : Nat) (u : Sl), hi - lo < m → lo ≤ hi → hi ≤ xs.length → (∀ i (h : i < xs.length), i < lo → en xs[i] ≤ n) → (∀ i (h : i < xs.length), hi ≤ i → n < en xs[i]) →
      ∃ (k : Nat) (u' : Sl), k ≤ xs.length ∧ whileL (Pu.tB (b2 dLt (vVar 2) (vVar 3))) (rSeq (rSet 4 (b2 dFdiv (b2 dAdd (vVar 2) (vVar 3)) (vC (.int 2)))) (rIf (Pu.tB (b2 dLe (gIx (gr (gIx (rVar 0) (vVar 4))) (vC (.int 1))) (vVar 1))) (rSet 2 (b2 dAdd (vVar 4) (vC (.int 1)))) (rSet 3 (vVar 4)))) m
        [.val (.list (xs.map enc)), .val (.int n), .val (.int (lo : Int)), .val (.int (hi : Int)), u] = some (.nx [.val (.list (xs.map enc)), .val (.int n), .val (.int (k : Int)), .val (.int (k : Int)), u']) ∧
        (∀ i (h : i < xs.length), i < k → en xs[i] ≤ n) ∧ ∀ i (h : i < xs.length), k ≤ i → n < en xs[i] := by
    intro m
    induction m with
    | zero => intro lo hi u h; omega
    | succ m ih =>
      intro lo hi u hm h1 h2 h3 h4
      rw [e_whileL]
      by_cases c : lo < hi
      · have c' : (lo : Int) < (hi : Int) := by omega
        have hmid : ((lo : Int) + (hi : Int)) / 2 = (((lo + hi) / 2 : Nat) : Int) := by omega
        have hk : (lo + hi) / 2 < xs.length := by omega
        have a1 := atI_map (g := enc) hk
        obtain ⟨a, r, a2⟩ := he xs[(lo + hi) / 2] (List.getElem_mem hk)
        rw [a2] at a1
        by_cases d : en xs[(lo + hi) / 2] ≤ n
        · obtain ⟨k, u', k1, k2, k3, k4⟩ := ih ((lo + hi) / 2 + 1) hi (.val (.int (((lo + hi) / 2 : Nat) : Int))) (by omega) (by omega) h2 (fun i h hi => Int.le_trans (mono i _ h hk (by omega)) d) h4
          refine ⟨k, u', k1, ?_, k3, k4⟩
          rw [show ((((lo + hi) / 2 + 1 : Nat)) : Int) = (((lo + hi) / 2 : Nat) : Int) + 1 by omega] at k2
          generalize (((lo + hi) / 2 : Nat) : Int) = mid at *
          generalize xs[(lo + hi) / 2] = y at *
          clear ih h3 h4 k3 k4 mono he hs hm
          walk_at "evh"
        · obtain ⟨k, u', k1, k2, k3, k4⟩ := ih lo ((lo + hi) / 2) (.val (.int (((lo + hi) / 2 : Nat) : Int))) (by omega) (by omega) (by omega) h3 (fun i h hi => by have := mono _ i hk h (by omega); omega)
          refine ⟨k, u', k1, ?_, k3, k4⟩
          generalize (((lo + hi) / 2 : Nat) : Int) = mid at *
          generalize xs[(lo + hi) / 2] = y at *
          clear ih h3 h4 k3 k4 mono he hs hm
          walk_at "evh"
      · have e : lo = hi := by omega
        subst e
        refine ⟨lo, u, h2, ?_, h3, h4⟩
        clear ih h3 h4 mono he hs hm
        walk_at "evh"
  obtain ⟨k, u, k1, k2, k3, k4⟩ := go 100000 0 xs.length .un (by omega) (Nat.zero_le _) (Nat.le_refl _) (by intros; omega) (by intros; omega)
  refine ⟨k, k1, ?_, k3, k4⟩
  unfold φ_index_behind R_index_behind
  clear go mono he hs k3 k4
  simp only [Int.natCast_zero] at k2
  walk_at "evh"
def fl1 (s : List PP) : List PP := (flat s).map fun b => (b, 1)
def fl2 (s : List PP) : List PP := (flat s).map fun b => (b, 2)
theorem flat_len (s : List PP) : (flat s).length = 2 * s.length := by
  induction s with
  | nil => rfl
  | cons p s ih => rw [flat_cons]; simp only [List.length_append, List.length_cons, List.length_nil]; omega
def WD (W : Bool → Bool → Bool) : D := .tuple [.bool (W false false), .bool (W true false), .bool (W false true), .bool (W true true)]
def hI (h1 h2 : Bool) : Int := (if h1 = true then 1 else 0) + if h2 = true then 2 else 0
theorem wd_at (W : Bool → Bool → Bool) (h1 h2 : Bool) : atI [PyData.bool (W false false), .bool (W true false), .bool (W false true), .bool (W true true)] (hI h1 h2) = some (.bool (W h1 h2)) := by
  cases h1 <;> cases h2 <;> rfl
theorem xor_at (h1 h2 : Bool) (k : Int) (hk : k = 1 ∨ k = 2) : dXor (.int (hI h1 h2)) (.int k) = some (.int (hI (h1 != decide (k = 1)) (h2 != decide (k = 2)))) := by
  rcases hk with rfl | rfl <;> cases h1 <;> cases h2 <;> rfl
theorem comb_eq (W : Bool → Bool → Bool) (h0 : W false false = false) (f s : List PP) (hf : NF f) (hs : NF s) (lf : f.length ≤ 1000) (ls : s.length ≤ 1000) :
    ∃ r : List PP, φ__combined [.list (f.map pairD), .list (s.map pairD), WD W] = some (.list (r.map pairD)) ∧ NF r ∧ r.length ≤ f.length + s.length ∧ ∀ n, Mem n r ↔ W (memB f n) (memB s n) = true := by
  have wat := wd_at W
  unfold φ__combined R__combined WD
  generalize [PyData.bool (W false false), .bool (W true false), .bool (W false true), .bool (W true true)] = wl at wat
  have hq := dEq_pairs f s
  have a3 : atI wl 3 = some (.bool (W true true)) := wat true true
  have a1 : atI wl 1 = some (.bool (W true false)) := wat true false
  have a2 : atI wl 2 = some (.bool (W false true)) := wat false true
  have tru : ∀ x : List PP, dTru (.list (x.map pairD)) = some (!x.isEmpty) := fun x => by cases x <;> rfl
  have no : ∀ n, memB [] n = false := fun n => rfl
  have nfn : NF [] := ⟨.nil, fun p hp => by cases hp⟩
  by_cases hfs : f = s
  · subst hfs
    have hw : ∀ n, W (memB f n) (memB f n) = (memB f n && W true true) := fun n => by cases memB f n <;> simp [h0]
    cases hc : W true true with
    | true =>
      rw [hc] at a3 hw
      clear wat tru hq
      have hq2 : dEq (.list (f.map pairD)) (.list (f.map pairD)) = some (.bool true) := by rw [dEq_pairs]; simp
      clear a1 a2
      refine ⟨f, ?_, hf, Nat.le_add_right _ _, fun n => by rw [hw n, Bool.and_true, memB_iff]⟩
      clear hw no nfn
      walk_at "evh"
    | false =>
      rw [hc] at a3 hw
      have hq2 : dEq (.list (f.map pairD)) (.list (f.map pairD)) = some (.bool true) := by rw [dEq_pairs]; simp
      refine ⟨[], ?_, nfn, Nat.zero_le _, fun n => by rw [hw n, ← memB_iff, no, Bool.and_false]⟩
      clear hw no nfn wat tru hq a1 a2
      walk_at "evh"
  have hq1 : dEq (.list (f.map pairD)) (.list (s.map pairD)) = some (.bool false) := by rw [hq, decide_eq_false hfs]
  clear hq
  have ts := tru s
  have tf := tru f
  clear tru
  by_cases hs0 : s = []
  · subst hs0
    simp only [List.map_nil] at hq1 ts
    replace ts : dTru (.list []) = some false := ts
    have hw : ∀ n, W (memB f n) (memB [] n) = (memB f n && W true false) := fun n => by rw [no]; cases memB f n <;> simp [h0]
    cases hc : W true false with
    | true =>
      rw [hc] at a1 hw
      refine ⟨f, ?_, hf, Nat.le_add_right _ _, fun n => by rw [hw n, Bool.and_true, memB_iff]⟩
      clear hw no nfn wat a3 a2 tf
      walk_at "evh"
    | false =>
      rw [hc] at a1 hw
      refine ⟨[], ?_, nfn, Nat.zero_le _, fun n => by rw [hw n, ← memB_iff, no, Bool.and_false]⟩
      clear hw no nfn wat a3 a2 tf
      walk_at "evh"
  have ts2 : dTru (.list (s.map pairD)) = some true := by rw [ts]; cases s with | nil => exact absurd rfl hs0 | cons _ _ => rfl
  clear ts
  by_cases hf0 : f = []
  · subst hf0
    simp only [List.map_nil] at hq1 tf
    replace tf : dTru (.list []) = some false := tf
    have hw : ∀ n, W (memB [] n) (memB s n) = (memB s n && W false true) := fun n => by rw [no]; cases memB s n <;> simp [h0]
    cases hc : W false true with
    | true =>
      rw [hc] at a2 hw
      refine ⟨s, ?_, hs, Nat.le_add_left _ _, fun n => by rw [hw n, Bool.and_true, memB_iff]⟩
      clear hw no nfn wat a3 a1
      walk_at "evh"
    | false =>
      rw [hc] at a2 hw
      refine ⟨[], ?_, nfn, Nat.zero_le _, fun n => by rw [hw n, ← memB_iff, no, Bool.and_false]⟩
      clear hw no nfn wat a3 a1
      walk_at "evh"
  have tf2 : dTru (.list (f.map pairD)) = some true := by rw [tf]; cases f with | nil => exact absurd rfl hf0 | cons _ _ => rfl
  clear tf a1 a2 a3 no nfn
  walk_at "evh"
  clear hq1 ts2 tf2
  generalize hC : lc2r _ _ _ _ _ _ _ _ _ (f.map pairD) = C
  obtain rfl := lc2_of hC (fun p => [pairD (p.1, 1), pairD (p.2, 1)]) (by rw [show (f.flatMap fun p => [pairD (p.1, 1), pairD (p.2, 1)]) = (fl1 f).map pairD by unfold fl1 flat; rw [List.map_map, List.map_flatMap]; rfl]; unfold fl1; simp only [List.length_map, flat_len]; omega) (by
    intro p hp
    walk_at "ev")
  clear hC
  generalize hC : lc2r _ _ _ _ _ _ _ _ _ (s.map pairD) = C
  obtain rfl := lc2_of hC (fun p => [pairD (p.1, 2), pairD (p.2, 2)]) (by rw [show (s.flatMap fun p => [pairD (p.1, 2), pairD (p.2, 2)]) = (fl2 s).map pairD by unfold fl2 flat; rw [List.map_map, List.map_flatMap]; rfl]; unfold fl2; simp only [List.length_map, flat_len]; omega) (by
    intro p hp
    walk_at "ev")
  clear hC
  rw [show (f.flatMap fun p => [pairD (p.1, 1), pairD (p.2, 1)]) = (fl1 f).map pairD by unfold fl1 flat; rw [List.map_map, List.map_flatMap]; rfl,
    show (s.flatMap fun p => [pairD (p.1, 2), pairD (p.2, 2)]) = (fl2 s).map pairD by unfold fl2 flat; rw [List.map_map, List.map_flatMap]; rfl]
  have hl1 : (fl1 f).length = 2 * f.length := by unfold fl1; rw [List.length_map, flat_len]
  have hl2 : (fl2 s).length = 2 * s.length := by unfold fl2; rw [List.length_map, flat_len]
  have hcat := e_catL (xs := (fl1 f).map pairD) (ys := (fl2 s).map pairD) (by simp only [List.length_map]; omega)
  have hso := sorted_pairs (fl1 f ++ fl2 s) (r := .val (.list ((fl1 f).map pairD ++ (fl2 s).map pairD))) (by rw [List.map_append]; rfl)
  have hso2 := sortX_pairs (fl1 f ++ fl2 s) (r := .val (.list ((fl1 f).map pairD ++ (fl2 s).map pairD))) (by rw [List.map_append]; rfl)
  walk_at "evh"
  have hperm := sortP_perm (fl1 f ++ fl2 s)
  have hsort := sortP_sorted (fl1 f ++ fl2 s)
  have hlen : (sortP (fl1 f ++ fl2 s)).length = 2 * f.length + 2 * s.length := by rw [hperm.length_eq, List.length_append, hl1, hl2]
  have hk : ∀ q ∈ sortP (fl1 f ++ fl2 s), q.2 = 1 ∨ q.2 = 2 := fun q hq => by
    rcases List.mem_append.mp (hperm.mem_iff.mp hq) with h | h
    · obtain ⟨b, _, rfl⟩ := List.mem_map.mp h; exact .inl rfl
    · obtain ⟨b, _, rfl⟩ := List.mem_map.mp h; exact .inr rfl
  have hp1 : ∀ n, hx 1 (sortP (fl1 f ++ fl2 s)) n = par (flat f) n := fun n => by
    rw [hx_perm hperm, hx_app]
    unfold fl1 fl2
    rw [hx_same, hx_other (by decide)]; simp
  have hp2 : ∀ n, hx 2 (sortP (fl1 f ++ fl2 s)) n = par (flat s) n := fun n => by
    rw [hx_perm hperm, hx_app]
    unfold fl1 fl2
    rw [hx_same, hx_other (by decide)]; simp
  clear hperm hl1 hl2
  generalize sortP (fl1 f ++ fl2 s) = F at *
  clear hcat hso hso2
  generalize hG : forL _ _ _ _ = G
  obtain ⟨ρ', rfl, B, h1, h2, u, v, w, rfl, hW, hB⟩ := for_of hG (fun pre ρ => ∃ B h1 h2 u v w, ρ = [.val (.list (f.map pairD)), .val (.list (s.map pairD)), .val (.tuple wl), .val (.list (F.map pairD)), .own (B.map .int), .val (.int (hI h1 h2)), u, v, w, .un, .un] ∧ Walked W pre B h1 h2 ∧ B.length ≤ pre.length)
    ⟨[], false, false, _, _, _, rfl, .start h0, Nat.le_refl _⟩ (by
    clear hG G
    rintro pre ⟨x, k⟩ post e ρ ⟨B, h1, h2, u, v, w, rfl, hW, hB⟩
    have hkx := hk (x, k) (by rw [e]; simp)
    have hxo := xor_at h1 h2 k hkx
    have hpre : ∀ q ∈ pre, q.1 ≤ x := fun q hq => by
      rw [e] at hsort
      have := (List.pairwise_append.mp hsort).2.2 q hq (x, k) (by simp)
      rw [leP_iff] at this
      simp only at this
      omega
    have hn := hW.step (x := x) (k := k) hpre
    have hB2 : B.length ≤ 10000 := by
      have : pre.length ≤ F.length := by rw [e]; simp
      omega
    clear h0 hk hp1 hp2 hpre e hlen hkx hsort hW
    have a1 := wat h1 h2
    have a2 := wat (h1 != decide (k = 1)) (h2 != decide (k = 2))
    clear wat
    generalize (h1 != decide (k = 1)) = g1 at *
    generalize (h2 != decide (k = 2)) = g2 at *
    generalize hI h1 h2 = i0 at *
    generalize hI1 : hI g1 g2 = i1 at *
    unfold flipB at hn
    generalize W h1 h2 = w0 at *
    generalize hw1 : W g1 g2 = w1 at *
    by_cases c : w1 = w0
    · rw [if_pos c] at hn
      walk_at "evh"
      exact ⟨_, .inr rfl, B, g1, g2, _, _, _, by rw [hI1], hn, by simp; omega⟩
    rw [if_neg c] at hn
    rcases List.eq_nil_or_concat B with rfl | ⟨o, l, rfl⟩
    · rw [if_neg (by simp)] at hn
      walk_at "evh"
      exact ⟨_, .inl rfl, [] ++ [x], g1, g2, _, _, _, by rw [hI1]; rfl, hn, by simp⟩
    · rw [List.concat_eq_append] at *
      simp only [List.length_append, List.length_cons, List.length_nil] at hB hB2
      rw [List.getLast?_concat] at hn
      by_cases d : l = x
      · subst d
        rw [if_pos rfl, List.dropLast_concat] at hn
        walk_at "evh"
        exact ⟨_, .inl rfl, o, g1, g2, _, _, _, by rw [hI1], hn, by simp; omega⟩
      · rw [if_neg (by simpa using d)] at hn
        walk_at "evh"
        exact ⟨_, .inl rfl, o ++ [l] ++ [x], g1, g2, .val (.int x), .val (.int k), .val (.bool w0), by rw [hI1]; simp, hn, by simp; omega⟩)
  clear hG
  have hBl : B.length ≤ 2 * f.length + 2 * s.length := by omega
  have ra := e_ra3_2 (n := B.length) (by omega)
  walk_at "evh"
  obtain ⟨n0, hn0⟩ := exists_ge (F.map (·.1) ++ (flat f ++ flat s))
  have u1 : ∀ q ∈ F, q.1 ≤ n0 := fun q hq => hn0 _ (List.mem_append_left _ (List.mem_map.mpr ⟨q, hq, rfl⟩))
  have u2 : par (flat f) n0 = false := par_full (fun b hb => hn0 b (by simp [hb])) (by rw [flat_len]; omega)
  have u3 : par (flat s) n0 = false := par_full (fun b hb => hn0 b (by simp [hb])) (by rw [flat_len]; omega)
  have even : B.length % 2 = 0 := par_even (n := n0) (fun b hb => by
    obtain ⟨q, hq, h⟩ := hW.low b hb
    exact Int.le_trans h (u1 q hq)) (by rw [hW.pr n0, hp1, hp2, u2, u3, h0])
  have half : (B.length + 1) / 2 = B.length / 2 := by omega
  rw [half]
  clear ra
  generalize hC : lc1 _ _ _ _ _ _ = C
  obtain rfl := lcM_of hC (fun i : Nat => pairD (B.getD (2 * i) 0, B.getD (2 * i + 1) 0)) (by rw [List.length_range]; omega) (by
    clear hC C
    intro i hi
    have hi := List.mem_range.mp hi
    have c1 := atI_map (g := PyData.int) (xs := B) (k := 2 * i) (by omega)
    have c2 := atI_map (g := PyData.int) (xs := B) (k := 2 * i + 1) (by omega)
    rw [show ((2 * i : Nat) : Int) = (i : Int) * 2 by omega] at c1
    rw [show ((2 * i + 1 : Nat) : Int) = (i : Int) * 2 + 1 by omega] at c2
    rw [getD0_at (by omega), getD0_at (by omega)]
    clear h0 hf hs wat hsort hk hp1 hp2 hW hn0 u1
    walk_at "evh")
  clear hC
  have hr : (List.range (B.length / 2)).map (fun i : Nat => pairD (B.getD (2 * i) 0, B.getD (2 * i + 1) 0)) = (pairUp B).map pairD := by
    rw [← pairUp_at, List.map_map]; rfl
  rw [hr]
  refine ⟨pairUp B, by walk_at "ev", NF_pairUp hW.asc, ?_, fun n => ?_⟩
  · rw [← pairUp_at, List.length_map, List.length_range]; omega
  · rw [← par_flat n (NF_pairUp hW.asc), flat_pairUp even, hW.pr n, hp1, hp2]
    have e1 : par (flat f) n = memB f n := by rw [Bool.eq_iff_iff, par_flat n hf, memB_iff]
    have e2 : par (flat s) n = memB s n := by rw [Bool.eq_iff_iff, par_flat n hs, memB_iff]
    rw [e1, e2]
def Ws : Nat → Bool → Bool → Bool
  | 0 => fun a b => a || b
  | 1 => fun a b => a && b
  | _ => fun a b => a && !b
theorem op_ok (i : Nat) (f s : List PP) (hf : NF f) (hs : NF s) (lf : f.length ≤ 500) (ls : s.length ≤ 500) : φ__combined [.list (f.map pairD), .list (s.map pairD), WD (Ws i)] = some (.list ((spansN (dueP (Ws i) f s)).map pairD)) := by
  have h0 : Ws i false false = false := by
    match i with
    | 0 => rfl
    | 1 => rfl
    | _ + 2 => rfl
  obtain ⟨r, r1, r2, r3, r4⟩ := comb_eq (Ws i) h0 f s hf hs (by omega) (by omega)
  obtain ⟨n1, n2⟩ := spansN_ok (dueP (Ws i) f s)
  rw [r1, r2.uniq n1 fun n => by rw [r4 n, n2 n, due_ok h0]]
theorem minus_eq (f s : List PP) (hf : NF f) (hs : NF s) (lf : f.length ≤ 500) (ls : s.length ≤ 500) : φ_spans_minus [.list (f.map pairD), .list (s.map pairD)] = some (.list ((spansN (dueP (Ws 2) f s)).map pairD)) := by
  have h := op_ok 2 f s hf hs lf ls
  change φ__combined [_, _, k_IN_FIRST_ALONE] = _ at h
  unfold φ_spans_minus R_spans_minus
  walk_at "evh"
theorem NFR.ends {R : List Strip} (h : NFR R) : (R.map (·.2.1)).Pairwise (· ≤ ·) := by
  rw [List.pairwise_map]
  exact h.ord.imp_of_mem fun {a b} _ hb h1 => by
    have := (h.each b hb).1
    omega
theorem sat_eq (R : List Strip) (hR : NFR R) (lR : R.length < 50000) (k : Int) : φ__spans_at [.list (R.map stripD), .int k] = some (.list ((atR k R).map pairD)) := by
  obtain ⟨i, i1, i2, i3, i4⟩ := ib_eq stripD (·.2.1) R k lR (fun x _ => ⟨_, _, rfl⟩) (NFR.ends hR)
  unfold φ__spans_at R__spans_at
  by_cases c : i < R.length
  · have a1 := atI_map (g := stripD) c
    have a2 := i4 i c (Nat.le_refl _)
    by_cases d : R[i].1 ≤ k
    · have hm := atR_of hR.ord (List.getElem_mem c) d a2
      rw [hm]
      generalize R[i] = y at *
      clear i3 i4 hm hR
      walk_at "evh"
    · have hm : atR k R = [] := by
        by_cases z : atR k R = []
        · exact z
        · obtain ⟨s, hs, s1, s2, _⟩ := atR_mem z
          obtain ⟨j, hj, rfl⟩ := List.mem_iff_getElem.mp hs
          rcases Nat.lt_trichotomy j i with e | e | e
          · have := i3 j hj e; omega
          · subst e; omega
          · have w := List.pairwise_iff_getElem.mp hR.ord i j c hj e
            omega
      rw [hm]
      generalize R[i] = y at *
      clear i3 i4 hm hR
      walk_at "evh"
  · have hm : atR k R = [] := by
      by_cases z : atR k R = []
      · exact z
      · obtain ⟨s, hs, s1, s2, _⟩ := atR_mem z
        obtain ⟨j, hj, rfl⟩ := List.mem_iff_getElem.mp hs
        have := i3 j hj (by omega)
        omega
    rw [hm]
    clear i3 i4 hm hR
    walk_at "evh"
/-- the state that the law draws from -/
structure Sta (ss : List D) : Prop where
  ex : ∃ (cs : List Int) (r p m : Int), ss = [scrD (cs.map .int), .int r, .int p, .int m, .list [], .int 0, .int 0, .int 0] ∧ (m = 0 ∨ m = 1 ∧ cs ≠ []) ∧ 0 ≤ p
theorem scr_at {cs : List Int} {q : Int} (h0 : 0 ≤ q) (h1 : q < cs.length) : ∃ x, atI (cs.map PyData.int) q = some (.int x) := by
  obtain ⟨k, rfl⟩ := Int.eq_ofNat_of_zero_le h0
  have hk : k < cs.length := by omega
  exact ⟨cs[k], atI_map (g := PyData.int) hk⟩
theorem take_ok {ss : List D} (h : Sta ss) (n : Int) (hn : 0 < n) (hn2 : n < 2000000000000000000) : ∃ v ss', φ__law_take ss [.int n] = some (.ok (.int v), ss') ∧ 0 ≤ v ∧ v < n ∧ Sta ss' := by
  obtain ⟨cs, r, p, m, rfl, hm, hp⟩ := h.ex
  have hd : ∀ x, dFdiv (.int x) (.int n) = some (.int (x / n)) := fun x => e_fdiv_p hn (by omega)
  have i1 : ixN 8 1 = some 1 := rfl
  have i2 : ixN 8 2 = some 2 := rfl
  rcases hm with rfl | ⟨rfl, ne⟩
  · unfold φ__law_take R__law_take
    walk_at "ev"
    by_cases hr : r = 0
    · simp only [hr, decide_true]
      walk_at "ev"
      by_cases hl : (cs.length : Int) ≤ p
      · simp only [hl, decide_true, ge_iff_le]
        walk_at "ev"
        exact ⟨0, _, rfl, by omega, hn, ⟨cs, 0, p, 0, rfl, .inl rfl, hp⟩⟩
      · obtain ⟨x, hx⟩ := scr_at (cs := cs) hp (by omega)
        simp only [hl, decide_false, ge_iff_le]
        walk_at "ev"
        rw [hx]
        walk_at "evh"
        exact ⟨_, _, rfl, Int.emod_nonneg _ (by omega), Int.emod_lt_of_pos _ hn, ⟨cs, _, _, 0, rfl, .inl rfl, by omega⟩⟩
    · simp only [hr, decide_false]
      walk_at "ev"
      walk_at "evh"
      exact ⟨_, _, rfl, Int.emod_nonneg _ (by omega), Int.emod_lt_of_pos _ hn, ⟨cs, _, _, 0, rfl, .inl rfl, hp⟩⟩
  · have hl : (0 : Int) < cs.length := by have := List.length_pos_iff.mpr ne; omega
    obtain ⟨x, hx⟩ := scr_at (cs := cs) (Int.emod_nonneg p (by omega)) (Int.emod_lt_of_pos p hl)
    unfold φ__law_take R__law_take
    walk_at "ev"
    rw [hx]
    walk_at "evh"
    exact ⟨_, _, rfl, Int.emod_nonneg _ (by omega), Int.emod_lt_of_pos _ hn, ⟨cs, _, _, 1, rfl, .inr ⟨rfl, ne⟩, by omega⟩⟩
inductive Al {α β : Type} (r : α → β → Prop) : List α → List β → Prop
  | nil : Al r [] []
  | cons {x : α} {y : β} {xs : List α} {ys : List β} : r x y → Al r xs ys → Al r (x :: xs) (y :: ys)
theorem Al.len {α β : Type} {r : α → β → Prop} {xs : List α} {ys : List β} (h : Al r xs ys) : ys.length = xs.length := by induction h with | nil => rfl | cons _ _ ih => rw [List.length_cons, List.length_cons, ih]
theorem Al.snoc {α β : Type} {r : α → β → Prop} {xs : List α} {ys : List β} {x : α} {y : β} (h : Al r xs ys) (q : r x y) : Al r (xs ++ [x]) (ys ++ [y]) := by induction h with | nil => exact .cons q .nil | cons a _ ih => exact .cons a ih
theorem lcQ_of {α : Type} {enc : α → D} {b : D → En → Option En} {g : En → Option (Rz D)} {L : List Nat} (P : En → Prop) (r : α → D → Prop) (h : ∀ x ρ, P ρ → ∃ ρ1 y ρ2, b (enc x) ρ = some ρ1 ∧ g ρ1 = some (.ok y ρ2) ∧ noOwnIn ρ2 L = true ∧ r x y ∧ P (wipeE ρ2 L)) :
    ∀ (xs : List α) (acc : List D) (ρ : En), P ρ → ∃ ys ρ', lcQ b gYes g L (xs.map enc) acc ρ = some (acc ++ ys, ρ') ∧ Al r xs ys ∧ P ρ'
  | [], acc, ρ, p => ⟨[], ρ, by simp [lcQ], .nil, p⟩
  | x :: xs, acc, ρ, p => by
    obtain ⟨ρ1, y, ρ2, e1, e2, e3, e4, p2⟩ := h x ρ p
    obtain ⟨ys, ρ', e5, e6, p3⟩ := lcQ_of P r h xs (acc ++ [y]) _ p2
    refine ⟨y :: ys, ρ', ?_, .cons e4 e6, p3⟩
    rw [List.map_cons, lcQ, e1, Option.bind_some, e_gYes, Option.bind_some, if_pos rfl, e2, Option.bind_some]
    simp only [e3, if_true]
    rw [e5, List.append_assoc]; rfl
/-- the kinds of columns, and what stands in them -/
def kd (b : Bool) : D := if b = true then .str "text" else .str "number"
def Fit (b : Bool) (l : Leaf) : Prop := (b = true ∧ ∃ a : List Nat, l = .text (tx a) ∧ a.length ≤ 2 ∧ okT a) ∨ (b = false ∧ ∃ n, l = .num n ∧ -1 ≤ n ∧ n ≤ 1)
theorem state_eq (ns : List Int) : ∃ ss, φ__law_state [scrD (ns.map .int)] = some ss ∧ Sta ss := by
  have hd : ∀ x, dFdiv (.int x) (.int 2) = some (.int (x / 2)) := fun x => e_fdiv_p (by omega) (by omega)
  cases ns with
  | nil =>
    unfold φ__law_state R__law_state
    walk_at "ev"
    exact ⟨_, rfl, ⟨[], 0, 1, 0, rfl, .inl rfl, by omega⟩⟩
  | cons n ns =>
    have h2 : n % 2 = 0 ∨ n % 2 = 1 := by omega
    have a0 : ∀ z : Int, atI [PyData.int z, PyData.int 1] 0 = some (.int z) := fun z => rfl
    have a1 : ∀ z : Int, atI [PyData.int z, PyData.int 1] 1 = some (.int 1) := fun z => rfl
    have a2 : atI (PyData.int n :: ns.map PyData.int) 0 = some (.int n) := atI_map (g := PyData.int) (xs := n :: ns) (k := 0) (Nat.succ_pos _)
    have ht : decide ((0 : Int) < ((ns.length + 1 : Nat) : Int)) = true := decide_eq_true (by omega)
    unfold φ__law_state R__law_state
    rcases h2 with e | e
    · walk_at "evh"
      exact ⟨_, rfl, ⟨n :: ns, _, 1, 0, rfl, .inl rfl, by omega⟩⟩
    · walk_at "evh"
      exact ⟨_, rfl, ⟨n :: ns, _, 1, 1, rfl, .inr ⟨rfl, by simp⟩, by omega⟩⟩
theorem datum_ok {ss : List D} (h : Sta ss) (b : Bool) : ∃ l ss', φ__law_datum ss [kd b] = some (.ok (leafV l), ss') ∧ Fit b l ∧ Sta ss' := by
  cases b with
  | true =>
    obtain ⟨v, ss', e, h0, h1, st⟩ := take_ok h 4 (by omega) (by omega)
    unfold φ__law_datum R__law_datum kd
    walk_at "st"
    walk_at "evh"
    obtain ⟨a, hx, sz, ok⟩ : ∃ a : List Nat, atI [PyData.str (tx []), PyData.str (tx [97]), PyData.str (tx [98]), PyData.str (tx [97, 98])] v = some (.str (tx a)) ∧ a.length ≤ 2 ∧ okT a := by
      have : v = 0 ∨ v = 1 ∨ v = 2 ∨ v = 3 := by omega
      rcases this with rfl | rfl | rfl | rfl
      · exact ⟨_, rfl, by decide, by decide⟩
      · exact ⟨_, rfl, by decide, by decide⟩
      · exact ⟨_, rfl, by decide, by decide⟩
      · exact ⟨_, rfl, by decide, by decide⟩
    rw [hx]
    walk_at "evh"
    exact ⟨.text (tx a), ss', rfl, .inl ⟨rfl, a, rfl, sz, ok⟩, st⟩
  | false =>
    obtain ⟨v, ss', e, h0, h1, st⟩ := take_ok h 3 (by omega) (by omega)
    unfold φ__law_datum R__law_datum kd
    walk_at "st"
    walk_at "evh"
    exact ⟨.num (v - 1), ss', rfl, .inr ⟨rfl, _, rfl, by omega, by omega⟩, st⟩
def RowFit (bs : List Bool) (k : List Leaf) : Prop := Al Fit bs k
theorem row_draw {ss : List D} (h : Sta ss) (bs : List Bool) (a b c d : Sl) (hb : bs.length ≤ 1000) : ∃ (k : List Leaf) (s2 : List D),
    lq1 (bName 5) gYes (gCallS 0 1 φ__law_datum (up (aCons (vVar 5) aNil))) [5] (bs.map kd) [.own ss, a, b, c, d, .un] = some (.ok (k.map leafV) [.own s2, a, b, c, d, .un]) ∧ RowFit bs k ∧ Sta s2 := by
  obtain ⟨ys, ρ', e1, e2, s2, st, rfl⟩ := lcQ_of (enc := kd) (b := bName 5) (g := gCallS 0 1 φ__law_datum (up (aCons (vVar 5) aNil))) (L := [5]) (fun ρ => ∃ s, Sta s ∧ ρ = [.own s, a, b, c, d, .un]) (fun x y => ∃ l, y = leafV l ∧ Fit x l) (fun x ρ ⟨s, st, e⟩ => by
    subst e
    obtain ⟨l, s2, e, f, st2⟩ := datum_ok st x
    refine ⟨_, leafV l, [.own s2, a, b, c, d, .val (kd x)], rfl, ?_, rfl, ⟨l, rfl, f⟩, s2, st2, rfl⟩
    walk_at "ev"
    rw [e]; rfl) bs [] [.own ss, a, b, c, d, .un] ⟨ss, h, rfl⟩
  have key : ∀ {xs : List Bool} {ys : List D}, Al (fun x y => ∃ l, y = leafV l ∧ Fit x l) xs ys → ∃ k : List Leaf, ys = k.map leafV ∧ Al Fit xs k := fun h => by
    induction h with
    | nil => exact ⟨[], rfl, .nil⟩
    | cons q _ ih =>
      obtain ⟨l, rfl, f⟩ := q
      obtain ⟨k, rfl, g⟩ := ih
      exact ⟨l :: k, rfl, .cons f g⟩
  obtain ⟨k, rfl, fit⟩ := key e2
  refine ⟨k, s2, ?_, fit, st⟩
  unfold lq1
  rw [if_pos (show noOwnIn [.own ss, a, b, c, d, .un] [5] = true from rfl)]
  show Option.bind (lcQ _ _ _ _ _ [] [.own ss, a, b, c, d, .un]) _ = _
  rw [e1]
  have := fit.len
  exact if_pos (by simp only [List.nil_append, List.length_map]; rw [this]; exact Nat.le_of_lt (small_lt (by omega)))
theorem fit_key : ∀ {bs : List Bool} {k : List Leaf} {sh : Nat → Bool} {i : Nat}, RowFit bs k → (∀ j, j < bs.length → sh (i + j) = bs.getD j false) → ∃ l, itKey sh i (k.map leafV) = some l
  | _, _, sh, i, .nil, _ => ⟨[], rfl⟩
  | _, _, sh, i, .cons (x := b) (xs := bs) f r, h => by
    obtain ⟨l, hl⟩ := fit_key (sh := sh) (i := i + 1) r fun j hj => by
      have := h (j + 1) (by simp only [List.length_cons]; omega)
      rw [show i + 1 + j = i + (j + 1) by omega, this]; rfl
    have h0 : sh i = b := by simpa using h 0 (by simp)
    rcases f with ⟨rfl, a, rfl, _⟩ | ⟨rfl, n, rfl, _⟩
    · exact ⟨_, by rw [List.map_cons, leafV, itKey, if_pos h0, hl]; rfl⟩
    · exact ⟨_, by rw [List.map_cons, leafV, itKey, if_neg (by rw [h0]; decide), hl]; rfl⟩
theorem fit_shape : ∀ {bs : List Bool} {k : List Leaf}, RowFit bs k → ∀ j, j < bs.length → (match (k.map leafV)[j]? with | some (.str _) => true | _ => false) = bs.getD j false
  | _, _, .cons f r, 0, _ => by
    rcases f with ⟨rfl, a, rfl, _⟩ | ⟨rfl, n, rfl, _⟩ <;> rfl
  | _, _, .cons f r, j + 1, h => by
    have := fit_shape r j (by simp only [List.length_cons] at h; omega)
    simpa using this
theorem fit_dkey {bs : List Bool} (hb : bs ≠ []) {k k0 : List Leaf} (h0 : RowFit bs k0) (h : RowFit bs k) : (dKey (shOf (rowD k0)) (rowD k)).isSome = true := by
  obtain ⟨l, hl⟩ := fit_key (sh := shOf (rowD k0)) (i := 0) h fun j hj => by
    rw [Nat.zero_add]
    exact fit_shape h0 j hj
  cases h with
  | nil => exact absurd rfl hb
  | cons f r =>
    show (itKey _ 0 (_ :: _)).isSome = true
    exact Option.isSome_iff_exists.mpr ⟨l, hl⟩
theorem leafs_row {k : List Leaf} {bs : List Bool} (h : RowFit bs k) : leafsD (rowD k) = some k := by
  induction h with
  | nil => rfl
  | cons f r ih =>
    rename_i x y xs ys
    have ih : allOf leafD (ys.map leafV) = some ys := ih
    show allOf leafD (leafV y :: ys.map leafV) = _
    rw [allOf, ih]
    rcases f with ⟨rfl, a, rfl, _⟩ | ⟨rfl, n, rfl, _⟩ <;> rfl
theorem sortAny_rows {bs : List Bool} (hb : bs ≠ []) (ks : List (List Leaf)) (h : ∀ k ∈ ks, RowFit bs k) (few : ks.length < 64) : ∃ rs : List (List Leaf), dSortAny (.view (ks.map rowD)) = some (.new (rs.map rowD)) ∧ rs.length ≤ ks.length ∧ ∀ k ∈ rs, RowFit bs k := by
  cases ks with
  | nil =>
    have n0 : sortU [] = [] := List.eq_nil_of_length_eq_zero (Nat.le_zero.mp (sortU_len []))
    have e : dSortSet (.view []) = some (.new []) := by
      show (if ([] : List Int).length < 4000 then some (Rs.new ((sortU []).map PyData.int)) else none) = _
      rw [n0]; rfl
    refine ⟨[], ?_, Nat.le_refl _, by simp⟩
    show dSortAny (.view []) = some (.new [])
    unfold dSortAny
    rw [e]
  | cons k0 ks =>
    have e1 : allOf leafsD ((k0 :: ks).map rowD) = some (k0 :: ks) := by
      have : ∀ l : List (List Leaf), (∀ k ∈ l, RowFit bs k) → allOf leafsD (l.map rowD) = some l := fun l => by
        induction l with
        | nil => exact fun _ => rfl
        | cons k l ih =>
          intro h
          rw [List.map_cons, allOf, leafs_row (h k (by simp)), ih fun q hq => h q (List.mem_cons_of_mem _ hq)]; rfl
      exact this _ h
    have e2 : dSortSet (.view ((k0 :: ks).map rowD)) = none := rfl
    have e3 : dSortAny (.view ((k0 :: ks).map rowD)) = some (.new (sortRows ((k0 :: ks).map rowD) (k0 :: ks))) := by
      unfold dSortAny
      rw [e2]
      show (allOf leafsD ((k0 :: ks).map rowD)).bind _ = _
      rw [e1]
      exact if_pos ⟨few, List.all_eq_true.mpr fun k hk => fit_dkey hb (h k0 (by simp)) (h k hk)⟩
    obtain ⟨rs, p1, p2⟩ := perm_map_back (sortT_perm (shK ((k0 :: ks).map rowD)) ((uq (k0 :: ks)).map rowD)) (uq (k0 :: ks)) rfl
    refine ⟨rs, by rw [e3, ← p2]; rfl, ?_, fun k hk => h k (mem_uq.mp (p1.mem_iff.mp hk))⟩
    rw [p1.length_eq]
    exact uq_len _
theorem drawn_ok {ss : List D} (h : Sta ss) (bs : List Bool) (hb : bs ≠ []) (hb2 : bs.length ≤ 1000) : ∃ (rs : List (List Leaf)) (ss' : List D), φ__law_drawn_rows ss [.list (bs.map kd), .int 5] = some (.ok (.list (rs.map rowD)), ss') ∧ Sta ss' ∧ rs.length ≤ 5 ∧ ∀ k ∈ rs, RowFit bs k := by
  obtain ⟨v, s1, e, h0, h1, st⟩ := take_ok h 6 (by omega) (by omega)
  obtain ⟨n, rfl⟩ := Int.eq_ofNat_of_zero_le h0
  unfold φ__law_drawn_rows R__law_drawn_rows
  walk_at "evh"
  generalize hF : forQ _ _ _ _ = F
  obtain ⟨ρ', rfl, s2, rs, x4, st2, hl, hf, rfl⟩ := forQ_of hF (fun pre ρ => ∃ (s : List D) (rs : List (List Leaf)) (x : Sl), Sta s ∧ rs.length = pre.length ∧ (∀ k ∈ rs, RowFit bs k) ∧ ρ = [.own s, .val (.list (bs.map kd)), .val (.int 5), .own (rs.map rowD), x, .un])
    ⟨s1, [], .un, st, rfl, by simp, rfl⟩ (fun pre x post hs ρ ⟨s, rs, x4, st, hl, hf, e⟩ => by
      subst e
      obtain ⟨k, s2, e1, fit, st2⟩ := row_draw st bs (.val (.list (bs.map kd))) (.val (.int 5)) (.own (rs.map rowD)) (.val (.int x)) hb2
      have lr : (rs.map rowD).length < 100000 := by
        have h1 := congrArg List.length hs
        simp only [List.length_range, List.length_append, List.length_cons] at h1
        rw [List.length_map]; omega
      have tp : d1of dTuple [.list (k.map leafV)] = some (rowD k) := rfl
      refine ⟨_, .inl ?_, s2, rs ++ [k], .val (.int x), st2, by simp [hl], fun q hq => ?_, rfl⟩
      · walk_at "ev"
        rw [e1]
        walk_at "ev"
        rw [tp]
        walk_at "ev"
      · rcases List.mem_append.mp hq with h | h
        · exact hf q h
        · rw [List.mem_singleton.mp h]; exact fit)
  simp only [List.length_range] at hl
  obtain ⟨rs2, e2, l2, f2⟩ := sortAny_rows hb rs hf (by omega)
  walk_at "ev"
  rw [e2]
  walk_at "ev"
  exact ⟨rs2, s2, rfl, st2, by omega, f2⟩
theorem window_ok {ss : List D} (h : Sta ss) : ∃ (r : Rect) (ss' : List D), φ__law_window ss [] = some (.ok (rectD r), ss') ∧ Sta ss' ∧ 0 ≤ r.1 ∧ r.2.1 ≤ 12 ∧ 0 ≤ r.2.2.1 ∧ r.2.2.2 ≤ 12 := by
  obtain ⟨a, s1, e1, a0, a1, t1⟩ := take_ok h 6 (by omega) (by omega)
  obtain ⟨j, s2, e2, b0, b1, t2⟩ := take_ok t1 4 (by omega) (by omega)
  obtain ⟨x, s3, e3, c0, c1, t3⟩ := take_ok t2 4 (by omega) (by omega)
  obtain ⟨y, s4, e4, d0, d1, t4⟩ := take_ok t3 3 (by omega) (by omega)
  unfold φ__law_window R__law_window
  walk_at "evh"
  exact ⟨(a, a + 1 + x, j, j + 1 + y), s4, rfl, t4, a0, by show a + 1 + x ≤ 12; omega, b0, by show j + 1 + y ≤ 12; omega⟩
/-- what stands in a relation -/
structure Ent where
  k : List Leaf
  rs : List Rect
def Ent.ok (bs : List Bool) (e : Ent) : Prop := RowFit bs e.k ∧ e.rs.length ≤ 2 ∧ ∀ r ∈ e.rs, 0 ≤ r.1 ∧ r.2.1 ≤ 12 ∧ 0 ≤ r.2.2.1 ∧ r.2.2.2 ≤ 12
def entD (e : Ent) : D := .tuple [rowD e.k, .list ((lawR e.rs).map stripD)]
theorem relation_ok {ss : List D} (h : Sta ss) (bs : List Bool) (hb : bs ≠ []) (hb2 : bs.length ≤ 1000) : ∃ (es : List Ent) (ss' : List D), φ__law_relation ss [.list (bs.map kd), .int 5] = some (.ok (.list (es.map entD)), ss') ∧ Sta ss' ∧ es.length ≤ 5 ∧ ∀ e ∈ es, e.ok bs := by
  obtain ⟨rows, s1, e1, t1, l1, f1⟩ := drawn_ok h bs hb hb2
  unfold φ__law_relation R__law_relation
  walk_at "evh"
  generalize hF : forQ _ _ _ _ = F
  obtain ⟨ρ', rfl, s2, es, x4, x5, st2, hl, hf, rfl⟩ := forQ_of hF (fun pre ρ => ∃ (s : List D) (es : List Ent) (x y : Sl), Sta s ∧ es.length = pre.length ∧ (∀ e ∈ es, e.ok bs) ∧ ρ = [.own s, .val (.list (bs.map kd)), .val (.int 5), .own (es.map entD), x, y])
    ⟨s1, [], .un, .un, t1, rfl, by simp, rfl⟩ (fun pre k post hs ρ ⟨s, es, x4, x5, st, hl, hf, e⟩ => by
      subst e
      have hk : RowFit bs k := f1 k (by rw [hs]; simp)
      have lr : (es.map entD).length < 100000 := by
        have h1 := congrArg List.length hs
        simp only [List.length_append, List.length_cons] at h1
        rw [List.length_map]; omega
      obtain ⟨r1, s2, e2, t2, g1⟩ := window_ok st
      obtain ⟨v, s3, e3, _, _, t3⟩ := take_ok t2 3 (by omega) (by omega)
      by_cases hv : v = 1
      · obtain ⟨r2, s4, e4, t4, g3⟩ := window_ok t3
        have e5 := lregion_eq [r1, r2] (by simp)
        simp only [List.map_cons, List.map_nil, Pu.e_rectD] at e5
        subst hv
        refine ⟨[.own s4, .val (.list (bs.map kd)), .val (.int 5), .own ((es ++ [Ent.mk k [r1, r2]]).map entD), .val (rowD k), .val (.list [rectD r1, rectD r2])], .inl ?_, s4, es ++ [⟨k, [r1, r2]⟩], _, _, t4, by simp [hl], fun q hq => ?_, rfl⟩
        · walk_at "evh"
          rfl
        · rcases List.mem_append.mp hq with h | h
          · exact hf q h
          · rw [List.mem_singleton.mp h]
            refine ⟨hk, Nat.le_refl _, fun r hr => ?_⟩
            simp only [List.mem_cons, List.not_mem_nil, or_false] at hr
            rcases hr with rfl | rfl
            · exact g1
            · exact g3
      · have e5 := lregion_eq [r1] (by simp)
        simp only [List.map_cons, List.map_nil, Pu.e_rectD] at e5
        refine ⟨[.own s3, .val (.list (bs.map kd)), .val (.int 5), .own ((es ++ [Ent.mk k [r1]]).map entD), .val (rowD k), .val (.list [rectD r1])], .inl ?_, s3, es ++ [⟨k, [r1]⟩], _, _, t3, by simp [hl], fun q hq => ?_, rfl⟩
        · walk_at "evh"
          rfl
        · rcases List.mem_append.mp hq with h | h
          · exact hf q h
          · rw [List.mem_singleton.mp h]
            refine ⟨hk, by show 1 ≤ 2; omega, fun r hr => ?_⟩
            rw [List.mem_singleton.mp hr]
            exact g1)
  walk_at "ev"
  exact ⟨es, s2, rfl, st2, by omega, hf⟩
theorem stands_eq (R : List Strip) (hR : ∀ s ∈ R, s.2.2.length < 50000) (m k : Int) : φ__law_stands [.list (R.map stripD), .int m, .int k] = some (.bool (memB (atR k R) m)) := by
  have key : ∀ (S : List Strip) (a x : Sl), (∀ s ∈ S, s.2.2.length < 50000) →
      forL (bName 3) (rIf (tAnd2 (tB (b2 dLe (gIx (rVar 3) (vC (.int 0))) (vVar 2))) (tB (b2 dLt (vVar 2) (gIx (rVar 3) (vC (.int 1)))))) (rRet (gv (gR1 dAny (gLc (gItems2 (gIx (rVar 3) (vC (.int 2)))) (bName 4) gYes (gAnd (b2 dLe (gIx (rVar 4) (vC (.int 0))) (vVar 1)) (b2 dLt (vVar 1) (gIx (rVar 4) (vC (.int 1))))) [4])))) rNext) (S.map stripD) [a, .val (.int m), .val (.int k), x, .un] = some (.rt (.bool (memB (atR k S) m))) ∨
      ∃ y, forL (bName 3) (rIf (tAnd2 (tB (b2 dLe (gIx (rVar 3) (vC (.int 0))) (vVar 2))) (tB (b2 dLt (vVar 2) (gIx (rVar 3) (vC (.int 1)))))) (rRet (gv (gR1 dAny (gLc (gItems2 (gIx (rVar 3) (vC (.int 2)))) (bName 4) gYes (gAnd (b2 dLe (gIx (rVar 4) (vC (.int 0))) (vVar 1)) (b2 dLt (vVar 1) (gIx (rVar 4) (vC (.int 1))))) [4])))) rNext) (S.map stripD) [a, .val (.int m), .val (.int k), x, .un] = some (.nx [a, .val (.int m), .val (.int k), y, .un]) ∧ atR k S = [] := by
    intro S
    induction S with
    | nil => exact fun a x _ => .inr ⟨x, rfl, rfl⟩
    | cons s S ih =>
      intro a x h
      have hs := h s (by simp)
      have ih := fun x => ih a x fun t ht => h t (List.mem_cons_of_mem _ ht)
      rw [List.map_cons, forL_cons]
      by_cases c : s.1 ≤ k ∧ k < s.2.1
      · left
        have e : atR k (s :: S) = s.2.2 := by unfold atR; rw [if_pos c]
        rw [e]
        obtain ⟨c1, c2⟩ := c
        clear ih h e
        walk_at "evh"
        generalize hC : lc1 _ _ _ _ _ _ = C
        obtain rfl := lcM_of hC (fun p : PP => .bool (decide (p.1 ≤ m) && decide (m < p.2))) (by omega) (by
          clear hC C
          intro p hp
          walk_at "ev")
        walk_at "evh"
        rfl
      · have e : atR k (s :: S) = atR k S := by
          conv => lhs; unfold atR
          rw [if_neg c]
        rw [e]
        clear h e
        by_cases c1 : s.1 ≤ k
        · have c2 : ¬ k < s.2.1 := fun z => c ⟨c1, z⟩
          walk_at "ev"
          exact ih _
        · walk_at "ev"
          exact ih _
  unfold φ__law_stands R__law_stands
  walk_at "ev"
  rcases key R (.val (.list (R.map stripD))) .un hR with e | ⟨y, e, z⟩
  · rw [e]
    walk_at "ev"
  · rw [e, z]
    walk_at "ev"
    rfl
/-- spans of the moments walked so far -/
structure Runs (pre : List Int) (o : List PP) : Prop where
  nf : NF o
  mem : ∀ n, Mem n o ↔ n ∈ pre
  ends : ∀ m, (∀ x ∈ pre, x < m) → ∀ q ∈ o, q.2 ≤ m
  len : o.length ≤ pre.length
theorem Runs.nil : Runs [] [] := ⟨⟨by simp, by simp⟩, fun n => ⟨fun h => (Mem.nil n h).elim, fun h => by cases h⟩, by simp, Nat.le_refl _⟩
theorem Runs.on {pre : List Int} {o : List PP} {l : PP} (h : Runs pre (o ++ [l])) : Runs (pre ++ [l.2]) (o ++ [(l.1, l.2 + 1)]) := by
  obtain ⟨n1, n2, n3⟩ := h.nf.snoc
  refine ⟨NF.mk_snoc n1 (by show l.1 < l.2 + 1; omega) n3, fun n => ?_, fun m hm q hq => ?_, ?_⟩
  · have := h.mem n
    rw [mem_app, mem_one] at this
    rw [mem_app, mem_one, List.mem_append, List.mem_singleton, ← this]
    constructor
    · rintro (a | ⟨a, b⟩)
      · exact .inl (.inl a)
      · by_cases c : n = l.2
        · exact .inr c
        · exact .inl (.inr ⟨a, by have b : n < l.2 + 1 := b; omega⟩)
    · rintro ((a | ⟨a, b⟩) | c)
      · exact .inl a
      · exact .inr ⟨a, by show n < l.2 + 1; omega⟩
      · exact .inr ⟨by show l.1 ≤ n; omega, by show n < l.2 + 1; omega⟩
  · rcases List.mem_append.mp hq with hq | hq
    · exact h.ends m (fun x hx => hm x (by simp [hx])) q (by simp [hq])
    · rw [List.mem_singleton.mp hq]
      have := hm l.2 (by simp)
      show l.2 + 1 ≤ m
      omega
  · have := h.len
    simp only [List.length_append, List.length_cons, List.length_nil] at this ⊢
    omega
theorem Runs.new {pre : List Int} {o : List PP} {m : Int} (h : Runs pre o) (hm : ∀ x ∈ pre, x < m) (ne : ∀ o' l, o = o' ++ [l] → l.2 ≠ m) : Runs (pre ++ [m]) (o ++ [(m, m + 1)]) := by
  have lt : ∀ q ∈ o, q.2 < m := by
    rcases List.eq_nil_or_concat o with rfl | ⟨o', l, rfl⟩
    · intro q hq; cases hq
    · rw [List.concat_eq_append] at *
      obtain ⟨n1, n2, n3⟩ := h.nf.snoc
      have h1 := h.ends m hm l (by simp)
      have h2 := ne o' l rfl
      intro q hq
      rcases List.mem_append.mp hq with hq | hq
      · have := n3 q hq
        omega
      · rw [List.mem_singleton.mp hq]; omega
  refine ⟨NF.mk_snoc h.nf (by show m < m + 1; omega) lt, fun n => ?_, fun k hk q hq => ?_, by have := h.len; simp only [List.length_append, List.length_cons, List.length_nil]; omega⟩
  · rw [mem_app, mem_one, List.mem_append, List.mem_singleton, h.mem n]
    constructor
    · rintro (a | ⟨a, b⟩)
      · exact .inl a
      · exact .inr (by have a : m ≤ n := a; have b : n < m + 1 := b; omega)
    · rintro (a | a)
      · exact .inl a
      · exact .inr ⟨by show m ≤ n; omega, by show n < m + 1; omega⟩
  · rcases List.mem_append.mp hq with hq | hq
    · have := lt q hq
      have := hk m (by simp)
      omega
    · rw [List.mem_singleton.mp hq]
      have := hk m (by simp)
      show m + 1 ≤ k
      omega
theorem spans_eq (ms : List Int) (asc : ms.Pairwise (· < ·)) (hl : ms.length ≤ 5000) : ∃ o : List PP, φ__law_spans [.list (ms.map .int)] = some (.list (o.map pairD)) ∧ NF o ∧ ∀ n, Mem n o ↔ n ∈ ms := by
  unfold φ__law_spans R__law_spans
  walk_at "ev"
  generalize hF : forL _ _ _ _ = F
  obtain ⟨ρ', rfl, o, u, rfl, ro⟩ := for_of hF (fun pre ρ => ∃ (o : List PP) (u : Sl), ρ = [.val (.list (ms.map .int)), .own (o.map pairD), u] ∧ Runs pre o) ⟨[], .un, rfl, .nil⟩ (by
    clear hF F
    rintro pre m post e ρ ⟨o, u, rfl, ro⟩
    have hp : pre.length ≤ 5000 := by rw [e] at hl; simp only [List.length_append] at hl; omega
    have ho := ro.len
    have lt : ∀ x ∈ pre, x < m := fun x hx => by
      rw [e] at asc
      exact (List.pairwise_append.mp asc).2.2 x hx m (by simp)
    rcases List.eq_nil_or_concat o with rfl | ⟨o, l, rfl⟩
    · have := ro.new lt (fun o' l e => by simp at e)
      refine ⟨[.val (.list (ms.map .int)), .own (([] ++ [(m, m + 1)]).map pairD), .val (.int m)], .inl ?_, _, _, rfl, this⟩
      clear asc lt ro this
      walk_at "evh"
    · rw [List.concat_eq_append] at *
      simp only [List.length_append, List.length_cons, List.length_nil] at ho
      by_cases hj : l.2 = m
      · have := ro.on
        rw [hj] at this
        refine ⟨[.val (.list (ms.map .int)), .own ((o ++ [(l.1, m + 1)]).map pairD), .val (.int m)], .inl ?_, _, _, rfl, this⟩
        clear asc lt ro this
        walk_at "evh"
      · have := ro.new lt (fun o' l' e => by
          have := (List.append_inj' e rfl).2
          injection this with this
          rw [← this]; exact hj)
        refine ⟨[.val (.list (ms.map .int)), .own ((o ++ [l] ++ [(m, m + 1)]).map pairD), .val (.int m)], .inl ?_, _, _, rfl, this⟩
        clear asc lt ro this
        walk_at "evh")
  walk_at "ev"
  exact ⟨o, rfl, ro.nf, ro.mem⟩
theorem dueP_len (W : Bool → Bool → Bool) (f s : List PP) : (dueP W f s).length ≤ 2 * (f.length + s.length) := by
  unfold dueP
  rw [List.length_map]
  refine Nat.le_trans (List.length_filter_le _ _) ?_
  rw [List.length_range]
  have : (bnds f s).length ≤ 2 * (f.length + s.length) := Nat.le_trans (sortU_len _) (by simp only [List.length_append, List.length_map]; omega)
  omega
theorem spansN_len (ps : List PP) : (spansN ps).length ≤ ps.length := by
  rw [spansN_filter]
  exact Nat.le_trans (foldJ_len _) (Nat.le_trans (Nat.le_of_eq (sortP_perm _).length_eq) (List.length_filter_le _ _))
theorem known_eq (R : List Strip) (hR : NFR R) (lR : R.length < 50000) (k : Int) : φ_at_known [.list (R.map stripD), .int k] = some (.list ((atR k R).map pairD)) := by
  have a := sat_eq R hR lR k
  unfold φ_at_known R_at_known
  clear hR
  walk_at "evh"
def cutA (e : Ent) (k : Int) : List PP := atR k (lawR e.rs)
theorem cutA_nf (e : Ent) (k : Int) : NF (cutA e k) := NF_atR (lawR_ok e.rs).1 k
theorem cutA_len {e : Ent} (h : e.rs.length ≤ 2) (k : Int) : (lawR e.rs).length < 50000 ∧ (∀ s ∈ lawR e.rs, s.2.2.length < 50000) ∧ (cutA e k).length ≤ 500 := by
  obtain ⟨a, b⟩ := lawR_size e.rs 2 h
  refine ⟨by omega, fun s hs => by have := b s hs; omega, ?_⟩
  unfold cutA
  by_cases z : atR k (lawR e.rs) = []
  · rw [z]; simp
  · obtain ⟨s, hs, _, _, q⟩ := atR_mem z
    rw [q]
    have := b s hs
    omega
/-- what stands at k and not at j -/
def cw (e : Ent) (j k : Int) : List PP := spansN (dueP (Ws 2) (cutA e k) (cutA e j))
theorem cw_ok (e : Ent) (j k : Int) : NF (cw e j k) ∧ ∀ n, Mem n (cw e j k) ↔ Mem n (cutA e k) ∧ ¬ Mem n (cutA e j) := by
  obtain ⟨a, b⟩ := spansN_ok (dueP (Ws 2) (cutA e k) (cutA e j))
  refine ⟨a, fun n => ?_⟩
  unfold cw
  rw [b, due_ok rfl, ← memB_iff, ← memB_iff]
  show (memB (cutA e k) n && !memB (cutA e j) n) = true ↔ _
  cases memB (cutA e k) n <;> cases memB (cutA e j) n <;> decide
def came : Str := tx [99, 97, 109, 101]
def went : Str := tx [119, 101, 110, 116]
def entry (e : Ent) (w : Str) (s : List PP) : List D := if s = [] then [] else [.tuple [rowD e.k, .str w, .list (s.map pairD)]]
def outE (j k : Int) (e : Ent) : List D := entry e came (cw e j k) ++ entry e went (cw e k j)
theorem outE_len (j k : Int) (e : Ent) : (outE j k e).length ≤ 2 := by
  unfold outE entry
  rw [List.length_append]
  split <;> split <;> simp
theorem outs_len (j k : Int) : ∀ es : List Ent, (es.flatMap (outE j k)).length ≤ 2 * es.length
  | [] => Nat.le_refl _
  | e :: es => by
    have := outE_len j k e
    have := outs_len j k es
    simp only [List.flatMap_cons, List.length_append, List.length_cons]
    omega
theorem corr_eq (es : List Ent) (bs : List Bool) (he : ∀ e ∈ es, e.ok bs) (hl : es.length ≤ 5) (j k : Int) : φ_corrections [.list (es.map entD), .int j, .int k] = some (.list (es.flatMap (outE j k))) := by
  unfold φ_corrections R_corrections
  walk_at "st"
  walk_at "ev"
  generalize hF : forL _ _ _ _ = F
  obtain ⟨ρ', rfl, x4, x5, x6, x7, x8, x9, rfl⟩ := for_of hF (fun pre ρ => ∃ (x4 x5 x6 x7 x8 x9 : Sl), ρ = [.val (.list (es.map entD)), .val (.int j), .val (.int k), .own (pre.flatMap (outE j k)), x4, x5, x6, x7, x8, x9]) ⟨.un, .un, .un, .un, .un, .un, rfl⟩ (by
    clear hF F
    rintro pre e post eq ρ ⟨x4, x5, x6, x7, x8, x9, rfl⟩
    obtain ⟨_, l2, _⟩ := he e (by rw [eq]; simp)
    have hp := outs_len j k pre
    have hp2 : pre.length ≤ 5 := by rw [eq] at hl; simp only [List.length_append] at hl; omega
    obtain ⟨n1, n2, n3⟩ := cutA_len l2 j
    obtain ⟨_, _, n4⟩ := cutA_len l2 k
    have k1 := known_eq (lawR e.rs) (lawR_ok e.rs).1 n1 j
    have k2 := known_eq (lawR e.rs) (lawR_ok e.rs).1 n1 k
    have m1 := minus_eq (cutA e k) (cutA e j) (cutA_nf e k) (cutA_nf e j) n4 n3
    have m2 := minus_eq (cutA e j) (cutA e k) (cutA_nf e j) (cutA_nf e k) n3 n4
    change _ = some (PyData.list ((cutA e j).map pairD)) at k1
    change _ = some (PyData.list ((cutA e k).map pairD)) at k2
    change _ = some (PyData.list ((cw e j k).map pairD)) at m1
    change _ = some (PyData.list ((cw e k j).map pairD)) at m2
    have oe : (pre ++ [e]).flatMap (outE j k) = pre.flatMap (outE j k) ++ (entry e came (cw e j k) ++ entry e went (cw e k j)) := by simp [outE]
    refine ⟨[.val (.list (es.map entD)), .val (.int j), .val (.int k), .own ((pre ++ [e]).flatMap (outE j k)), .val (rowD e.k), .val (.list ((lawR e.rs).map stripD)), .val (.list ((cutA e j).map pairD)), .val (.list ((cutA e k).map pairD)), .val (.str went), .val (.list ((cw e k j).map pairD))], .inl ?_, _, _, _, _, _, _, rfl⟩
    rw [oe, show entD e = .tuple [rowD e.k, .list ((lawR e.rs).map stripD)] from rfl]
    unfold entry
    generalize cw e j k = c1 at *
    generalize cw e k j = c2 at *
    generalize cutA e j = a1 at *
    generalize cutA e k = a2 at *
    generalize pre.flatMap (outE j k) = o at *
    clear he l2 n2 oe eq
    unfold came went
    have ie : ∀ c : List PP, c ≠ [] → (c.map pairD).isEmpty = false := fun c h => by
      rw [isEmpty_map]
      cases c with
      | nil => exact absurd rfl h
      | cons _ _ => rfl
    by_cases z1 : c1 = []
    · subst z1
      by_cases z2 : c2 = []
      · subst z2
        rw [if_pos rfl, if_pos rfl, List.append_nil, List.append_nil]
        clear ie
        walk_at "evh"
      · have i2 := ie c2 z2
        rw [if_pos rfl, if_neg z2, List.nil_append]
        clear ie z2
        walk_at "evh"
    · have i1 := ie c1 z1
      by_cases z2 : c2 = []
      · subst z2
        rw [if_neg z1, if_pos rfl, List.append_nil]
        clear ie z1
        walk_at "evh"
      · have i2 := ie c2 z2
        rw [if_neg z1, if_neg z2, ← List.append_assoc]
        clear ie z1 z2
        walk_at "evh")
  walk_at "ev"
structure Sh (n c : Nat) (d : D) : Prop where
  ok : rok d = true
  dp : d.depth ≤ n
  wt : wtR d ≤ c
theorem Sh.mono {n c m b : Nat} {d : D} (h : Sh n c d) (h1 : n ≤ m) (h2 : c ≤ b) : Sh m b d := ⟨h.ok, Nat.le_trans h.dp h1, Nat.le_trans h.wt h2⟩
theorem Sh.int {i : Int} (h0 : -1000000 ≤ i) (h1 : i ≤ 1000000) : Sh 1 600 (.int i) := ⟨rok_int (by omega) (by omega), by rw [PyData.depth]; omega, by rw [wtR]; omega⟩
theorem Sh.txt {a : List Nat} (h : okT a) (hl : a.length ≤ 50) : Sh 1 600 (.str (tx a)) := ⟨rok_tx h, by rw [PyData.depth]; omega, by rw [wt_tx]; omega⟩
theorem Sh.list {n c : Nat} {xs : List D} (h : ∀ d ∈ xs, Sh n c d) (l : Nat) (hl : xs.length ≤ l) : Sh (n + 1) (l * (c + 2) + 3) (.list xs) :=
  ⟨by rw [rok]; exact roks_of fun d hd => (h d hd).ok, by rw [PyData.depth]; have := depths_of fun d hd => (h d hd).dp; omega, by
    rw [wtR]
    have a := wtRs_of fun d hd => (h d hd).wt
    have b := Nat.mul_le_mul_right (c + 2) hl
    omega⟩
theorem Sh.tuple {n c : Nat} {xs : List D} (h : ∀ d ∈ xs, Sh n c d) (l : Nat) (hl : xs.length ≤ l) : Sh (n + 1) (l * (c + 2) + 3) (.tuple xs) :=
  ⟨by rw [rok]; exact roks_of fun d hd => (h d hd).ok, by rw [PyData.depth]; have := depths_of fun d hd => (h d hd).dp; omega, by
    rw [wtR]
    have a := wtRs_of fun d hd => (h d hd).wt
    have b := Nat.mul_le_mul_right (c + 2) hl
    omega⟩
theorem Sh.repr {n c : Nat} {r : Rs} {d : D} (h : Sh n c d) (e : asD r = some d) (hs : isSeq d = true) (hn : n ≤ 150) (hc : c ≤ 16000000) : dRepr r = some (.val (.str d.shown)) :=
  dRepr_ok e hs h.ok (Nat.le_trans h.dp hn) (Nat.le_trans h.wt hc)
theorem bnd {s : List PP} (h : NF s) {lo hi : Int} (hm : ∀ n, Mem n s → lo ≤ n ∧ n < hi) : ∀ p ∈ s, lo ≤ p.1 ∧ p.1 ≤ hi ∧ lo ≤ p.2 ∧ p.2 ≤ hi := fun p hp => by
  have h1 := h.ne p hp
  have a := hm p.1 ⟨p, hp, by omega, h1⟩
  have b := hm (p.2 - 1) ⟨p, hp, by omega, by omega⟩
  omega
theorem sh_pairs {s : List PP} (h : ∀ p ∈ s, 0 ≤ p.1 ∧ p.1 ≤ 12 ∧ 0 ≤ p.2 ∧ p.2 ≤ 12) (hl : s.length ≤ 20) : Sh 3 25000 (.list (s.map pairD)) := by
  refine (Sh.list (n := 2) (c := 1207) (fun d hd => ?_) 20 (by rw [List.length_map]; exact hl)).mono (by omega) (by omega)
  obtain ⟨p, hp, rfl⟩ := List.mem_map.mp hd
  have := h p hp
  refine (Sh.tuple (n := 1) (c := 600) (fun d hd => ?_) 2 (by simp)).mono (by omega) (by omega)
  simp only [List.mem_cons, List.not_mem_nil, or_false] at hd
  rcases hd with rfl | rfl
  · exact Sh.int (by omega) (by omega)
  · exact Sh.int (by omega) (by omega)
theorem sh_row {bs : List Bool} {k : List Leaf} (h : RowFit bs k) (hb : bs.length ≤ 2) : Sh 2 25000 (rowD k) := by
  have hl := h.len
  refine (Sh.tuple (n := 1) (c := 600) (fun d hd => ?_) 2 (by rw [List.length_map]; omega)).mono (by omega) (by omega)
  obtain ⟨l, m, rfl⟩ := List.mem_map.mp hd
  have : ∀ {xs : List Bool} {ys : List Leaf}, Al Fit xs ys → ∀ l ∈ ys, ∃ b, Fit b l := fun h => by
    induction h with
    | nil => simp
    | cons f _ ih => exact fun l hl => (List.mem_cons.mp hl).elim (fun e => ⟨_, e ▸ f⟩) (ih l)
  obtain ⟨b, f⟩ := this h l m
  rcases f with ⟨_, a, rfl, h1, h2⟩ | ⟨_, n, rfl, h1, h2⟩
  · exact Sh.txt h2 (by omega)
  · exact Sh.int (by omega) (by omega)
theorem cut_in {bs : List Bool} {e : Ent} (h : e.ok bs) {n k : Int} (m : Mem n (cutA e k)) : 0 ≤ n ∧ n < 12 ∧ 0 ≤ k ∧ k < 12 := by
  obtain ⟨r, hr, a, b, c, d⟩ := holdB_iff.mp (((lawR_ok e.rs).2 n k).mp m)
  have := h.2.2 r hr
  omega
theorem sh_region {bs : List Bool} {e : Ent} (h : e.ok bs) : Sh 5 400000 (.list ((lawR e.rs).map stripD)) := by
  have R := (lawR_ok e.rs).1
  obtain ⟨l1, l2⟩ := lawR_size e.rs 2 h.2.1
  refine (Sh.list (n := 4) (c := 75100) (fun d hd => ?_) 4 (by rw [List.length_map]; omega)).mono (by omega) (by omega)
  obtain ⟨s, hs, rfl⟩ := List.mem_map.mp hd
  obtain ⟨e1, e2, e3⟩ := R.each s hs
  have at1 : cutA e s.1 = s.2.2 := atR_of R.ord hs (Int.le_refl _) e1
  have at2 : cutA e (s.2.1 - 1) = s.2.2 := atR_of R.ord hs (by omega) (by omega)
  have mb : ∀ n, Mem n s.2.2 → 0 ≤ n ∧ n < 12 ∧ 0 ≤ s.1 ∧ s.2.1 - 1 < 12 := fun n hn => by
    have a := cut_in h (n := n) (k := s.1) (by rw [at1]; exact hn)
    have b := cut_in h (n := n) (k := s.2.1 - 1) (by rw [at2]; exact hn)
    omega
  obtain ⟨p, hp⟩ := List.exists_mem_of_ne_nil _ e2
  have m0 := mb p.1 ⟨p, hp, by omega, e3.ne p hp⟩
  refine (Sh.tuple (n := 3) (c := 25000) (fun d hd => ?_) 3 (by simp)).mono (by omega) (by omega)
  simp only [List.mem_cons, List.not_mem_nil, or_false] at hd
  rcases hd with rfl | rfl | rfl
  · exact (Sh.int (by omega) (by omega)).mono (by omega) (by omega)
  · exact (Sh.int (by omega) (by omega)).mono (by omega) (by omega)
  · exact sh_pairs (bnd e3 fun n hn => by have := mb n hn; omega) (by have := l2 s hs; omega)
theorem sh_rel {bs : List Bool} {es : List Ent} (h : ∀ e ∈ es, e.ok bs) (hb : bs.length ≤ 2) (hl : es.length ≤ 5) : Sh 7 5000000 (.list (es.map entD)) := by
  refine (Sh.list (n := 6) (c := 800100) (fun d hd => ?_) 5 (by rw [List.length_map]; omega)).mono (by omega) (by omega)
  obtain ⟨e, he, rfl⟩ := List.mem_map.mp hd
  refine (Sh.tuple (n := 5) (c := 400000) (fun d hd => ?_) 2 (by simp)).mono (by omega) (by omega)
  simp only [List.mem_cons, List.not_mem_nil, or_false] at hd
  rcases hd with rfl | rfl
  · exact (sh_row (h e he).1 hb).mono (by omega) (by omega)
  · exact sh_region (h e he)
theorem cw_in {bs : List Bool} {e : Ent} (h : e.ok bs) (j k : Int) : Sh 3 25000 (.list ((cw e j k).map pairD)) := by
  obtain ⟨a, b⟩ := cw_ok e j k
  refine sh_pairs (bnd a fun n hn => by have := cut_in h ((b n).mp hn).1; omega) ?_
  have l : ∀ k, (cutA e k).length ≤ 4 := fun k => by
    unfold cutA
    by_cases z : atR k (lawR e.rs) = []
    · rw [z]; simp
    · obtain ⟨s, hs, _, _, q⟩ := atR_mem z
      rw [q]
      have := (lawR_size e.rs 2 h.2.1).2 s hs
      omega
  have := spansN_len (dueP (Ws 2) (cutA e k) (cutA e j))
  have := dueP_len (Ws 2) (cutA e k) (cutA e j)
  have := l j
  have := l k
  unfold cw
  omega
theorem sh_outs {bs : List Bool} {es : List Ent} (h : ∀ e ∈ es, e.ok bs) (hb : bs.length ≤ 2) (hl : es.length ≤ 5) (j k : Int) : Sh 5 5000000 (.list (es.flatMap (outE j k))) := by
  refine (Sh.list (n := 4) (c := 75100) (fun d hd => ?_) 10 (by have := outs_len j k es; omega)).mono (by omega) (by omega)
  obtain ⟨e, he, hd⟩ := List.mem_flatMap.mp hd
  have one : ∀ (w : Str) (a b : Int), Sh 1 600 (.str w) → d ∈ entry e w (cw e a b) → Sh 4 75100 d := fun w a b hw hd => by
    unfold entry at hd
    split at hd
    · cases hd
    · rw [List.mem_singleton.mp hd]
      refine (Sh.tuple (n := 3) (c := 25000) (fun d hd => ?_) 3 (by simp)).mono (by omega) (by omega)
      simp only [List.mem_cons, List.not_mem_nil, or_false] at hd
      rcases hd with rfl | rfl | rfl
      · exact (sh_row (h e he).1 hb).mono (by omega) (by omega)
      · exact hw.mono (by omega) (by omega)
      · exact cw_in (h e he) a b
  rcases List.mem_append.mp hd with hd | hd
  · exact one came j k (Sh.txt (by decide) (by decide)) hd
  · exact one went k j (Sh.txt (by decide) (by decide)) hd
theorem notIn_ints (ns : List Int) (n : Int) : dNotIn (.int n) (.list (ns.map .int)) = some (.bool (!decide (n ∈ ns))) := by
  have h1 : SeqAt.shaped (.int n) = true := (Shp.int n).shaped (by omega)
  have h2 : SeqAt.shaped (.list (ns.map PyData.int)) = true := (Shp.map (fun x => Shp.int x) ns).shaped (by omega)
  have h3 : (ns.map PyData.int).any (fun z => PyData.eqv z (.int n)) = decide (n ∈ ns) := by
    rw [List.any_map]
    have : (fun z => PyData.eqv (PyData.int z) (.int n)) = fun z : Int => decide (z = n) := funext fun z => eqv_int z n
    show ns.any (fun z => PyData.eqv (PyData.int z) (.int n)) = _
    rw [this]
    by_cases h : n ∈ ns
    · rw [decide_eq_true h]
      exact List.any_eq_true.mpr ⟨n, h, by simp⟩
    · rw [decide_eq_false h]
      exact List.any_eq_false.mpr fun z hz => by simp only [decide_eq_true_eq]; exact fun q => h (q ▸ hz)
  have h4 : dIn (.int n) (.list (ns.map PyData.int)) = some (.bool (decide (n ∈ ns))) := by
    show (if SeqAt.shaped (.int n) = true ∧ SeqAt.shaped (.list (ns.map PyData.int)) = true then some (PyData.bool ((ns.map PyData.int).any fun z => PyData.eqv z (.int n))) else none) = _
    rw [if_pos ⟨h1, h2⟩, h3]
  unfold dNotIn
  rw [h4]
/-- the moments at which a row stands at k -/
def Fm (e : Ent) (k : Int) : List Int := ((List.range 12).filter fun i : Nat => memB (cutA e k) (i : Int)).map fun i : Nat => (i : Int)
def Cm (e : Ent) (j k : Int) : List Int := (Fm e k).filter fun n => !decide (n ∈ Fm e j)
theorem mem_Fm {bs : List Bool} {e : Ent} (h : e.ok bs) {k n : Int} : n ∈ Fm e k ↔ Mem n (cutA e k) := by
  unfold Fm
  rw [List.mem_map]
  constructor
  · rintro ⟨i, hi, rfl⟩
    exact memB_iff.mp (List.mem_filter.mp hi).2
  · intro m
    have := cut_in h m
    obtain ⟨i, rfl⟩ := Int.eq_ofNat_of_zero_le this.1
    exact ⟨i, List.mem_filter.mpr ⟨List.mem_range.mpr (by omega), memB_iff.mpr m⟩, rfl⟩
theorem asc_Fm (e : Ent) (k : Int) : (Fm e k).Pairwise (· < ·) := by
  unfold Fm
  rw [List.pairwise_map]
  exact (List.Pairwise.filter _ (List.pairwise_lt_range (n := 12))).imp fun h => by omega
theorem len_Fm (e : Ent) (k : Int) : (Fm e k).length ≤ 12 := by
  unfold Fm
  rw [List.length_map]
  exact Nat.le_trans (List.length_filter_le _ _) (by simp)
theorem mem_Cm {bs : List Bool} {e : Ent} (h : e.ok bs) {j k n : Int} : n ∈ Cm e j k ↔ Mem n (cw e j k) := by
  unfold Cm
  rw [List.mem_filter, mem_Fm h, (cw_ok e j k).2]
  simp only [Bool.not_eq_true', decide_eq_false_iff_not, mem_Fm h]
theorem cm_spans {bs : List Bool} {e : Ent} (h : e.ok bs) (j k : Int) : φ__law_spans [.list ((Cm e j k).map .int)] = some (.list ((cw e j k).map pairD)) := by
  obtain ⟨o, e1, n1, m1⟩ := spans_eq (Cm e j k) ((asc_Fm e k).filter _) (Nat.le_trans (List.length_filter_le _ _) (Nat.le_trans (len_Fm e k) (by omega)))
  rw [e1, n1.uniq (cw_ok e j k).1 fun n => by rw [m1 n, mem_Cm h]]
theorem cm_nil {bs : List Bool} {e : Ent} (h : e.ok bs) (j k : Int) : Cm e j k = [] ↔ cw e j k = [] := by
  constructor
  · intro z
    exact (cw_ok e j k).1.uniq ⟨by simp, by simp⟩ fun n => by rw [← mem_Cm h, z]; exact ⟨fun q => (by cases q), fun q => (Mem.nil n q).elim⟩
  · intro z
    refine List.eq_nil_iff_forall_not_mem.mpr fun n hn => ?_
    rw [mem_Cm h, z] at hn
    exact Mem.nil n hn
theorem kinds_eq (v : Int) (h0 : 0 ≤ v) (h1 : v < 3) : ∃ bs : List Bool, bs ≠ [] ∧ bs.length ≤ 2 ∧ atI [PyData.list [.str (tx [110, 117, 109, 98, 101, 114]), .str (tx [116, 101, 120, 116])], PyData.list [.str (tx [116, 101, 120, 116])], PyData.list [.str (tx [110, 117, 109, 98, 101, 114])]] v = some (.list (bs.map kd)) := by
  have t1 : kd true = .str (tx [116, 101, 120, 116]) := by unfold kd; walk_at "st"; rfl
  have t2 : kd false = .str (tx [110, 117, 109, 98, 101, 114]) := by unfold kd; walk_at "st"; rfl
  have : v = 0 ∨ v = 1 ∨ v = 2 := by omega
  rcases this with rfl | rfl | rfl
  · exact ⟨[false, true], by simp, by decide, by rw [List.map_cons, List.map_cons, List.map_nil, t1, t2]; rfl⟩
  · exact ⟨[true], by simp, by decide, by rw [List.map_cons, List.map_nil, t1]; rfl⟩
  · exact ⟨[false], by simp, by decide, by rw [List.map_cons, List.map_nil, t2]; rfl⟩
theorem law_true (ns : List Int) (hl : ns.length ≤ 63) (hb : ∀ z ∈ ns, PySem.Builtin.Int.intBits z ≤ 1048576) : φ_law [scrD (ns.map .int)] = some (.bool true) := by
  obtain ⟨s0, e0, t0⟩ := state_eq ns
  obtain ⟨v, s1, e1, v0, v1, t1⟩ := take_ok t0 3 (by omega) (by omega)
  obtain ⟨bs, b1, b2, e2⟩ := kinds_eq v v0 v1
  obtain ⟨es, s3, e3, t3, le, he⟩ := relation_ok t1 bs b1 (by omega)
  obtain ⟨j, s4, e4, j0, j1, t4⟩ := take_ok t3 8 (by omega) (by omega)
  obtain ⟨k, s5, e5, k0, k1, t5⟩ := take_ok t4 8 (by omega) (by omega)
  have hc := corr_eq es bs he le j k
  have r1 := (sh_rel he b2 le).repr (r := .val (.list (es.map entD))) rfl rfl (by omega) (by omega)
  have r2 := (sh_outs he b2 le j k).repr (r := .val (.list (es.flatMap (outE j k)))) rfl rfl (by omega) (by omega)
  have r3 := (sh_outs he b2 le j k).repr (r := .view (es.flatMap (outE j k))) rfl rfl (by omega) (by omega)
  unfold φ_law R_law
  walk_at "st"
  clear hl hb
  walk_at "evh"
  generalize hF : forQ _ _ _ _ = F
  obtain ⟨ρ', rfl, x6, x8, x9, x10, x11, rfl⟩ := forQ_of hF (fun pre ρ => ∃ (x6 x8 x9 x10 x11 : Sl), ρ = [.val (scrD (ns.map .int)), .own s5, .val (.list (es.map entD)), .val (.int j), .val (.int k), .own (pre.flatMap (outE j k)), x6, .un, x8, x9, x10, x11, .un]) ⟨.un, .un, .un, .un, .un, rfl⟩ (by
    clear hF F hc r1 r2 r3 e0 e1 e2 e3 e4 e5
    rintro pre e post eq ρ ⟨x6, x8, x9, x10, x11, rfl⟩
    have h := he e (by rw [eq]; simp)
    have hp := outs_len j k pre
    have hp2 : pre.length ≤ 5 := by rw [eq] at le; simp only [List.length_append] at le; omega
    obtain ⟨_, n2, _⟩ := cutA_len h.2.1 j
    have s1' : ∀ m : Int, φ__law_stands [.list ((lawR e.rs).map stripD), .int m, .int j] = some (.bool (memB (cutA e j) m)) := fun m => stands_eq _ n2 m j
    have s2' : ∀ m : Int, φ__law_stands [.list ((lawR e.rs).map stripD), .int m, .int k] = some (.bool (memB (cutA e k) m)) := fun m => stands_eq _ n2 m k
    have p1 := cm_spans h j k
    have p2 := cm_spans h k j
    have z1 := cm_nil h j k
    have z2 := cm_nil h k j
    have fm : ∀ k, ((List.range 12).filter fun i : Nat => memB (cutA e k) (i : Int)).map (fun i : Nat => PyData.int (i : Int)) = (Fm e k).map .int := fun k => by unfold Fm; rw [List.map_map]; rfl
    have l1 := len_Fm e j
    have l2 := len_Fm e k
    have h12 : ra1 [.int 12] = some ((List.range 12).map fun i : Nat => PyData.int (i : Int)) := e_ra1_nat (n := 12) (by omega)
    have oe : (pre ++ [e]).flatMap (outE j k) = pre.flatMap (outE j k) ++ (entry e came (cw e j k) ++ entry e went (cw e k j)) := by simp [outE]
    refine ⟨[.val (scrD (ns.map .int)), .own s5, .val (.list (es.map entD)), .val (.int j), .val (.int k), .own ((pre ++ [e]).flatMap (outE j k)), .val (entD e), .un, .val (.list ((Fm e j).map .int)), .val (.list ((Fm e k).map .int)), .val (.list ((Cm e j k).map .int)), .val (.list ((Cm e k j).map .int)), .un], .inl ?_, _, _, _, _, _, rfl⟩
    rw [oe, show entD e = .tuple [rowD e.k, .list ((lawR e.rs).map stripD)] from rfl]
    generalize pre.flatMap (outE j k) = o at *
    clear eq he n2 le oe t0 t1 t3 t4 t5
    walk_at "ev"
    rw [h12]
    walk_at "ev"
    generalize hC : lc1 _ _ _ _ _ _ = C
    obtain rfl := lcF_of hC (fun i : Nat => memB (cutA e j) (i : Int)) (fun i : Nat => .int (i : Int)) (by simp) (by
      clear hC C z1 z2
      intro i hi
      walk_at "evh") (by
      clear hC C z1 z2
      intro i hi _
      walk_at "ev")
    clear hC
    rw [fm]
    walk_at "ev"
    rw [h12]
    walk_at "ev"
    generalize hC : lc1 _ _ _ _ _ _ = C
    obtain rfl := lcF_of hC (fun i : Nat => memB (cutA e k) (i : Int)) (fun i : Nat => .int (i : Int)) (by simp) (by
      clear hC C z1 z2
      intro i hi
      walk_at "evh") (by
      clear hC C z1 z2
      intro i hi _
      walk_at "ev")
    clear hC
    rw [fm]
    walk_at "ev"
    generalize hC : lc1 _ _ _ _ _ _ = C
    obtain rfl := lcF_of hC (fun n : Int => !decide (n ∈ Fm e j)) PyData.int (by omega) (by
      clear hC C z1 z2
      intro i hi
      have := notIn_ints (Fm e j) i
      clear s1' s2' p1 p2 fm
      walk_at "evh") (by
      clear hC C z1 z2
      intro i hi _
      walk_at "ev")
    clear hC
    change Cm e j k = [] ↔ _ at z1
    rw [show (Fm e k).filter (fun n : Int => !decide (n ∈ Fm e j)) = Cm e j k from rfl]
    walk_at "ev"
    generalize hC : lc1 _ _ _ _ _ _ = C
    obtain rfl := lcF_of hC (fun n : Int => !decide (n ∈ Fm e k)) PyData.int (by omega) (by
      clear hC C z1 z2
      intro i hi
      have := notIn_ints (Fm e k) i
      clear s1' s2' p1 p2 fm
      walk_at "evh") (by
      clear hC C z1 z2
      intro i hi _
      walk_at "ev")
    clear hC
    rw [show (Fm e j).filter (fun n : Int => !decide (n ∈ Fm e k)) = Cm e k j from rfl]
    walk_at "ev"
    have ie : ∀ c : List Int, c ≠ [] → (c.map PyData.int).isEmpty = false := fun c h => by
      rw [isEmpty_map]
      cases c with
      | nil => exact absurd rfl h
      | cons _ _ => rfl
    have ia : ∀ c : List Int, c = [] → (c.map PyData.int).isEmpty = true := fun c h => by rw [h]; rfl
    unfold entry came went
    by_cases y1 : Cm e j k = []
    · have i1 := ia _ y1
      rw [if_pos (z1.mp y1), List.nil_append]
      by_cases y2 : Cm e k j = []
      · have i2 := ia _ y2
        rw [if_pos (z2.mp y2), List.append_nil]
        clear fm z1 z2 ie ia s1' s2' h12 h y1 y2
        walk_at "evh"
      · have i2 := ie _ y2
        rw [if_neg (fun q => y2 (z2.mpr q))]
        clear fm z1 z2 ie ia s1' s2' h12 h y1 y2
        walk_at "evh"
    · have i1 := ie _ y1
      rw [if_neg (fun q => y1 (z1.mpr q))]
      by_cases y2 : Cm e k j = []
      · have i2 := ia _ y2
        rw [if_pos (z2.mp y2), List.append_nil]
        clear fm z1 z2 ie ia s1' s2' h12 h y1 y2
        walk_at "evh"
      · have i2 := ie _ y2
        rw [if_neg (fun q => y2 (z2.mpr q)), ← List.append_assoc]
        clear fm z1 z2 ie ia s1' s2' h12 h y1 y2
        walk_at "evh")
  walk_at "evh"
end M
open PySem PySem.W PyProof.Rows
set_option maxRecDepth 100000 in
set_option maxHeartbeats 0 in
theorem PySem.Challenge.cw_pastamended_k38_corrections_holds : PySem.Challenge.rw_pastamended_k38_corrections.Holds := by
  w_on; o_law; k_head; (case hw => w_witness2)
  k_fill
  refine Pu.pu_walk (l := PySem.Challenge.rw_pastamended_k38_corrections) (n := 63) (k := 5) [] G.φ_law rfl (by decide) rfl ⟨⟨rfl, by decide, by decide⟩, rfl⟩ (fun w h Y => PySem.W.kIn_of Y) ?F (@M.law_true ⟨fun _ => none⟩)
  case F =>
    intro w mg fa h KX Gm hmg
    refine' G.all_mk KX Gm hmg ?a0 ?l0 ?e0 ?k0 ?a1 ?l1 ?e1 ?k1 ?a2 ?l2 ?e2 ?k2 ?a3 ?l3 ?e3 ?k3 ?a4 ?l4 ?e4 ?k4 ?a5 ?l5 ?e5 ?k5 ?a6 ?l6 ?e6 ?k6 ?a7 ?l7 ?e7 ?k7 ?a8 ?l8 ?e8 ?k8 ?a9 ?l9 ?e9 ?k9 ?a10 ?l10 ?e10 ?k10 ?a11 ?l11 ?e11 ?k11 ?a12 ?l12 ?e12 ?k12 ?a13 ?l13 ?e13 ?k13 ?a14 ?l14 ?e14 ?k14 ?a15 ?l15 ?e15 ?k15 ?a16 ?l16 ?e16 ?k16 ?a17 ?l17 ?e17 ?k17 ?z0 ?z1 ?z2 ?z3 ?z4 ?z5 ?z6 ?z7 ?z8 ?z9 ?q0 ?r0
    (case a0 => k_is); (case l0 => k_is); (case e0 => k_is); (case k0 => k_is)
    (case a1 => k_is); (case l1 => k_is); (case e1 => k_is); (case k1 => k_is)
    (case a2 => k_is); (case l2 => k_is); (case e2 => k_is); (case k2 => k_is)
    (case a3 => k_is); (case l3 => k_is); (case e3 => k_is); (case k3 => k_is)
    (case a4 => k_is); (case l4 => k_is); (case e4 => k_is); (case k4 => k_is)
    (case a5 => k_is); (case l5 => k_is); (case e5 => k_is); (case k5 => k_is)
    (case a6 => k_is); (case l6 => k_is); (case e6 => k_is); (case k6 => k_is)
    (case a7 => k_is); (case l7 => k_is); (case e7 => k_is); (case k7 => k_is)
    (case a8 => k_is); (case l8 => k_is); (case e8 => k_is); (case k8 => k_is)
    (case a9 => k_is); (case l9 => k_is); (case e9 => k_is); (case k9 => k_is)
    (case a10 => k_is); (case l10 => k_is); (case e10 => k_is); (case k10 => k_is)
    (case a11 => k_is); (case l11 => k_is); (case e11 => k_is); (case k11 => k_is)
    (case a12 => k_is); (case l12 => k_is); (case e12 => k_is); (case k12 => k_is)
    (case a13 => k_is); (case l13 => k_is); (case e13 => k_is); (case k13 => k_is)
    (case a14 => k_is); (case l14 => k_is); (case e14 => k_is); (case k14 => k_is)
    (case a15 => k_is); (case l15 => k_is); (case e15 => k_is); (case k15 => k_is)
    (case a16 => k_is); (case l16 => k_is); (case e16 => k_is); (case k16 => k_is)
    (case a17 => k_is); (case l17 => k_is); (case e17 => k_is); (case k17 => k_is)
    (case z0 => k_is)
    (case z1 => k_is)
    (case z2 => k_is)
    (case z3 => k_is)
    (case z4 => k_is)
    (case z5 => k_is)
    (case z6 => k_is)
    (case z7 => k_is)
    (case z8 => k_is)
    (case z9 => k_is)
    (case q0 => k_is)
    (case r0 => k_is)
