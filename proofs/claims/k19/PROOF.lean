import PyProof.Rows.All
import Wide.All
import OpenK.AllK
import Wide.FinOn
import HandS.ForMost
import HandS.Evl
import HandS.TupAny
import HandS.TupLe
import HandS.Zip
import HandS.Rev
import HandS.RevRange
import HandS.SortInts
import HandS.IsInst
import HandS.Wide
import HandS.Style
import KE.GoesNew
import KE.GoesEnum
import KE.GoesMore
import HandS.Conv
import KE.KDictZip
import KE.KItemsList
import HandS.Star
import HandS.ListItems
import HandS.RepeatKit
import HandS.DictComp
import KE.KStateDown
import HandS.Ends
import HandS.More
import HandS.Words
import HandS.WordsExc
import HandS.Defaults
import HandS.Head0
import HandS.Head1
import HandS.Head2
import HandS.Head3
import HandS.HeadEnd
import HandS.HeadHook1
import HandS.HeadHook2
import PySem.Challenge.RW_hallback_k19_whole_ranks_that_no_desk_ta
set_option Elab.async false
set_option linter.all false
set_option autoImplicit false
set_option maxRecDepth 100000
/-! V0: data, what represents them in the heap, growth of heaps, the names of a def. -/
namespace Dn
open PySem PySem.Spec PyProof.Rows L2
open Evl (Ex fresh_back)

abbrev D := PyData
def keyD : Key → D
  | .inl i => .int i
  | .inr x => .str x

mutual
inductive Rp (G : Hp) : V → D → Prop
  | non : Rp G .non .none
  | bl (b : Bool) : Rp G (.bl b) (.bool b)
  | int (i : Int) : Rp G (.int i) (.int i)
  | str (x : Str) : Rp G (.str x) (.str x)
  | lst {a : Addr} {xs : List V} {ds : List D} : G a = some (.lst xs) → RpAll G xs ds → Rp G (.ref a) (.list ds)
  | tup {a : Addr} {xs : List V} {ds : List D} : G a = some (.tup xs) → RpAll G xs ds → Rp G (.ref a) (.tuple ds)
  | dK {a : Addr} {ks : List Key} {xs : List V} {ds : List D} : G a = some (.dK (ks.zip xs)) → ks.length = xs.length → RpAll G xs ds → Rp G (.ref a) (.dict ((ks.map keyD).zip ds))
  | dT {a : Addr} {ks : List (List Key)} {xs : List V} {ds : List D} : G a = some (.dT (ks.zip xs)) → ks.length = xs.length → RpAll G xs ds → Rp G (.ref a) (.dict ((ks.map fun k => PyData.tuple (k.map keyD)).zip ds))
  /-- the list that the law is handed -/
  | scr {a : Addr} {o : Obj} {xs : List V} {ds : List D} : G a = some (.frz o (.lst xs)) → RpAll G xs ds → Rp G (.ref a) (.dict [(.none, .list ds)])
inductive RpAll (G : Hp) : List V → List D → Prop
  | nil : RpAll G [] []
  | cons {v : V} {vs : List V} {d : D} {ds : List D} : Rp G v d → RpAll G vs ds → RpAll G (v :: vs) (d :: ds)
end

mutual
theorem Rp.mono {G G' : Hp} (e : Ex G G') : ∀ {v : V} {d : D}, Rp G v d → Rp G' v d
  | _, _, .non => .non
  | _, _, .bl b => .bl b
  | _, _, .int i => .int i
  | _, _, .str x => .str x
  | _, _, .lst h r => .lst (e _ _ h) (RpAll.mono e r)
  | _, _, .tup h r => .tup (e _ _ h) (RpAll.mono e r)
  | _, _, .dK h l r => .dK (e _ _ h) l (RpAll.mono e r)
  | _, _, .dT h l r => .dT (e _ _ h) l (RpAll.mono e r)
  | _, _, .scr h r => .scr (e _ _ h) (RpAll.mono e r)
theorem RpAll.mono {G G' : Hp} (e : Ex G G') : ∀ {v : List V} {d : List D}, RpAll G v d → RpAll G' v d
  | _, _, .nil => .nil
  | _, _, .cons h r => .cons (Rp.mono e h) (RpAll.mono e r)
end
mutual
theorem Rp.dp {K : PySem.W.Frag} {G H : Hp} (e : Ex G H) : ∀ {v : V} {d : D}, Rp G v d → PyData.canLay0 d = true → Dp K H v d
  | _, _, .non, _ => .non
  | _, _, .bl b, _ => .bl b
  | _, _, .int i, _ => .int i
  | _, _, .str x, _ => .str x
  | _, _, .lst h r, c => .lst (.of (e _ _ h)) (RpAll.dp e r (by simpa [PyData.canLay0] using c))
  | _, _, .tup h r, c => .tup (.of (e _ _ h)) (RpAll.dp e r (by simpa [PyData.canLay0] using c))
  | _, _, .dK h l r, c => by simp [PyData.canLay0] at c
  | _, _, .dT h l r, c => by simp [PyData.canLay0] at c
  | _, _, .scr h r, c => by simp [PyData.canLay0] at c
theorem RpAll.dp {K : PySem.W.Frag} {G H : Hp} (e : Ex G H) : ∀ {v : List V} {d : List D}, RpAll G v d → PyData.canLayAll0 d = true → DpAll K H v d
  | _, _, .nil, _ => .nil
  | _, d :: ds, .cons h r, c => by
    have c' : PyData.canLay0 d = true ∧ PyData.canLayAll0 ds = true := by simpa [PyData.canLayAll0] using c
    exact .cons (Rp.dp e h c'.1) (RpAll.dp e r c'.2)
end
theorem RpAll.length {G : Hp} : ∀ {v : List V} {d : List D}, RpAll G v d → v.length = d.length
  | _, _, .nil => rfl
  | _, _, .cons _ r => congrArg (· + 1) (RpAll.length r)
theorem RpAll.get {G : Hp} : ∀ {vs : List V} {ds : List D} {i : Nat} {d : D}, RpAll G vs ds → ds[i]? = some d → ∃ v, vs[i]? = some v ∧ Rp G v d
  | _, _, 0, _, .cons h _, e => ⟨_, rfl, by cases e; exact h⟩
  | _, _, i + 1, _, .cons _ r, e => RpAll.get (i := i) r e
theorem RpAll.get' {G : Hp} : ∀ {vs : List V} {ds : List D} {i : Nat} {v : V}, RpAll G vs ds → vs[i]? = some v → ∃ d, ds[i]? = some d ∧ Rp G v d
  | _, _, 0, _, .cons h _, e => ⟨_, rfl, by cases e; exact h⟩
  | _, _, i + 1, _, .cons _ r, e => RpAll.get' (i := i) r e
theorem RpAll.append {G : Hp} : ∀ {vs ws : List V} {ds es : List D}, RpAll G vs ds → RpAll G ws es → RpAll G (vs ++ ws) (ds ++ es)
  | _, _, _, _, .nil, s => s
  | _, _, _, _, .cons h r, s => .cons h (RpAll.append r s)
theorem RpAll.take {G : Hp} : ∀ {vs : List V} {ds : List D} (n : Nat), RpAll G vs ds → RpAll G (vs.take n) (ds.take n)
  | _, _, 0, _ => .nil
  | _, _, _ + 1, .nil => .nil
  | _, _, n + 1, .cons h r => .cons h (RpAll.take n r)
theorem RpAll.drop {G : Hp} : ∀ {vs : List V} {ds : List D} (n : Nat), RpAll G vs ds → RpAll G (vs.drop n) (ds.drop n)
  | _, _, 0, r => r
  | _, _, _ + 1, .nil => .nil
  | _, _, n + 1, .cons _ r => RpAll.drop n r
theorem RpAll.set {G : Hp} {v : V} {d : D} (h : Rp G v d) : ∀ {vs : List V} {ds : List D} (i : Nat), RpAll G vs ds → RpAll G (vs.set i v) (ds.set i d)
  | _, _, _, .nil => .nil
  | _, _, 0, .cons _ r => .cons h r
  | _, _, i + 1, .cons q r => .cons q (RpAll.set h i r)
theorem RpAll.reverse {G : Hp} {vs : List V} {ds : List D} (h : RpAll G vs ds) : RpAll G vs.reverse ds.reverse := by
  have aux : ∀ {vs : List V} {ds : List D}, RpAll G vs ds → RpAll G vs.reverse ds.reverse := by
    intro vs
    induction vs with
    | nil => intro ds h; cases h; exact .nil
    | cons v vs ih => intro ds h; cases h with | cons a r => rw [List.reverse_cons, List.reverse_cons]; exact (ih r).append (.cons a .nil)
  exact aux h
theorem RpAll.eraseIdx {G : Hp} : ∀ {vs : List V} {ds : List D} (i : Nat), RpAll G vs ds → RpAll G (vs.eraseIdx i) (ds.eraseIdx i)
  | _, _, _, .nil => .nil
  | _, _, 0, .cons _ r => r
  | _, _, i + 1, .cons q r => .cons q (RpAll.eraseIdx i r)
theorem RpAll.of_get {G : Hp} : ∀ {vs : List V} {ds : List D}, vs.length = ds.length → (∀ (j : Nat) v d, vs[j]? = some v → ds[j]? = some d → Rp G v d) → RpAll G vs ds
  | [], [], _, _ => .nil
  | v :: vs, d :: ds, hl, h => .cons (h 0 v d rfl rfl) (RpAll.of_get (by simpa using hl) fun j a b ha hb => h (j + 1) a b ha hb)
  | [], _ :: _, hl, _ => by cases hl
  | _ :: _, [], hl, _ => by cases hl
theorem Rp.inv_list {G : Hp} {v : V} {ds : List D} (h : Rp G v (.list ds)) : ∃ a xs, v = .ref a ∧ G a = some (.lst xs) ∧ RpAll G xs ds := by
  cases h with | lst h r => exact ⟨_, _, rfl, h, r⟩
theorem Rp.inv_tup {G : Hp} {v : V} {ds : List D} (h : Rp G v (.tuple ds)) : ∃ a xs, v = .ref a ∧ G a = some (.tup xs) ∧ RpAll G xs ds := by
  cases h with | tup h r => exact ⟨_, _, rfl, h, r⟩
theorem Rp.inv_int {G : Hp} {v : V} {i : Int} (h : Rp G v (.int i)) : v = .int i := by cases h; rfl
theorem Rp.inv_bl {G : Hp} {v : V} {i : Bool} (h : Rp G v (.bool i)) : v = .bl i := by cases h; rfl
theorem Rp.inv_non {G : Hp} {v : V} (h : Rp G v .none) : v = .non := by cases h; rfl
theorem Rp.inv_str {G : Hp} {v : V} {x : Str} (h : Rp G v (.str x)) : v = .str x := by cases h; rfl
/-- data that stand in no heap -/
def flatD : D → Bool
  | .none => true
  | .bool _ => true
  | .int _ => true
  | .str _ => true
  | _ => false
theorem Rp.flat {G G' : Hp} {v : V} {d : D} (h : Rp G v d) (f : flatD d = true) : Rp G' v d := by
  cases h with
  | non => exact .non
  | bl b => exact .bl b
  | int i => exact .int i
  | str x => exact .str x
  | _ => cases f
theorem RpAll.flat {G G' : Hp} : ∀ {vs : List V} {ds : List D}, RpAll G vs ds → ds.all flatD = true → RpAll G' vs ds
  | _, _, .nil, _ => .nil
  | _, _, .cons h r, f => by
    rw [List.all_cons, Bool.and_eq_true] at f
    exact .cons (h.flat f.1) (RpAll.flat r f.2)

/-! ### growth -/
/-- nothing that stands changes; what is new may be known -/
structure Pu (G H G' H' : Hp) : Prop where
  g : Ex G G'
  h : Ex H H'
  s : Ex G' H'
  n : ∀ a, H a ≠ none → G a = none → G' a = none
theorem Pu.refl {G H : Hp} (e : Ex G H) : Pu G H G H := ⟨Ex.refl G, Ex.refl H, e, fun _ _ h => h⟩
theorem Ex.some' {H H' : Hp} (e : Ex H H') {a : Addr} (h : H a ≠ none) : H' a ≠ none := by
  cases q : H a with
  | none => exact absurd q h
  | some o => rw [e a o q]; exact fun z => nomatch z
theorem Pu.trans {G H G1 H1 G2 H2 : Hp} (a : Pu G H G1 H1) (b : Pu G1 H1 G2 H2) : Pu G H G2 H2 :=
  ⟨a.g.trans b.g, a.h.trans b.h, b.s, fun x h n => b.n x (Ex.some' a.h h) (a.n x h n)⟩
/-- a new object, known from now on -/
theorem Pu.new {G H : Hp} (e : Ex G H) {p : Addr} {o : HO} (hp : H p = none) : Pu G H (upd G p o) (upd H p o) := by
  refine ⟨Ex.new (fresh_back e hp), Ex.new hp, fun a u q => ?_, fun a h n => ?_⟩
  · by_cases ha : a = p
    · subst ha; rw [upd_same] at q ⊢; exact q
    · rw [upd_ne ha] at q ⊢; exact e a u q
  · by_cases ha : a = p
    · subst ha; exact absurd hp h
    · rw [upd_ne ha]; exact n
/-- a new object that is not known -/
theorem Pu.newH {G H : Hp} (e : Ex G H) {p : Addr} {o : HO} (hp : H p = none) : Pu G H G (upd H p o) :=
  ⟨Ex.refl G, Ex.new hp, e.trans (Ex.new hp), fun _ _ n => n⟩
theorem some_ne {H : Hp} {a : Addr} {o : HO} (h : H a = some o) : H a ≠ none := by rw [h]; exact fun z => nomatch z

/-! ### a def's names -/
inductive SV where
  /-- data that nobody changes -/
  | fz (d : D)
  /-- a list of one's own, so many levels deep (io: the one that was handed in at this place) -/
  | ow (io : Bool) (k : Nat) (d : D)
abbrev DEnv := List (Option SV)
abbrev Lab := Addr → Option (List Nat)
abbrev Bs := Nat → Addr

/-- a thing of one's own, k levels deep: each of its lists, dicts is labelled by its place -/
def OwnR (L : Lab) (G H : Hp) : Nat → List Nat → V → D → Prop
  | 0, _, v, d => Rp G v d
  | k + 1, p, v, .list ds => ∃ a vs, v = .ref a ∧ H a = some (.lst vs) ∧ L a = some p ∧ vs.length = ds.length ∧ ∀ (j : Nat) (v : V) (d : D), vs[j]? = some v → ds[j]? = some d → OwnR L G H k (p ++ [j]) v d
  | 1, p, v, .dict kvs => ∃ a, v = .ref a ∧ L a = some p ∧
      ((∃ (ks : List Key) (xs : List V) (ds : List D), H a = some (.dK (ks.zip xs)) ∧ ks.length = xs.length ∧ RpAll G xs ds ∧ kvs = (ks.map keyD).zip ds) ∨
       (∃ (ks : List (List Key)) (xs : List V) (ds : List D), H a = some (.dT (ks.zip xs)) ∧ ks.length = xs.length ∧ RpAll G xs ds ∧ kvs = (ks.map fun k => PyData.tuple (k.map keyD)).zip ds))
  | _ + 1, _, _, _ => False

def SRep (bs : Bs) (L : Lab) (G H : Hp) (i : Nat) (v : V) : SV → Prop
  | .fz d => Rp G v d
  | .ow io k d => OwnR L G H (k + 1) [i] v d ∧ (io = true → v = .ref (bs i))

/-- P: what may change; bs: the lists that were handed in to be changed -/
structure Rep (P : Addr → Prop) (bs : Bs) (G H : Hp) (σ : L2.St) (env : DEnv) : Prop where
  len : σ.length = env.length
  sub : Ex G H
  fresh : ∀ p, H p = none → P p
  rep : ∃ L : Lab, (∀ a p, L a = some p → P a ∧ G a = none) ∧ ∀ (i : Nat) (s : SV), env[i]? = some (some s) → ∃ v, σ[i]? = some (some v) ∧ SRep bs L G H i v s
structure Gr (P : Addr → Prop) (G H G' H' : Hp) : Prop where
  g : Ex G G'
  h : ∀ a o, H a = some o → ¬ P a → H' a = some o
  n : ∀ a, ¬ P a → G a = none → G' a = none
theorem Gr.refl {P : Addr → Prop} {G H : Hp} : Gr P G H G H := ⟨Ex.refl G, fun _ _ h _ => h, fun _ _ h => h⟩
theorem Gr.trans {P : Addr → Prop} {G H G1 H1 G2 H2 : Hp} (a : Gr P G H G1 H1) (b : Gr P G1 H1 G2 H2) : Gr P G H G2 H2 :=
  ⟨a.g.trans b.g, fun x o h n => b.h x o (a.h x o h n) n, fun x h n => b.n x h (a.n x h n)⟩
theorem Gr.wk {P P' : Addr → Prop} {G H G' H' : Hp} (a : Gr P G H G' H') (w : ∀ x, P x → P' x) : Gr P' G H G' H' :=
  ⟨a.g, fun x o h n => a.h x o h fun z => n (w x z), fun x h n => a.n x (fun z => h (w x z)) n⟩

/-- what is one's own stays where its lists stay -/
theorem OwnR.keep {L L' : Lab} {G G' H H' : Hp} (g : Ex G G') : ∀ (k : Nat) {p p' : List Nat} {v : V} {d : D}, (∀ a q, L a = some (p ++ q) → L' a = some (p' ++ q) ∧ ∀ o, H a = some o → H' a = some o) → OwnR L G H k p v d → OwnR L' G' H' k p' v d
  | 0, _, _, _, _, _, r => Rp.mono g r
  | 1, p, p', v, .dict kvs, hk, r => by
    obtain ⟨a, rfl, hl, r⟩ := r
    obtain ⟨h1, h2⟩ := hk a [] (by rw [List.append_nil]; exact hl)
    rw [List.append_nil] at h1
    refine ⟨a, rfl, h1, ?_⟩
    rcases r with ⟨ks, xs, ds, e1, e2, e3, e4⟩ | ⟨ks, xs, ds, e1, e2, e3, e4⟩
    · exact .inl ⟨ks, xs, ds, h2 _ e1, e2, e3.mono g, e4⟩
    · exact .inr ⟨ks, xs, ds, h2 _ e1, e2, e3.mono g, e4⟩
  | k + 1, p, p', v, .list ds, hk, r => by
    unfold OwnR at r ⊢
    obtain ⟨a, vs, rfl, ha, hl, hn, r⟩ := r
    obtain ⟨h1, h2⟩ := hk a [] (by rw [List.append_nil]; exact hl)
    rw [List.append_nil] at h1
    refine ⟨a, vs, rfl, h2 _ ha, h1, hn, fun j w e hw he => OwnR.keep g k (fun b q hb => ?_) (r j w e hw he)⟩
    obtain ⟨k1, k2⟩ := hk b ([j] ++ q) (by rw [← List.append_assoc]; exact hb)
    exact ⟨by rw [List.append_assoc]; exact k1, k2⟩
  | k + 2, _, _, _, .dict _, _, r => False.elim (by unfold OwnR at r; exact r)
  | k + 1, _, _, _, .none, _, r => False.elim (by unfold OwnR at r; exact r)
  | k + 1, _, _, _, .bool _, _, r => False.elim (by unfold OwnR at r; exact r)
  | k + 1, _, _, _, .int _, _, r => False.elim (by unfold OwnR at r; exact r)
  | k + 1, _, _, _, .str _, _, r => False.elim (by unfold OwnR at r; exact r)
  | k + 1, _, _, _, .tuple _, _, r => False.elim (by unfold OwnR at r; exact r)
/-- seen by who changes nothing -/
theorem OwnR.rp {L : Lab} {G H : Hp} (g : Ex G H) : ∀ (k : Nat) {p : List Nat} {v : V} {d : D}, OwnR L G H k p v d → Rp H v d
  | 0, _, _, _, r => Rp.mono g r
  | 1, p, v, .dict kvs, r => by
    obtain ⟨a, rfl, hl, r⟩ := r
    rcases r with ⟨ks, xs, ds, e1, e2, e3, rfl⟩ | ⟨ks, xs, ds, e1, e2, e3, rfl⟩
    · exact .dK e1 e2 (e3.mono g)
    · exact .dT e1 e2 (e3.mono g)
  | k + 1, p, v, .list ds, r => by
    unfold OwnR at r
    obtain ⟨a, vs, rfl, ha, hl, hn, r⟩ := r
    exact .lst ha (RpAll.of_get hn fun j w e hw he => OwnR.rp g k (r j w e hw he))
  | k + 2, _, _, .dict _, r => False.elim (by unfold OwnR at r; exact r)
  | k + 1, _, _, .none, r => False.elim (by unfold OwnR at r; exact r)
  | k + 1, _, _, .bool _, r => False.elim (by unfold OwnR at r; exact r)
  | k + 1, _, _, .int _, r => False.elim (by unfold OwnR at r; exact r)
  | k + 1, _, _, .str _, r => False.elim (by unfold OwnR at r; exact r)
  | k + 1, _, _, .tuple _, r => False.elim (by unfold OwnR at r; exact r)
end Dn

/-! V1: what holds of a def's names, how it changes. -/
namespace Dn
open PySem PySem.Spec PyProof.Rows L2
open Evl (Ex fresh_back)
open Classical

theorem get_set {α : Type} {l : List α} {i j : Nat} {x y : α} (h : (l.set i x)[j]? = some y) : (j = i ∧ x = y ∧ i < l.length) ∨ (j ≠ i ∧ l[j]? = some y) := by
  by_cases hj : j = i
  · subst hj
    have hl : j < l.length := by
      have := (List.getElem?_eq_some_iff.mp h).1
      simpa using this
    rw [List.getElem?_set_self hl] at h
    cases h
    exact .inl ⟨rfl, rfl, hl⟩
  · rw [List.getElem?_set_ne (Ne.symm hj)] at h
    exact .inr ⟨hj, h⟩

/-- a tree of one's own: its lists N, k levels deep -/
structure Tree (P : Addr → Prop) (G H : Hp) (N : Addr → Prop) (k : Nat) (v : V) (d : D) : Prop where
  n : ∀ a, N a → P a ∧ G a = none ∧ H a ≠ none
  r : ∃ L : Lab, (∀ a p, L a = some p → N a) ∧ OwnR L G H k [] v d

section
variable {P P' : Addr → Prop} {bs : Bs} {G H G' H' : Hp} {σ : L2.St} {env env' : DEnv} {N : Addr → Prop} {k : Nat}

theorem Rep.fz (r : Rep P bs G H σ env) (i : Nat) (d : D) (h : env[i]? = some (some (SV.fz d))) : ∃ v : V, σ[i]? = some (some v) ∧ Rp G v d := by
  obtain ⟨L, _, r⟩ := r.rep
  exact r i _ h
/-- a list of one's own, one level deep -/
theorem Rep.ow1 (r : Rep P bs G H σ env) {i : Nat} {io : Bool} {ds : List D} (h : env[i]? = some (some (SV.ow io 0 (.list ds)))) :
    ∃ a vs, σ[i]? = some (some (V.ref a)) ∧ H a = some (.lst vs) ∧ G a = none ∧ P a ∧ RpAll G vs ds ∧ (io = true → a = bs i) := by
  obtain ⟨L, hL, r⟩ := r.rep
  obtain ⟨v, hv, hr, hio⟩ := r i _ h
  unfold OwnR at hr
  obtain ⟨a, vs, rfl, ha, hl, hn, hr⟩ := hr
  exact ⟨a, vs, hv, ha, (hL a _ hl).2, (hL a _ hl).1, RpAll.of_get hn fun j w e hw he => by have := hr j w e hw he; unfold OwnR at this; exact this, fun z => by have := hio z; cases this; rfl⟩
/-- .. of any depth -/
theorem Rep.own (r : Rep P bs G H σ env) {i : Nat} {io : Bool} {k : Nat} {d : D} (h : env[i]? = some (some (SV.ow io k d))) :
    ∃ v, σ[i]? = some (some v) ∧ Rp H v d ∧ (io = true → v = .ref (bs i)) := by
  obtain ⟨L, hL, r'⟩ := r.rep
  obtain ⟨v, hv, hr, hio⟩ := r' i _ h
  exact ⟨v, hv, hr.rp r.sub, hio⟩
theorem Pu.gr (p : Pu G H G' H') (f : ∀ p, H p = none → P p) : Gr P G H G' H' :=
  ⟨p.g, fun a o h _ => p.h a o h, fun a h n => p.n a (fun z => h (f a z)) n⟩
theorem own_there {L : Lab} {G H : Hp} : ∀ {k : Nat} {p q : List Nat} {v : V} {d : D} {a : Addr}, OwnR L G H k p v d → True := fun _ => trivial

/-- what stands stays, what is one's own too -/
theorem Rep.keep (r : Rep P bs G H σ env) (g : Ex G G') (s : Ex G' H') (f : ∀ p, H' p = none → P' p) (hk : ∀ a, P a → G a = none → H a ≠ none → P' a ∧ G' a = none ∧ ∀ o, H a = some o → H' a = some o) : Rep P' bs G' H' σ env := by
  obtain ⟨L, hL, hr⟩ := r.rep
  refine ⟨r.len, s, f, fun a => if H a = none then none else L a, fun a p h => ?_, fun i sv h => ?_⟩
  · by_cases ha : H a = none
    · simp [ha] at h
    · simp [ha] at h
      obtain ⟨h1, h2⟩ := hL a p h
      obtain ⟨h3, h4, _⟩ := hk a h1 h2 ha
      exact ⟨h3, h4⟩
  · obtain ⟨v, hv, hs⟩ := hr i sv h
    refine ⟨v, hv, ?_⟩
    cases sv with
    | fz d => exact Rp.mono g hs
    | ow io k d =>
      refine ⟨?_, hs.2⟩
      have aux : ∀ (k : Nat) {p : List Nat} {v : V} {d : D}, OwnR L G H k p v d → OwnR (fun a => if H a = none then none else L a) G H k p v d := by
        intro k
        induction k with
        | zero => intro p v d h; exact h
        | succ k ih =>
          intro p v d h
          cases d with
          | list ds =>
            unfold OwnR at h ⊢
            obtain ⟨a, vs, rfl, ha, hl, hn, h⟩ := h
            exact ⟨a, vs, rfl, ha, by simp [ha, hl], hn, fun j w e hw he => ih (h j w e hw he)⟩
          | dict kvs =>
            cases k with
            | zero =>
              obtain ⟨a, rfl, hl, h⟩ := h
              refine ⟨a, rfl, ?_, h⟩
              have : H a ≠ none := by
                rcases h with ⟨_, _, _, e, _⟩ | ⟨_, _, _, e, _⟩ <;> exact some_ne e
              simp [this, hl]
            | succ k => unfold OwnR at h; exact h.elim
          | _ => unfold OwnR at h; exact h.elim
      refine (aux _ hs.1).keep g _ fun a q hq => ?_
      have ha : H a ≠ none := by
        intro z
        simp [z] at hq
      simp [ha] at hq
      obtain ⟨h1, h2⟩ := hL a _ hq
      exact ⟨by simp [ha, hq], (hk a h1 h2 ha).2.2⟩
theorem Rep.pu (r : Rep P bs G H σ env) (p : Pu G H G' H') : Rep P bs G' H' σ env :=
  r.keep p.g p.s (fun a h => r.fresh a (fresh_back p.h h)) fun a h1 h2 h3 => ⟨h1, p.n a h3 h2, fun o e => p.h a o e⟩
theorem Rep.wkP (r : Rep P bs G H σ env) (w : ∀ a, P a → P' a) : Rep P' bs G H σ env :=
  r.keep (Ex.refl G) r.sub (fun p h => w p (r.fresh p h)) fun a h1 h2 _ => ⟨w a h1, h2, fun _ e => e⟩
/-- an object that no name speaks of changes -/
theorem Rep.updH (r : Rep P bs G H σ env) {p : Addr} {o : HO} (hp : ¬ P p) (hg : G p = none) : Rep P bs G (upd H p o) σ env := by
  refine r.keep (Ex.refl G) (r.sub.mut hg) (fun a h => ?_) fun a h1 h2 _ => ⟨h1, h2, fun u e => ?_⟩
  · by_cases ha : a = p
    · subst ha
      rw [upd_same] at h
      cases h
    · rw [upd_ne ha] at h
      exact r.fresh a h
  · rw [upd_ne (show a ≠ p from fun z => hp (z ▸ h1))]
    exact e
/-- a new object that no name speaks of -/
theorem Rep.newH (r : Rep P bs G H σ env) {p : Addr} {o : HO} (hp : H p = none) : Rep (fun a => P a ∧ a ≠ p) bs G (upd H p o) σ env := by
  refine r.keep (Ex.refl G) (r.sub.trans (Ex.new hp)) (fun a h => ?_) fun a h1 h2 h3 => ⟨⟨h1, fun z => h3 (z ▸ hp)⟩, h2, fun u e => Ex.new hp _ _ e⟩
  by_cases ha : a = p
  · subst ha
    rw [upd_same] at h
    cases h
  · rw [upd_ne ha] at h
    exact ⟨r.fresh a h, ha⟩
/-- a name holds data -/
theorem Rep.set (r : Rep P bs G H σ env) {i : Nat} {v : V} {d : D} (h : Rp G v d) : Rep P bs G H (σ.set i (some v)) (env.set i (some (.fz d))) := by
  obtain ⟨L, hL, hr⟩ := r.rep
  refine ⟨by simpa using r.len, r.sub, r.fresh, L, hL, fun j s hj => ?_⟩
  rcases get_set hj with ⟨rfl, e, hl⟩ | ⟨hne, hj⟩
  · cases e
    exact ⟨v, List.getElem?_set_self (by rw [r.len]; exact hl), h⟩
  · rw [List.getElem?_set_ne (Ne.symm hne)]
    exact hr j s hj
/-- what a name holds is forgotten -/
theorem Rep.sub_env (r : Rep P bs G H σ env) (hl : env'.length = env.length) (h : ∀ (i : Nat) (s : SV), env'[i]? = some (some s) → env[i]? = some (some s)) : Rep P bs G H σ env' := by
  obtain ⟨L, hL, hr⟩ := r.rep
  exact ⟨by rw [hl]; exact r.len, r.sub, r.fresh, L, hL, fun i s e => hr i s (h i s e)⟩
/-- a tree of one's own gets a name -/
theorem Rep.ownNew {v : V} {d : D} (r : Rep (fun a => P a ∧ ¬ N a) bs G H σ env) (t : Tree P G H N (k + 1) v d) (i : Nat) : Rep P bs G H (σ.set i (some v)) (env.set i (some (.ow false k d))) := by
  obtain ⟨L, hL, hr⟩ := r.rep
  obtain ⟨Lt, hLt, ht⟩ := t.r
  refine ⟨by simpa using r.len, r.sub, fun p h => (r.fresh p h).1, fun a => if N a then (Lt a).map (i :: ·) else (match L a with | some (j :: q) => if j = i then none else some (j :: q) | _ => none), fun a p h => ?_, fun j s hj => ?_⟩
  · by_cases ha : N a
    · obtain ⟨h1, h2, _⟩ := t.n a ha
      exact ⟨h1, h2⟩
    · simp only [ha, if_false] at h
      cases w : L a with
      | none => rw [w] at h; cases h
      | some q =>
        obtain ⟨h1, h2⟩ := hL a q w
        exact ⟨h1.1, h2⟩
  · rcases get_set hj with ⟨rfl, e, hl⟩ | ⟨hne, hj⟩
    · cases e
      refine ⟨v, List.getElem?_set_self (by rw [r.len]; exact hl), ht.keep (Ex.refl G) _ fun a q hq => ?_, fun z => by cases z⟩
      have ha := hLt a _ hq
      rw [List.nil_append] at hq
      exact ⟨by simp [ha, hq], fun _ e => e⟩
    · rw [List.getElem?_set_ne (Ne.symm hne)]
      obtain ⟨w, hw, hs⟩ := hr j s hj
      refine ⟨w, hw, ?_⟩
      cases s with
      | fz d => exact hs
      | ow io k' d =>
        refine ⟨hs.1.keep (Ex.refl G) _ fun a q hq => ?_, hs.2⟩
        have hn : ¬ N a := (hL a _ hq).1.2
        refine ⟨?_, fun _ e => e⟩
        simp only [hn, if_false]
        rw [hq]
        simp [hne]
/-- a tree that no name speaks of is known from now on -/
theorem Rep.know {v : V} {d : D} (r : Rep (fun a => P a ∧ ¬ N a) bs G H σ env) (t : Tree P G H N k v d) : ∃ G', Ex G G' ∧ Ex G' H ∧ (∀ a, ¬ P a → G a = none → G' a = none) ∧ Rp G' v d ∧ Rep P bs G' H σ env := by
  have hg : Ex G (fun a => if N a then H a else G a) := fun a o e => by
    have : ¬ N a := fun z => by rw [(t.n a z).2.1] at e; cases e
    simp [this, e]
  have hs : Ex (fun a => if N a then H a else G a) H := fun a o e => by
    by_cases ha : N a
    · simpa [ha] using e
    · simp only [ha, if_false] at e
      exact r.sub a o e
  refine ⟨fun a => if N a then H a else G a, hg, hs, fun a ha hn => ?_, ?_, ?_⟩
  · have : ¬ N a := fun z => ha (t.n a z).1
    simp [this, hn]
  · obtain ⟨Lt, hLt, ht⟩ := t.r
    have aux : ∀ (k : Nat) {p : List Nat} {v : V} {d : D}, OwnR Lt G H k p v d → Rp (fun a => if N a then H a else G a) v d := by
      intro k
      induction k with
      | zero => intro p v d h; exact Rp.mono hg h
      | succ k ih =>
        intro p v d h
        cases d with
        | list ds =>
          unfold OwnR at h
          obtain ⟨a, vs, rfl, ha, hl, hn, h⟩ := h
          exact .lst (by simp [hLt a _ hl, ha]) (RpAll.of_get hn fun j w e hw he => ih (h j w e hw he))
        | dict kvs =>
          cases k with
          | zero =>
            obtain ⟨a, rfl, hl, h⟩ := h
            rcases h with ⟨ks, xs, ds, e1, e2, e3, rfl⟩ | ⟨ks, xs, ds, e1, e2, e3, rfl⟩
            · exact .dK (by simp [hLt a _ hl, e1]) e2 (e3.mono hg)
            · exact .dT (by simp [hLt a _ hl, e1]) e2 (e3.mono hg)
          | succ k => unfold OwnR at h; exact h.elim
        | _ => unfold OwnR at h; exact h.elim
    exact aux k ht
  · refine r.keep hg hs (fun p h => (r.fresh p h).1) fun a h1 h2 h3 => ⟨h1.1, ?_, fun _ e => e⟩
    simp [h1.2, h2]
/-- what is one's own is left alone by who changes nothing of it -/
theorem Tree.keep {v : V} {d : D} (t : Tree P G H N k v d) (g : Gr (fun a => P a ∧ ¬ N a) G H G' H') : Tree P G' H' N k v d := by
  obtain ⟨Lt, hLt, ht⟩ := t.r
  have stay : ∀ a, N a → ∀ o, H a = some o → H' a = some o := fun a ha o e => g.h a o e fun z => z.2 ha
  refine ⟨fun a ha => ?_, Lt, hLt, ht.keep g.g _ fun a q hq => ⟨hq, stay a (hLt a _ hq)⟩⟩
  obtain ⟨h1, h2, h3⟩ := t.n a ha
  refine ⟨h1, g.n a (fun z => z.2 ha) h2, ?_⟩
  cases w : H a with
  | none => exact absurd w h3
  | some o => rw [stay a ha o w]; exact fun z => nomatch z
theorem Tree.wk {v : V} {d : D} (t : Tree P G H N k v d) (w : ∀ a, P a → P' a) : Tree P' G H N k v d := ⟨fun a ha => ⟨w a (t.n a ha).1, (t.n a ha).2⟩, t.r⟩
/-- a new list of data -/
theorem Tree.one {p : Addr} {vs : List V} {ds : List D} (hP : P p) (hg : G p = none) (hh : H p = some (.lst vs)) (ra : RpAll G vs ds) : Tree P G H (fun a => a = p) 1 (.ref p) (.list ds) := by
  refine ⟨fun a e => by subst e; exact ⟨hP, hg, some_ne hh⟩, fun a => if a = p then some [] else none, fun a q h => ?_, ?_⟩
  · by_cases ha : a = p
    · exact ha
    · simp [ha] at h
  · unfold OwnR
    refine ⟨p, vs, rfl, hh, by simp, ra.length, fun j w e hw he => ?_⟩
    unfold OwnR
    obtain ⟨w', h1, h2⟩ := ra.get he
    rw [hw] at h1
    cases h1
    exact h2
end
end Dn

/-! V2: one's own taken out and put back, known from now on, changed; seen by who changes nothing. -/
namespace Dn
open PySem PySem.Spec PyProof.Rows L2
open Evl (Ex fresh_back)
open Classical

section
variable {P P' : Addr → Prop} {bs : Bs} {G H G' H' : Hp} {σ : L2.St} {env env' : DEnv} {N N' : Addr → Prop} {k : Nat}

/-- one's own is taken out of the names -/
theorem Rep.take (r : Rep P bs G H σ env) {i : Nat} {io : Bool} {d : D} (hi : env[i]? = some (some (SV.ow io k d))) :
    ∃ (N : Addr → Prop) (v : V), σ[i]? = some (some v) ∧ Tree P G H N (k + 1) v d ∧ Rep (fun a => P a ∧ ¬ N a) bs G H σ (env.set i none) ∧ (io = true → v = .ref (bs i)) := by
  obtain ⟨L, hL, hr⟩ := r.rep
  obtain ⟨v, hv, hs, hio⟩ := hr i _ hi
  refine ⟨fun a => H a ≠ none ∧ ∃ q, L a = some (i :: q), v, hv, ⟨fun a ⟨h, q, hq⟩ => ⟨(hL a _ hq).1, (hL a _ hq).2, h⟩, fun a => if H a = none then none else (match L a with | some (j :: q) => if j = i then some q else none | _ => none), fun a p h => ?_, ?_⟩, ?_, hio⟩
  · by_cases ha : H a = none
    · simp [ha] at h
    · simp only [ha, if_false] at h
      refine ⟨ha, ?_⟩
      split at h
      · rename_i j q w
        split at h
        · rename_i e
          exact ⟨q, by rw [w, e]⟩
        · cases h
      · cases h
  · have aux : ∀ (k : Nat) {p : List Nat} {v : V} {d : D}, OwnR L G H k (i :: p) v d → OwnR (fun a => if H a = none then none else (match L a with | some (j :: q) => if j = i then some q else none | _ => none)) G H k p v d := by
      intro k
      induction k with
      | zero => intro p v d h; exact h
      | succ k ih =>
        intro p v d h
        cases d with
        | list ds =>
          unfold OwnR at h ⊢
          obtain ⟨a, vs, rfl, ha, hl, hn, h⟩ := h
          exact ⟨a, vs, rfl, ha, by simp [ha, hl], hn, fun j w e hw he => ih (h j w e hw he)⟩
        | dict kvs =>
          cases k with
          | zero =>
            obtain ⟨a, rfl, hl, h⟩ := h
            refine ⟨a, rfl, ?_, h⟩
            have : H a ≠ none := by
              rcases h with ⟨_, _, _, e, _⟩ | ⟨_, _, _, e, _⟩ <;> exact some_ne e
            simp [this, hl]
          | succ k => unfold OwnR at h; exact h.elim
        | _ => unfold OwnR at h; exact h.elim
    exact aux (k + 1) hs
  · refine ⟨by simpa using r.len, r.sub, fun p h => ⟨r.fresh p h, fun z => z.1 h⟩, fun a => (match L a with | some (j :: q) => if j = i then none else some (j :: q) | _ => none), fun a p h => ?_, fun j s hj => ?_⟩
    · simp only [] at h
      split at h
      · rename_i j q w
        split at h
        · cases h
        · rename_i e
          refine ⟨⟨(hL a _ w).1, fun z => ?_⟩, (hL a _ w).2⟩
          obtain ⟨_, q', hq'⟩ := z
          rw [w] at hq'
          cases hq'
          exact e rfl
      · cases h
    · rcases get_set hj with ⟨_, e, _⟩ | ⟨hne, hj⟩
      · cases e
      · obtain ⟨w, hw, hs'⟩ := hr j s hj
        refine ⟨w, hw, ?_⟩
        cases s with
        | fz d => exact hs'
        | ow io' k' d' => exact ⟨hs'.1.keep (Ex.refl G) _ fun a q hq => ⟨by rw [hq]; simp [hne], fun _ e => e⟩, hs'.2⟩
/-- .. and put back, at the name that holds it -/
theorem Rep.put {v : V} {d : D} (r : Rep (fun a => P a ∧ ¬ N a) bs G H σ env) (t : Tree P G H N (k + 1) v d) {i : Nat} {io : Bool} (hv : σ[i]? = some (some v)) (hio : io = true → v = .ref (bs i)) : Rep P bs G H σ (env.set i (some (.ow io k d))) := by
  obtain ⟨L, hL, hr⟩ := r.rep
  obtain ⟨Lt, hLt, ht⟩ := t.r
  refine ⟨by simpa using r.len, r.sub, fun p h => (r.fresh p h).1, fun a => if N a then (Lt a).map (i :: ·) else (match L a with | some (j :: q) => if j = i then none else some (j :: q) | _ => none), fun a p h => ?_, fun j s hj => ?_⟩
  · by_cases ha : N a
    · obtain ⟨h1, h2, _⟩ := t.n a ha
      exact ⟨h1, h2⟩
    · simp only [ha, if_false] at h
      cases w : L a with
      | none => rw [w] at h; cases h
      | some q =>
        obtain ⟨h1, h2⟩ := hL a q w
        exact ⟨h1.1, h2⟩
  · rcases get_set hj with ⟨rfl, e, hl⟩ | ⟨hne, hj⟩
    · cases e
      refine ⟨v, hv, ht.keep (Ex.refl G) _ fun a q hq => ?_, hio⟩
      have ha := hLt a _ hq
      rw [List.nil_append] at hq
      exact ⟨by simp [ha, hq], fun _ e => e⟩
    · obtain ⟨w, hw, hs⟩ := hr j s hj
      refine ⟨w, hw, ?_⟩
      cases s with
      | fz d => exact hs
      | ow io k' d =>
        refine ⟨hs.1.keep (Ex.refl G) _ fun a q hq => ?_, hs.2⟩
        have hn : ¬ N a := (hL a _ hq).1.2
        refine ⟨?_, fun _ e => e⟩
        simp only [hn, if_false]
        rw [hq]
        simp [hne]
theorem set_set_env {e : DEnv} {i : Nat} {x y : Option SV} : (e.set i x).set i y = e.set i y := by simp
/-- one's own is known from now on -/
theorem Rep.ownKnow (r : Rep P bs G H σ env) {i : Nat} {io : Bool} {d : D} (hi : env[i]? = some (some (SV.ow io k d))) :
    ∃ G', Ex G G' ∧ Ex G' H ∧ (∀ a, ¬ P a → G a = none → G' a = none) ∧ Rep P bs G' H σ (env.set i (some (.fz d))) := by
  obtain ⟨N, v, hv, t, r', _⟩ := r.take hi
  obtain ⟨G', g, s, n, rv, r2⟩ := r'.know t
  refine ⟨G', g, s, n, ?_⟩
  have := r2.set (i := i) rv
  rw [set_set_env] at this
  have e : σ.set i (some v) = σ := by
    refine List.ext_getElem? fun j => ?_
    by_cases hj : i = j
    · subst hj
      have hl : i < σ.length := (List.getElem?_eq_some_iff.mp hv).1
      rw [List.getElem?_set_self hl, hv]
    · rw [List.getElem?_set_ne hj]
  rwa [e] at this
/-- seen by who changes nothing: all of the heap is known -/
def lendSV : SV → SV
  | .fz d => .fz d
  | .ow _ _ d => .fz d
def lendE (env : DEnv) : DEnv := env.map (·.map lendSV)
theorem Rep.lend (r : Rep P bs G H σ env) : Rep (fun a => H a = none) bs H H σ (lendE env) := by
  obtain ⟨L, hL, hr⟩ := r.rep
  refine ⟨by unfold lendE; simpa using r.len, Ex.refl H, fun p h => h, fun _ => none, (fun a p h => by cases h), fun i s h => ?_⟩
  unfold lendE at h
  rw [List.getElem?_map] at h
  cases w : env[i]? with
  | none => rw [w] at h; cases h
  | some o =>
    rw [w] at h
    cases o with
    | none => cases h
    | some s' =>
      cases h
      obtain ⟨v, hv, hs⟩ := hr i s' w
      refine ⟨v, hv, ?_⟩
      cases s' with
      | fz d => exact Rp.mono r.sub hs
      | ow io k d => exact OwnR.rp r.sub _ hs.1

/-! ### trees -/
theorem Tree.list1 {v : V} {d : D} (t : Tree P G H N 1 v d) {ds : List D} (hd : d = .list ds) : ∃ a vs, v = .ref a ∧ N a ∧ P a ∧ G a = none ∧ H a = some (.lst vs) ∧ RpAll G vs ds := by
  subst hd
  obtain ⟨L, hL, h⟩ := t.r
  unfold OwnR at h
  obtain ⟨a, vs, rfl, ha, hl, hn, h⟩ := h
  have hN := hL a _ hl
  exact ⟨a, vs, rfl, hN, (t.n a hN).1, (t.n a hN).2.1, ha, RpAll.of_get hn fun j w e hw he => by have := h j w e hw he; unfold OwnR at this; exact this⟩
/-- the list of a tree of one level changes -/
theorem Tree.set1 {a : Addr} {ds : List D} (t : Tree P G H N 1 (.ref a) (.list ds)) {vs : List V} {es : List D} (rv : RpAll G vs es) : Tree P G (upd H a (.lst vs)) N 1 (.ref a) (.list es) := by
  obtain ⟨L, hL, h⟩ := t.r
  unfold OwnR at h
  obtain ⟨a', vs', e, ha, hl, hn, h⟩ := h
  cases e
  refine ⟨fun b hb => ?_, L, hL, ?_⟩
  · obtain ⟨h1, h2, h3⟩ := t.n b hb
    refine ⟨h1, h2, ?_⟩
    by_cases hba : b = a
    · subst hba; rw [upd_same]; exact fun z => nomatch z
    · rw [upd_ne hba]; exact h3
  · unfold OwnR
    refine ⟨a, vs, rfl, upd_same, hl, rv.length, fun j w e hw he => ?_⟩
    unfold OwnR
    obtain ⟨w', h1, h2⟩ := rv.get he
    rw [hw] at h1
    cases h1
    exact h2
/-- the lists of a tree of two levels -/
theorem Tree.list2 {v : V} {d : D} (t : Tree P G H N 2 v d) {ds : List D} (hd : d = .list ds) : ∃ a vs, v = .ref a ∧ N a ∧ P a ∧ G a = none ∧ H a = some (.lst vs) ∧ vs.length = ds.length ∧
    ∀ (j : Nat) (w : V) (es : List D), vs[j]? = some w → ds[j]? = some (.list es) → ∃ b ws, w = .ref b ∧ N b ∧ P b ∧ b ≠ a ∧ G b = none ∧ H b = some (.lst ws) ∧ RpAll G ws es := by
  subst hd
  obtain ⟨L, hL, h⟩ := t.r
  unfold OwnR at h
  obtain ⟨a, vs, rfl, ha, hl, hn, h⟩ := h
  have hN := hL a _ hl
  refine ⟨a, vs, rfl, hN, (t.n a hN).1, (t.n a hN).2.1, ha, hn, fun j w es hw he => ?_⟩
  have := h j w _ hw he
  unfold OwnR at this
  obtain ⟨b, ws, rfl, hb, hbl, hbn, hbr⟩ := this
  have hNb := hL b _ hbl
  refine ⟨b, ws, rfl, hNb, (t.n b hNb).1, fun z => ?_, (t.n b hNb).2.1, hb, RpAll.of_get hbn fun i w e hw he => by have := hbr i w e hw he; unfold OwnR at this; exact this⟩
  subst z
  rw [hl] at hbl
  simp at hbl
/-- an inner list of a tree of two levels changes -/
theorem Tree.set2 {a b : Addr} {vs : List V} {ds es : List D} {j : Nat} {ws : List V} {es' : List D} (t : Tree P G H N 2 (.ref a) (.list ds)) (ha : H a = some (.lst vs)) (hb : vs[j]? = some (.ref b)) (hd : ds[j]? = some (.list es)) (rv : RpAll G ws es') :
    Tree P G (upd H b (.lst ws)) N 2 (.ref a) (.list (ds.set j (.list es'))) := by
  obtain ⟨L, hL, h⟩ := t.r
  unfold OwnR at h
  obtain ⟨a', vs', e, ha', hl, hn, h⟩ := h
  cases e
  rw [ha] at ha'
  cases ha'
  have hj := h j _ _ hb hd
  unfold OwnR at hj
  obtain ⟨b', ws', e, hb', hbl, hbn, hbr⟩ := hj
  cases e
  have hba : a ≠ b := fun z => by subst z; rw [hl] at hbl; simp at hbl
  refine ⟨fun c hc => ?_, L, hL, ?_⟩
  · obtain ⟨h1, h2, h3⟩ := t.n c hc
    refine ⟨h1, h2, ?_⟩
    by_cases hcb : c = b
    · subst hcb; rw [upd_same]; exact fun z => nomatch z
    · rw [upd_ne hcb]; exact h3
  · unfold OwnR
    refine ⟨a, vs, rfl, by rw [upd_ne hba]; exact ha, hl, by simpa using hn, fun i w e hw he => ?_⟩
    by_cases hij : i = j
    · subst hij
      rw [hb] at hw
      cases hw
      rcases get_set he with ⟨_, e2, _⟩ | ⟨hne, _⟩
      · subst e2
        unfold OwnR
        refine ⟨b, ws, rfl, upd_same, hbl, rv.length, fun m x y hx hy => ?_⟩
        unfold OwnR
        obtain ⟨x', h1, h2⟩ := rv.get hy
        rw [hx] at h1
        cases h1
        exact h2
      · exact absurd rfl hne
    · rw [List.getElem?_set_ne (Ne.symm hij)] at he
      refine (h i w e hw he).keep (Ex.refl G) _ fun c q hc => ⟨hc, fun o ho => ?_⟩
      rw [upd_ne]
      · exact ho
      · intro z
        subst z
        rw [hbl] at hc
        simp at hc
        exact hij hc.1.symm
/-- an inner list of a tree of two levels is another one from now on -/
theorem Tree.put2 {a : Addr} {w : V} {vs : List V} {ds : List D} {j : Nat} {d' : D} (t : Tree P G H N 2 (.ref a) (.list ds)) (t' : Tree P G H N' 1 w d') (dis : ∀ c, N c → ¬ N' c) (ha : H a = some (.lst vs)) (hj : j < ds.length) :
    Tree P G (upd H a (.lst (vs.set j w))) (fun c => N c ∨ N' c) 2 (.ref a) (.list (ds.set j d')) := by
  obtain ⟨L, hL, h⟩ := t.r
  obtain ⟨L', hL', h'⟩ := t'.r
  unfold OwnR at h
  obtain ⟨a', vs', e, ha', hl, hn, h⟩ := h
  cases e
  rw [ha] at ha'
  cases ha'
  have hNa := hL a _ hl
  refine ⟨fun c hc => ?_, fun c => if N' c then (L' c).map ([j] ++ ·) else (match L c with | some (m :: q) => if m = j then none else some (m :: q) | some [] => some [] | none => none), fun c p hc => ?_, ?_⟩
  · have h3 : P c ∧ G c = none ∧ H c ≠ none := hc.elim (t.n c) (t'.n c)
    refine ⟨h3.1, h3.2.1, ?_⟩
    by_cases hca : c = a
    · subst hca; rw [upd_same]; exact fun z => nomatch z
    · rw [upd_ne hca]; exact h3.2.2
  · by_cases hc' : N' c
    · exact .inr hc'
    · simp only [hc', if_false] at hc
      cases wl : L c with
      | none => rw [wl] at hc; cases hc
      | some q => exact .inl (hL c _ wl)
  · unfold OwnR
    refine ⟨a, vs.set j w, rfl, upd_same, ?_, by simpa using hn, fun i x e hx he => ?_⟩
    · have := dis a hNa
      simp [this, hl]
    · by_cases hij : i = j
      · subst hij
        rcases get_set hx with ⟨_, e1, _⟩ | ⟨hne, _⟩
        · rcases get_set he with ⟨_, e2, _⟩ | ⟨hne, _⟩
          · subst e1 e2
            refine h'.keep (Ex.refl G) _ fun c q hc => ?_
            have hc' := hL' c _ hc
            rw [List.nil_append] at hc
            refine ⟨by simp [hc', hc], fun o ho => ?_⟩
            rw [upd_ne (show c ≠ a from fun z => dis a hNa (by rw [← z]; exact hc'))]
            exact ho
          · exact absurd rfl hne
        · exact absurd rfl hne
      · rw [List.getElem?_set_ne (Ne.symm hij)] at he hx
        refine (h i x e hx he).keep (Ex.refl G) _ fun c q hc => ?_
        have hNc := hL c _ hc
        have hc' : ¬ N' c := dis c hNc
        refine ⟨?_, fun o ho => ?_⟩
        · simp only [hc', if_false]
          rw [hc]
          simp [hij]
        · rw [upd_ne]
          · exact ho
          · intro z
            subst z
            rw [hl] at hc
            simp at hc
/-- a list of lists of one's own, all new -/
theorem Tree.nil2 {a : Addr} (hP : P a) (hg : G a = none) (hh : H a = some (.lst [])) : Tree P G H (fun c => c = a) 2 (.ref a) (.list []) := by
  refine ⟨fun c e => by subst e; exact ⟨hP, hg, some_ne hh⟩, fun c => if c = a then some [] else none, fun c q h => ?_, ?_⟩
  · by_cases hc : c = a
    · exact hc
    · simp [hc] at h
  · unfold OwnR
    exact ⟨a, [], rfl, hh, by simp, rfl, fun j w e hw he => by simp at hw⟩
theorem Tree.app2 {a : Addr} {w : V} {vs : List V} {ds : List D} {d' : D} (t : Tree P G H N 2 (.ref a) (.list ds)) (t' : Tree P G H N' 1 w d') (dis : ∀ c, N c → ¬ N' c) (ha : H a = some (.lst vs)) :
    Tree P G (upd H a (.lst (vs ++ [w]))) (fun c => N c ∨ N' c) 2 (.ref a) (.list (ds ++ [d'])) := by
  obtain ⟨L, hL, h⟩ := t.r
  obtain ⟨L', hL', h'⟩ := t'.r
  unfold OwnR at h
  obtain ⟨a', vs', e, ha', hl, hn, h⟩ := h
  cases e
  rw [ha] at ha'
  cases ha'
  have hNa := hL a _ hl
  refine ⟨fun c hc => ?_, fun c => if N' c then (L' c).map ([ds.length] ++ ·) else L c, fun c p hc => ?_, ?_⟩
  · have h3 : P c ∧ G c = none ∧ H c ≠ none := hc.elim (t.n c) (t'.n c)
    refine ⟨h3.1, h3.2.1, ?_⟩
    by_cases hca : c = a
    · subst hca; rw [upd_same]; exact fun z => nomatch z
    · rw [upd_ne hca]; exact h3.2.2
  · by_cases hc' : N' c
    · exact .inr hc'
    · simp only [hc', if_false] at hc
      exact .inl (hL c _ hc)
  · unfold OwnR
    refine ⟨a, vs ++ [w], rfl, upd_same, ?_, by simp [hn], fun i x e hx he => ?_⟩
    · have := dis a hNa
      simp [this, hl]
    · by_cases hi : i < ds.length
      · rw [List.getElem?_append_left (by omega)] at hx
        rw [List.getElem?_append_left hi] at he
        refine (h i x e hx he).keep (Ex.refl G) _ fun c q hc => ?_
        have hNc := hL c _ hc
        have hc' : ¬ N' c := dis c hNc
        refine ⟨?_, fun o ho => ?_⟩
        · simp only [hc', if_false]
          exact hc
        · rw [upd_ne]
          · exact ho
          · intro z
            subst z
            rw [hl] at hc
            simp at hc
      · have hi' : i = ds.length := by
          have := (List.getElem?_eq_some_iff.mp he).1
          simp at this
          omega
        subst hi'
        rw [List.getElem?_append_right (by omega)] at hx he
        rw [hn] at hx
        simp at hx he
        subst hx he
        refine h'.keep (Ex.refl G) _ fun c q hc => ?_
        have hc' := hL' c _ hc
        rw [List.nil_append] at hc ⊢
        refine ⟨by simp [hc', hc], fun o ho => ?_⟩
        rw [upd_ne (show c ≠ a from fun z => dis a hNa (by rw [← z]; exact hc'))]
        exact ho
end
end Dn

/-! V3: expressions over data. -/
namespace Dn
open PySem PySem.Spec PyProof.Rows L2
open Evl (Ex fresh_back)

abbrev Mo (α : Type) := DEnv → Option (α × DEnv)
def mRet {α : Type} (a : α) : Mo α := fun env => some (a, env)
def mBind {α β : Type} (m : Mo α) (f : α → Mo β) : Mo β := fun env =>
  match m env with
  | some (a, e1) => f a e1
  | none => none
def mLift {α : Type} (o : Option α) : Mo α := fun env =>
  match o with
  | some a => some (a, env)
  | none => none
def mVar (i : Nat) : Mo D := fun env =>
  match env[i]? with
  | some (some (SV.fz d)) => some (d, env)
  | _ => none
theorem mBind_some {α β : Type} {m : Mo α} {f : α → Mo β} {env env' : DEnv} {z : β} (h : mBind m f env = some (z, env')) : ∃ a e1, m env = some (a, e1) ∧ f a e1 = some (z, env') := by
  unfold mBind at h
  cases q : m env with
  | none => rw [q] at h; cases h
  | some p => rw [q] at h; exact ⟨p.1, p.2, rfl, h⟩
theorem mLift_some {α : Type} {o : Option α} {env env' : DEnv} {z : α} (h : mLift o env = some (z, env')) : o = some z ∧ env' = env := by
  unfold mLift at h
  cases q : o with
  | none => rw [q] at h; cases h
  | some a => rw [q] at h; cases h; exact ⟨rfl, rfl⟩
theorem mRet_some {α : Type} {a : α} {env env' : DEnv} {z : α} (h : mRet a env = some (z, env')) : a = z ∧ env' = env := by
  unfold mRet at h
  cases h
  exact ⟨rfl, rfl⟩

/-- what a piece of syntax is worth over data -/
def DenE (X : Cx) (e : Expr) (F : Mo D) : Prop :=
  ∃ t : TE, PE X e t ∧ ∀ (P : Addr → Prop) (b : Bs) (σ : L2.St) (env : DEnv) (G H : Hp) (d : D) (env' : DEnv), Rep P b G H σ env → F env = some (d, env') →
    ∀ Q : VK, (∀ v G' H', Gr P G H G' H' → Rep P b G' H' σ env' → Rp G' v d → Q v H') → t σ H Q
def DenT (X : Cx) (e : Expr) (F : Mo Bool) : Prop :=
  ∃ t : TT, PT X e t ∧ ∀ (P : Addr → Prop) (b : Bs) (σ : L2.St) (env : DEnv) (G H : Hp) (d : Bool) (env' : DEnv), Rep P b G H σ env → F env = some (d, env') →
    ∀ Q : Bool → Hp → Prop, (∀ G' H', Gr P G H G' H' → Rep P b G' H' σ env' → Q d H') → t σ H Q
/-- and, or whatever their 'whole' is -/
def DenW (X : Cx) (e : Expr) (F : Mo Bool) : Prop :=
  ∃ t : TT, PW X e t ∧ ∀ (P : Addr → Prop) (b : Bs) (σ : L2.St) (env : DEnv) (G H : Hp) (d : Bool) (env' : DEnv), Rep P b G H σ env → F env = some (d, env') →
    ∀ Q : Bool → Hp → Prop, (∀ G' H', Gr P G H G' H' → Rep P b G' H' σ env' → Q d H') → t σ H Q
def DenA (X : Cx) (es : List Expr) (F : Mo (List D)) : Prop :=
  ∃ t : TA, PA X es t ∧ ∀ (P : Addr → Prop) (b : Bs) (σ : L2.St) (env : DEnv) (G H : Hp) (d : List D) (env' : DEnv), Rep P b G H σ env → F env = some (d, env') →
    ∀ Q : List V → Hp → Prop, (∀ v G' H', Gr P G H G' H' → Rep P b G' H' σ env' → RpAll G' v d → Q v H') → t σ H Q
/-- a new thing of one's own, k levels deep -/
def DenN (X : Cx) (e : Expr) (k : Nat) (F : Mo D) : Prop :=
  ∃ t : TE, PE X e t ∧ ∀ (P : Addr → Prop) (b : Bs) (σ : L2.St) (env : DEnv) (G H : Hp) (d : D) (env' : DEnv), Rep P b G H σ env → F env = some (d, env') →
    ∀ Q : VK, (∀ v G' H' N, Gr P G H G' H' → Rep (fun a => P a ∧ ¬ N a) b G' H' σ env' → Tree P G' H' N k v d → Q v H') → t σ H Q
theorem den_frz {X : Cx} {e : Expr} {k : Nat} {F : Mo D} (h : DenN X e k F) : DenE X e F := by
  obtain ⟨t, h1, h2⟩ := h
  refine ⟨t, h1, fun P b σ env G H d env' r h Q q => h2 P b σ env G H d env' r h Q fun v G' H' N g r' t => ?_⟩
  obtain ⟨G2, e1, e2, n, rv, r2⟩ := r'.know t
  exact q v G2 H' ⟨g.g.trans e1, g.h, fun a ha hn => n a ha (g.n a ha hn)⟩ r2 rv
/-- a flat answer, by who changes nothing: all of one's own is seen -/
def mLend (m : Mo D) : Mo D := fun env => match m (lendE env) with | some (d, _) => if flatD d = true then some (d, env) else none | none => none
theorem Rep.ofLend {P : Addr → Prop} {b : Bs} {G H G' H' : Hp} {σ : L2.St} {env : DEnv} (r : Rep P b G H σ env) (g : Gr (fun a => H a = none) H H G' H') (s : Ex G' H') : Gr P G H G H' ∧ Rep P b G H' σ env ∧ Ex H H' := by
  have hx : Ex H H' := g.g.trans s
  have pu : Pu G H G H' := ⟨Ex.refl G, hx, r.sub.trans hx, fun _ _ n => n⟩
  exact ⟨pu.gr r.fresh, r.pu pu, hx⟩
theorem den_lend {X : Cx} {e : Expr} {F : Mo D} (h : DenE X e F) : DenE X e (mLend F) := by
  obtain ⟨t, h1, h2⟩ := h
  refine ⟨t, h1, fun P b σ env G H d env' r h Q q => ?_⟩
  unfold mLend at h
  split at h
  · rename_i d' e1 hd
    split at h
    · rename_i hf
      cases h
      refine h2 _ b σ _ H H d e1 r.lend hd Q fun v G' H' g r' rv => ?_
      obtain ⟨g2, r2, _⟩ := r.ofLend g r'.sub
      exact q v G H' g2 r2 (rv.flat hf)
    · cases h
  · cases h
def mLendT (m : Mo Bool) : Mo Bool := fun env => match m (lendE env) with | some (d, _) => some (d, env) | none => none
theorem dent_lend {X : Cx} {e : Expr} {F : Mo Bool} (h : DenT X e F) : DenT X e (mLendT F) := by
  obtain ⟨t, h1, h2⟩ := h
  refine ⟨t, h1, fun P b σ env G H d env' r h Q q => ?_⟩
  unfold mLendT at h
  split at h
  · rename_i d' e1 hd
    cases h
    refine h2 _ b σ _ H H d e1 r.lend hd Q fun G' H' g r' => ?_
    obtain ⟨g2, r2, _⟩ := r.ofLend g r'.sub
    exact q G H' g2 r2
  · cases h

section
variable {X : Cx} {a b c e : Expr} {pos : Pos}

theorem den_var (i : Nat) {x : Str} (hN : X.N[i]? = some x) (hv : Vis X.env.scope x) (hd : (x == ("__debug__" : Str)) = false := by decide) (hcd : (x == ("__classdict__" : Str)) = false := by decide) : DenE X (.Name x pos) (mVar i) := by
  refine ⟨_, pe_var hN hv hd hcd, fun P b σ env G H d env' r h Q q => ?_⟩
  unfold mVar at h
  split at h
  · rename_i d' he
    cases h
    obtain ⟨v, h1, h2⟩ := r.fz i d he
    exact ⟨v, h1, q v G H Gr.refl r h2⟩
  · cases h
theorem den_const {v : V} {d : D} (h : PE X e (tC v)) (hr : ∀ G : Hp, Rp G v d) : DenE X e (mRet d) := by
  refine ⟨_, h, fun P b σ env G H d env' r h Q q => ?_⟩
  obtain ⟨rfl, rfl⟩ := mRet_some h
  exact q v G H Gr.refl r (hr G)
theorem den_int {i : Int} {j : Nat} : DenE X (.Constant (.int i) j pos) (mRet (.int i)) := den_const pe_int fun _ => .int i
theorem den_bl {i : Bool} {j : Nat} : DenE X (.Constant (.bool i) j pos) (mRet (.bool i)) := den_const pe_bl fun _ => .bl i
theorem den_non {j : Nat} : DenE X (.Constant .none j pos) (mRet .none) := den_const pe_non fun _ => .non
theorem den_str {x : Str} {j : Nat} : DenE X (.Constant (.str x) j pos) (mRet (.str x)) := den_const pe_str fun _ => .str x

/-! ### two-place operations -/
def OpD (X : Cx) (f : Value → Value → Sem Value) (g : D → D → Option D) : Prop :=
  ∃ r : R2, OpR X f r ∧ ∀ (G H : Hp) (x y : V) (d e z : D), Ex G H → Rp G x d → Rp G y e → g d e = some z → ∀ Q : VK, (∀ v G' H', Pu G H G' H' → Rp G' v z → Q v H') → r x y H Q
theorem OpD.or {f : Value → Value → Sem Value} {g g' : D → D → Option D} (h : OpD X f g) (h' : OpD X f g') : OpD X f (fun d e => match g d e with | some z => some z | none => g' d e) := by
  obtain ⟨r, h1, h2⟩ := h
  obtain ⟨r', h1', h2'⟩ := h'
  refine ⟨_, h1.or h1', fun G H x y d e z s rx ry hg Q q => ?_⟩
  cases k : g d e with
  | some w =>
    simp only [k] at hg
    cases hg
    exact .inl (h2 G H x y d e z s rx ry k Q q)
  | none =>
    simp only [k] at hg
    exact .inr (h2' G H x y d e z s rx ry hg Q q)
def mBin (g : D → D → Option D) (m n : Mo D) : Mo D := mBind m fun x => mBind n fun y => mLift (g x y)
/-- the second operand read -/
theorem two {t u : TE} {F F' : Mo D} (h1 : ∀ (P : Addr → Prop) (b : Bs) (σ : L2.St) (env : DEnv) (G H : Hp) (d : D) (env' : DEnv), Rep P b G H σ env → F env = some (d, env') →
    ∀ Q : VK, (∀ v G' H', Gr P G H G' H' → Rep P b G' H' σ env' → Rp G' v d → Q v H') → t σ H Q)
    (h2 : ∀ (P : Addr → Prop) (b : Bs) (σ : L2.St) (env : DEnv) (G H : Hp) (d : D) (env' : DEnv), Rep P b G H σ env → F' env = some (d, env') →
    ∀ Q : VK, (∀ v G' H', Gr P G H G' H' → Rep P b G' H' σ env' → Rp G' v d → Q v H') → u σ H Q)
    {P : Addr → Prop} {b : Bs} {σ : L2.St} {env e1 e2 : DEnv} {G H : Hp} {x y : D} (r : Rep P b G H σ env) (hx : F env = some (x, e1)) (hy : F' e1 = some (y, e2)) {R : V → V → Hp → Prop}
    (q : ∀ v w G' H', Gr P G H G' H' → Rep P b G' H' σ e2 → Rp G' v x → Rp G' w y → R v w H') : t σ H fun v H1 => u σ H1 fun w H2 => R v w H2 :=
  h1 P b σ env G H x e1 r hx _ fun v G1 H1 g1 r1 p1 => h2 P b σ e1 G1 H1 y e2 r1 hy _ fun w G2 H2 g2 r2 p2 => q v w G2 H2 (g1.trans g2) r2 (p1.mono g2.g) p2
theorem den_bin {op : Operator} {g : D → D → Option D} {F F' : Mo D} (ho : OpD X (binaryOp op) g) (ha : DenE X a F) (hb : DenE X b F') : DenE X (.BinOp a op b pos) (mBin g F F') := by
  obtain ⟨t, h1, h2⟩ := ha
  obtain ⟨u, k1, k2⟩ := hb
  obtain ⟨r, o1, o2⟩ := ho
  refine ⟨_, pe_op o1 h1 k1, fun P b σ env G H d env' rr h Q q => ?_⟩
  obtain ⟨x, e1, hx, h⟩ := mBind_some h
  obtain ⟨y, e2, hy, h⟩ := mBind_some h
  obtain ⟨hg, rfl⟩ := mLift_some h
  exact two h2 k2 rr hx hy fun v w G' H' g r' p1 p2 => o2 G' H' v w x y d r'.sub p1 p2 hg Q fun z G2 H2 pu pz => q z G2 H2 (g.trans (pu.gr r'.fresh)) (r'.pu pu) pz
def gInt (f : Int → Int → Option Int) : D → D → Option D
  | .int i, .int j => (f i j).map .int
  | _, _ => none
theorem opD_int {f : Value → Value → Sem Value} {C : Int → Int → Prop} {k : Int → Int → Int} {g : Int → Int → Option Int} (h : OpR X f (rI C fun i j => .int (k i j))) (hc : ∀ i j z, g i j = some z → C i j ∧ z = k i j) : OpD X f (gInt g) := by
  refine ⟨_, h, fun G H x y d e z s rx ry hg Q q => ?_⟩
  unfold gInt at hg
  split at hg
  · rename_i i j
    cases w : g i j with
    | none => rw [w] at hg; cases hg
    | some u =>
      rw [w] at hg
      cases hg
      obtain ⟨h1, rfl⟩ := hc i j u w
      rw [rx.inv_int, ry.inv_int]
      exact ⟨i, j, rfl, rfl, h1, q _ G H (Pu.refl s) (.int _)⟩
  · cases hg
theorem opD_int0 {f : Value → Value → Sem Value} {k : Int → Int → Int} (h : OpR X f (rI0 fun i j => .int (k i j))) : OpD X f (gInt fun i j => some (k i j)) := by
  refine ⟨_, h, fun G H x y d e z s rx ry hg Q q => ?_⟩
  unfold gInt at hg
  split at hg
  · rename_i i j
    cases hg
    rw [rx.inv_int, ry.inv_int]
    exact ⟨i, j, rfl, rfl, q _ G H (Pu.refl s) (.int _)⟩
  · cases hg
/-- lists, tuples put together -/
def gCat : D → D → Option D
  | .list xs, .list ys => if xs.length + ys.length ≤ 100000 then some (.list (xs ++ ys)) else none
  | _, _ => none
def gCatT : D → D → Option D
  | .tuple xs, .tuple ys => if xs.length + ys.length ≤ 100000 then some (.tuple (xs ++ ys)) else none
  | _, _ => none
theorem line_of {n : Nat} (h : n ≤ 100000) : n ≤ sizeLine := Nat.le_trans h (by decide)
theorem line_lt {n : Nat} (h : n < 100000) : n < sizeLine := Nat.lt_of_lt_of_le h (by decide)
/-- a new object, known -/
theorem fin_new {G H : Hp} {Q : VK} {z : D} {o : HO} (s : Ex G H) (q : ∀ v G' H', Pu G H G' H' → Rp G' v z → Q v H') {p : Addr} (hp : H p = none) (hz : Ex G (upd G p o) → Rp (upd G p o) (.ref p) z) : Q (.ref p) (upd H p o) :=
  q _ _ _ (Pu.new s hp) (hz (Ex.new (fresh_back s hp)))
theorem opD_cat : OpD X (binaryOp .Add) gCat := by
  refine ⟨_, op_cat, fun G H x y d e z s rx ry hg Q q => ?_⟩
  unfold gCat at hg
  split at hg
  · rename_i xs ys
    split at hg
    · rename_i hl
      cases hg
      obtain ⟨a, vs, rfl, ha, r1⟩ := rx.inv_list
      obtain ⟨c, ws, rfl, hc, r2⟩ := ry.inv_list
      exact ⟨a, c, vs, ws, rfl, rfl, s _ _ ha, s _ _ hc, by rw [r1.length, r2.length]; exact line_of hl, fun p hp => fin_new s q hp fun ex => .lst upd_same ((r1.append r2).mono ex)⟩
    · cases hg
  · cases hg
theorem opD_catT : OpD X (binaryOp .Add) gCatT := by
  refine ⟨_, op_catA, fun G H x y d e z s rx ry hg Q q => ?_⟩
  unfold gCatT at hg
  split at hg
  · rename_i xs ys
    split at hg
    · rename_i hl
      cases hg
      obtain ⟨a, vs, rfl, ha, r1⟩ := rx.inv_tup
      obtain ⟨c, ws, rfl, hc, r2⟩ := ry.inv_tup
      refine ⟨a, c, vs, ws, rfl, rfl, .of (s _ _ ha), .of (s _ _ hc), by rw [r1.length, r2.length]; exact line_of hl, fun hv => ?_, fun hv hw => ?_, fun hv hw p hp => fin_new s q hp fun ex => .tup upd_same ((r1.append r2).mono ex)⟩
      · subst hv
        cases r1
        exact q _ G H (Pu.refl s) (.tup hc r2)
      · subst hw
        cases r2
        refine q _ G H (Pu.refl s) ?_
        rw [List.append_nil]
        exact .tup ha r1
    · cases hg
  · cases hg
/-- xs * k -/
def gRep : D → D → Option D
  | .list xs, .int k => if k ≤ 1000 ∧ -1000 ≤ k ∧ xs.length ≤ 1000 then some (.list (List.replicate k.toNat xs).flatten) else none
  | _, _ => none
theorem RpAll.rep {G : Hp} {vs : List V} {ds : List D} (h : RpAll G vs ds) : ∀ k : Nat, RpAll G (List.replicate k vs).flatten (List.replicate k ds).flatten
  | 0 => .nil
  | k + 1 => by
    rw [List.replicate_succ, List.replicate_succ, List.flatten_cons, List.flatten_cons]
    exact h.append (RpAll.rep h k)
theorem opD_rep : OpD X (binaryOp .Mult) gRep := by
  refine ⟨_, op_rep, fun G H x y d e z s rx ry hg Q q => ?_⟩
  unfold gRep at hg
  split at hg
  · rename_i xs k
    split at hg
    · rename_i hl
      cases hg
      obtain ⟨a, vs, rfl, ha, r1⟩ := rx.inv_list
      rw [ry.inv_int]
      refine ⟨a, k, vs, rfl, rfl, s _ _ ha, by omega, by omega, ?_, fun p hp => fin_new s q hp fun ex => .lst upd_same ((r1.rep _).mono ex)⟩
      rw [r1.length]
      exact Nat.le_trans (Nat.mul_le_mul hl.2.2 (show k.toNat ≤ 1000 by omega)) (by decide)
    · cases hg
  · cases hg
/-- + of ints, lists, tuples; * of ints, of a list -/
def gAdd : D → D → Option D := fun d e => match gInt (fun i j => some (i + j)) d e with | some z => some z | none => (match gCat d e with | some z => some z | none => gCatT d e)
theorem opD_add : OpD X (binaryOp .Add) gAdd := (opD_int0 op_add).or (opD_cat.or opD_catT)
def gSub : D → D → Option D := gInt fun i j => some (i - j)
theorem opD_sub : OpD X (binaryOp .Sub) gSub := opD_int0 op_sub
def gMul : D → D → Option D := fun d e => match gInt (fun i j => if -(2 ^ 64) < i ∧ i < 2 ^ 64 then some (i * j) else none) d e with | some z => some z | none => gRep d e
theorem opD_mul : OpD X (binaryOp .Mult) gMul := (opD_int op_mul fun i j z h => by
  split at h
  · rename_i hc; cases h; exact ⟨.inl hc, rfl⟩
  · cases h).or opD_rep
/-- // by a small positive number -/
def gDiv : D → D → Option D := gInt fun i j => if 0 < j ∧ j < 1073741824 then some (i / j) else none
theorem opD_div : OpD X (binaryOp .FloorDiv) gDiv := opD_int op_fdiv fun i j z h => by
  split at h
  · rename_i hc; cases h; exact ⟨hc, rfl⟩
  · cases h
def gMod : D → D → Option D := gInt fun i j => if 0 < j then some (i % j) else none
theorem opD_mod : OpD X (binaryOp .Mod) gMod := opD_int op_mod fun i j z h => by
  split at h
  · rename_i hc; cases h; exact ⟨hc, rfl⟩
  · cases h
def gPow : D → D → Option D := gInt fun i j => if 0 ≤ j ∧ j ≤ 64 ∧ i.natAbs < 2 ^ 64 then some (i ^ j.toNat) else none
theorem opD_pow : OpD X (binaryOp .Pow) gPow := opD_int op_pow fun i j z h => by
  split at h
  · rename_i hc; cases h; exact ⟨⟨hc.1, by omega, hc.2.2⟩, rfl⟩
  · cases h

/-! ### comparisons -/
def gCmp (p : Int → Int → Bool) : D → D → Option D
  | .int i, .int j => some (.bool (p i j))
  | _, _ => none
theorem opD_cmp {f : Value → Value → Sem Value} {p : Int → Int → Bool} (h : OpR X f (rI0 fun i j => .bl (p i j))) : OpD X f (gCmp p) := by
  refine ⟨_, h, fun G H x y d e z s rx ry hg Q q => ?_⟩
  unfold gCmp at hg
  split at hg
  · rename_i i j
    cases hg
    rw [rx.inv_int, ry.inv_int]
    exact ⟨i, j, rfl, rfl, q _ G H (Pu.refl s) (.bl _)⟩
  · cases hg
theorem opD_le : OpD X (compareOp .LtE) (gCmp fun i j => decide (i ≤ j)) := opD_cmp op_le
theorem opD_gt : OpD X (compareOp .Gt) (gCmp fun i j => decide (j < i)) := opD_cmp op_gt
theorem opD_ge : OpD X (compareOp .GtE) (gCmp fun i j => decide (j ≤ i)) := opD_cmp op_ge
/-- == of data -/
def gEq : D → D → Option D := fun d e => if SeqAt.shaped d && SeqAt.shaped e then some (.bool (PyData.eqv d e)) else none
def gNe : D → D → Option D := fun d e => if SeqAt.shaped d && SeqAt.shaped e then some (.bool (!PyData.eqv d e)) else none
theorem opD_eq (hu : X.A.units + 64 < cLine) : OpD X (compareOp .Eq) gEq := by
  refine ⟨_, op_eqD hu, fun G H x y d e z s rx ry hg Q q => ?_⟩
  unfold gEq at hg
  split at hg
  · rename_i hs
    cases hg
    rw [Bool.and_eq_true] at hs
    exact ⟨d, e, rx.dp s (SeqAt.canLay_of_shaped hs.1), ry.dp s (SeqAt.canLay_of_shaped hs.2), hs.1, hs.2, q _ G H (Pu.refl s) (.bl _)⟩
  · cases hg
theorem opD_ne (hu : X.A.units + 64 < cLine) : OpD X (compareOp .NotEq) gNe := by
  refine ⟨_, op_neD hu, fun G H x y d e z s rx ry hg Q q => ?_⟩
  unfold gNe at hg
  split at hg
  · rename_i hs
    cases hg
    rw [Bool.and_eq_true] at hs
    exact ⟨d, e, rx.dp s (SeqAt.canLay_of_shaped hs.1), ry.dp s (SeqAt.canLay_of_shaped hs.2), hs.1, hs.2, q _ G H (Pu.refl s) (.bl _)⟩
  · cases hg
end
end Dn

/-! V4: comparisons, tests, displays, items, slices, calls. -/
namespace Dn
open PySem PySem.Spec PyProof.Rows L2
open Evl (Ex fresh_back)

def gB : D → Option Bool
  | .bool k => some k
  | _ => none
/-- truth -/
def gTru : D → Option Bool
  | .bool k => some k
  | .none => some false
  | .int i => some (i != 0)
  | .list xs => some (!xs.isEmpty)
  | .tuple xs => some (!xs.isEmpty)
  | _ => none
def mMap {α β : Type} (g : α → Option β) (m : Mo α) : Mo β := mBind m fun x => mLift (g x)
def mIf {α : Type} (c : Mo Bool) (m n : Mo α) : Mo α := mBind c fun k => if k = true then m else n
def mAnd (m n : Mo Bool) : Mo Bool := mBind m fun k => if k = true then n else mRet false
def mOr (m n : Mo Bool) : Mo Bool := mBind m fun k => if k = true then mRet true else n
def mNot (m : Mo Bool) : Mo Bool := mBind m fun k => mRet (!k)
def mCons {α : Type} (m : Mo α) (n : Mo (List α)) : Mo (List α) := mBind m fun x => mBind n fun xs => mRet (x :: xs)
theorem gB_some {d : D} {k : Bool} (h : gB d = some k) : d = .bool k := by
  unfold gB at h
  split at h
  · cases h; rfl
  · cases h
theorem mMap_some {α β : Type} {g : α → Option β} {m : Mo α} {env env' : DEnv} {z : β} (h : mMap g m env = some (z, env')) : ∃ a, m env = some (a, env') ∧ g a = some z := by
  obtain ⟨a, e1, h1, h2⟩ := mBind_some h
  obtain ⟨h3, h4⟩ := mLift_some h2
  subst h4
  exact ⟨a, h1, h3⟩
theorem RpAll.isEmpty {G : Hp} {vs : List V} {ds : List D} (r : RpAll G vs ds) : vs.isEmpty = ds.isEmpty := by cases r <;> rfl
section
variable {X : Cx} {a b c e : Expr} {pos : Pos}

theorem den_cmp {op : CmpOp} {g : D → D → Option D} {F F' : Mo D} (ho : OpD X (compareOp op) g) (ha : DenE X a F) (hb : DenE X b F') (hm : behindInMarks op b = false := by first | exact nomark _ | rfl) : DenE X (.Compare a [op] [b] pos) (mBin g F F') := by
  obtain ⟨t, h1, h2⟩ := ha
  obtain ⟨u, k1, k2⟩ := hb
  obtain ⟨r, o1, o2⟩ := ho
  refine ⟨_, pe_cmpR o1 h1 k1 hm, fun P b σ env G H d env' rr h Q q => ?_⟩
  obtain ⟨x, e1, hx, h⟩ := mBind_some h
  obtain ⟨y, e2, hy, h⟩ := mBind_some h
  obtain ⟨hg, rfl⟩ := mLift_some h
  exact two h2 k2 rr hx hy fun v w G' H' g r' p1 p2 => o2 G' H' v w x y d r'.sub p1 p2 hg Q fun z G2 H2 pu pz => q z G2 H2 (g.trans (pu.gr r'.fresh)) (r'.pu pu) pz
/-- the same as a test -/
theorem dent_cmp {op : CmpOp} {g : D → D → Option D} {F F' : Mo D} (ho : OpD X (compareOp op) g) (ha : DenE X a F) (hb : DenE X b F') (hm : behindInMarks op b = false := by first | exact nomark _ | rfl) : DenT X (.Compare a [op] [b] pos) (mMap gB (mBin g F F')) := by
  obtain ⟨t, h1, h2⟩ := ha
  obtain ⟨u, k1, k2⟩ := hb
  obtain ⟨r, o1, o2⟩ := ho
  refine ⟨_, pt_cmpR o1 h1 k1 hm, fun P b σ env G H d env' rr h Q q => ?_⟩
  obtain ⟨z, h, hz⟩ := mMap_some h
  have hz := gB_some hz
  subst hz
  obtain ⟨x, e1, hx, h⟩ := mBind_some h
  obtain ⟨y, e2, hy, h⟩ := mBind_some h
  obtain ⟨hg, rfl⟩ := mLift_some h
  exact two h2 k2 rr hx hy fun v w G' H' g r' p1 p2 => o2 G' H' v w x y _ r'.sub p1 p2 hg _ fun z G2 H2 pu pz => ⟨d, pz.inv_bl, q G2 H2 (g.trans (pu.gr r'.fresh)) (r'.pu pu)⟩
def mChain (g g' : D → D → Option D) (m n l : Mo D) : Mo Bool := mBind m fun x => mBind n fun y => mBind (mMap gB (mLift (g x y))) fun k => if k = true then mBind l fun z => mMap gB (mLift (g' y z)) else mRet false
theorem den_chain {op op' : CmpOp} {g g' : D → D → Option D} {F F' F'' : Mo D} (ho : OpD X (compareOp op) g) (ho' : OpD X (compareOp op') g') (ha : DenE X a F) (hb : DenE X b F') (hc : DenE X c F'')
    (hm : lastMarks [op, op'] [b, c] = false := by with_unfolding_all rfl) : DenE X (.Compare a [op, op'] [b, c] pos) (mMap (fun k => some (.bool k)) (mChain g g' F F' F'')) ∧ DenT X (.Compare a [op, op'] [b, c] pos) (mChain g g' F F' F'') := by
  obtain ⟨t, h1, h2⟩ := ha
  obtain ⟨u, k1, k2⟩ := hb
  obtain ⟨v, l1, l2⟩ := hc
  obtain ⟨r, o1, o2⟩ := ho
  obtain ⟨r', o1', o2'⟩ := ho'
  have core : ∀ (P : Addr → Prop) (b : Bs) (σ : L2.St) (env : DEnv) (G H : Hp) (d : Bool) (env' : DEnv), Rep P b G H σ env → mChain g g' F F' F'' env = some (d, env') →
    ∀ Q : VK, (∀ v G' H', Gr P G H G' H' → Rep P b G' H' σ env' → v = .bl d → Q v H') → tChain r r' t u v σ H Q := by
    intro P b σ env G H d env' rr h Q q
    obtain ⟨x, e1, hx, h⟩ := mBind_some h
    obtain ⟨y, e2, hy, h⟩ := mBind_some h
    obtain ⟨k, e3, hk, h⟩ := mBind_some h
    obtain ⟨kd, hk1, hk2⟩ := mMap_some hk
    obtain ⟨hg, rfl⟩ := mLift_some hk1
    have hk3 := gB_some hk2
    subst hk3
    refine two h2 k2 rr hx hy fun v w G' H' gr r' p1 p2 => o2 G' H' v w x y _ r'.sub p1 p2 hg _ fun z G2 H2 pu pz => ⟨k, pz.inv_bl, ?_⟩
    have R2 := r'.pu pu
    have g2 := gr.trans (pu.gr r'.fresh)
    cases k with
    | true =>
      rw [if_pos rfl] at h ⊢
      obtain ⟨z', e5, hz', h⟩ := mBind_some h
      obtain ⟨kd, hk4, hk5⟩ := mMap_some h
      obtain ⟨hg', rfl⟩ := mLift_some hk4
      have hk6 := gB_some hk5
      subst hk6
      exact l2 P b σ _ G2 H2 z' _ R2 hz' _ fun v3 G3 H3 g3 R3 p3 => o2' G3 H3 w v3 y z' _ R3.sub ((p2.mono pu.g).mono g3.g) p3 hg' _ fun z4 G4 H4 pu4 pz4 => q _ G4 H4 ((g2.trans g3).trans (pu4.gr R3.fresh)) (R3.pu pu4) pz4.inv_bl
    | false =>
      rw [if_neg (by decide)] at h ⊢
      obtain ⟨rfl, rfl⟩ := mRet_some h
      exact q _ G2 H2 g2 R2 rfl
  refine ⟨⟨_, pe_chain o1 o1' h1 k1 l1 hm, fun P b σ env G H d env' rr h Q q => ?_⟩, ⟨_, pt_chain o1 o1' h1 k1 l1 hm, fun P b σ env G H d env' rr h Q q => core P b σ env G H d env' rr h _ fun v G' H' g r p => ⟨d, p, q G' H' g r⟩⟩⟩
  obtain ⟨k, e1, hk, h⟩ := mBind_some h
  obtain ⟨hd, rfl⟩ := mLift_some h
  cases hd
  exact core P b σ env G H k _ rr hk _ fun v G' H' g r p => q v G' H' g r (by rw [p]; exact .bl k)
theorem dent_val {F : Mo D} (h : DenE X e F) (he : ∀ whole, isTrue e X.env whole = (do let v ← whole; standAt e.pos; holding [v] (truthy v)) := by intro _; rfl) : DenT X e (mMap gTru F) := by
  obtain ⟨t, h1, h2⟩ := h
  refine ⟨_, pt_truth h1 he, fun P b σ env G H d env' rr h Q q => ?_⟩
  obtain ⟨z, h, hz⟩ := mMap_some h
  refine h2 P b σ env G H z _ rr h _ fun v G' H' g r p => ⟨d, ?_, q G' H' g r⟩
  unfold gTru at hz
  cases p with
  | non => cases hz; rfl
  | bl k => cases hz; rfl
  | int i => cases hz; rfl
  | str x => cases hz
  | lst ha ra => cases hz; exact .inl ⟨_, .of (r.sub _ _ ha), by rw [ra.isEmpty]⟩
  | tup ha ra => cases hz; exact .inr (.inl ⟨_, .of (r.sub _ _ ha), by rw [ra.isEmpty]⟩)
  | dK _ _ _ => cases hz
  | dT _ _ _ => cases hz
  | scr _ _ => cases hz
theorem dent_not {F : Mo Bool} (h : DenT X a F) : DenT X (.UnaryOp .Not a pos) (mNot F) := by
  obtain ⟨t, h1, h2⟩ := h
  refine ⟨_, pt_not h1, fun P b σ env G H d env' rr h Q q => ?_⟩
  obtain ⟨k, e1, hk, h⟩ := mBind_some h
  obtain ⟨rfl, rfl⟩ := mRet_some h
  exact h2 P b σ env G H k _ rr hk _ fun G' H' g r => q G' H' g r
theorem denw_and1 {F : Mo Bool} (h : DenT X a F) : DenW X (.BoolOp .And [a] pos) F := by
  obtain ⟨t, h1, h2⟩ := h
  exact ⟨_, pw_and1 h1, h2⟩
theorem denw_or1 {F : Mo Bool} (h : DenT X a F) : DenW X (.BoolOp .Or [a] pos) F := by
  obtain ⟨t, h1, h2⟩ := h
  exact ⟨_, pw_or1 h1, h2⟩
theorem denw_and {rest : List Expr} {F F' : Mo Bool} (h : DenT X a F) (hb : DenW X (.BoolOp .And (b :: rest) pos) F') : DenW X (.BoolOp .And (a :: b :: rest) pos) (mAnd F F') := by
  obtain ⟨t, h1, h2⟩ := h
  obtain ⟨u, k1, k2⟩ := hb
  refine ⟨_, pw_and h1 k1, fun P b σ env G H d env' rr h Q q => ?_⟩
  obtain ⟨k, e1, hk, h⟩ := mBind_some h
  refine h2 P b σ env G H k _ rr hk _ fun G' H' g r => ?_
  cases k with
  | true =>
    rw [if_pos rfl] at h ⊢
    exact k2 P b σ _ G' H' d _ r h _ fun G2 H2 g2 r2 => q G2 H2 (g.trans g2) r2
  | false =>
    rw [if_neg (by decide)] at h ⊢
    obtain ⟨rfl, rfl⟩ := mRet_some h
    exact q G' H' g r
theorem denw_or {rest : List Expr} {F F' : Mo Bool} (h : DenT X a F) (hb : DenW X (.BoolOp .Or (b :: rest) pos) F') : DenW X (.BoolOp .Or (a :: b :: rest) pos) (mOr F F') := by
  obtain ⟨t, h1, h2⟩ := h
  obtain ⟨u, k1, k2⟩ := hb
  refine ⟨_, pw_or h1 k1, fun P b σ env G H d env' rr h Q q => ?_⟩
  obtain ⟨k, e1, hk, h⟩ := mBind_some h
  refine h2 P b σ env G H k _ rr hk _ fun G' H' g r => ?_
  cases k with
  | false =>
    rw [if_neg (by decide)] at h ⊢
    exact k2 P b σ _ G' H' d _ r h _ fun G2 H2 g2 r2 => q G2 H2 (g.trans g2) r2
  | true =>
    rw [if_pos rfl] at h ⊢
    obtain ⟨rfl, rfl⟩ := mRet_some h
    exact q G' H' g r
theorem dent_w {F : Mo Bool} (h : DenW X e F) : DenT X e F := by
  obtain ⟨t, h1, h2⟩ := h
  exact ⟨_, h1.pt, h2⟩
/-- and, or, not as values (all True or False) -/
def mAndV (m n : Mo D) : Mo D := mBind (mMap gB m) fun k => if k = true then n else mRet (.bool false)
def mOrV (m n : Mo D) : Mo D := mBind (mMap gB m) fun k => if k = true then mRet (.bool true) else n
theorem den_one {op : PySem.BoolOp} {F : Mo D} (h : DenE X a F) : DenE X (.BoolOp op [a] pos) F := by
  obtain ⟨t, h1, h2⟩ := h
  exact ⟨_, pe_one h1, h2⟩
theorem den_and {rest : List Expr} {F F' : Mo D} (h : DenE X a F) (hb : DenE X (.BoolOp .And (b :: rest) pos) F') : DenE X (.BoolOp .And (a :: b :: rest) pos) (mAndV F F') := by
  obtain ⟨t, h1, h2⟩ := h
  obtain ⟨u, k1, k2⟩ := hb
  refine ⟨_, pe_and h1 k1, fun P b σ env G H d env' rr h Q q => ?_⟩
  obtain ⟨k, e1, hk, h⟩ := mBind_some h
  obtain ⟨z, hk, hz⟩ := mMap_some hk
  have hz := gB_some hz
  subst hz
  refine h2 P b σ env G H _ _ rr hk _ fun v G' H' g r p => ⟨k, p.inv_bl, ?_⟩
  cases k with
  | true =>
    rw [if_pos rfl] at h ⊢
    exact k2 P b σ _ G' H' d _ r h _ fun v G2 H2 g2 r2 p => q v G2 H2 (g.trans g2) r2 p
  | false =>
    rw [if_neg (by decide)] at h ⊢
    obtain ⟨rfl, rfl⟩ := mRet_some h
    exact q _ G' H' g r (.bl _)
theorem den_or {rest : List Expr} {F F' : Mo D} (h : DenE X a F) (hb : DenE X (.BoolOp .Or (b :: rest) pos) F') : DenE X (.BoolOp .Or (a :: b :: rest) pos) (mOrV F F') := by
  obtain ⟨t, h1, h2⟩ := h
  obtain ⟨u, k1, k2⟩ := hb
  refine ⟨_, pe_or h1 k1, fun P b σ env G H d env' rr h Q q => ?_⟩
  obtain ⟨k, e1, hk, h⟩ := mBind_some h
  obtain ⟨z, hk, hz⟩ := mMap_some hk
  have hz := gB_some hz
  subst hz
  refine h2 P b σ env G H _ _ rr hk _ fun v G' H' g r p => ⟨k, p.inv_bl, ?_⟩
  cases k with
  | false =>
    rw [if_neg (by decide)] at h ⊢
    exact k2 P b σ _ G' H' d _ r h _ fun v G2 H2 g2 r2 p => q v G2 H2 (g.trans g2) r2 p
  | true =>
    rw [if_pos rfl] at h ⊢
    obtain ⟨rfl, rfl⟩ := mRet_some h
    exact q _ G' H' g r (.bl _)
theorem den_not {F : Mo D} (h : DenE X a F) : DenE X (.UnaryOp .Not a pos) (mMap (fun k => some (.bool (!k))) (mMap gB F)) := by
  obtain ⟨t, h1, h2⟩ := h
  refine ⟨_, pe_not h1, fun P b σ env G H d env' rr h Q q => ?_⟩
  obtain ⟨k, e1, hk, h⟩ := mBind_some h
  obtain ⟨hd, rfl⟩ := mLift_some h
  cases hd
  obtain ⟨z, hk, hz⟩ := mMap_some hk
  have hz := gB_some hz
  subst hz
  exact h2 P b σ env G H _ _ rr hk _ fun v G' H' g r p => ⟨k, p.inv_bl, q _ G' H' g r (.bl _)⟩
theorem den_if {Fc : Mo Bool} {F F' : Mo D} (hc : DenT X c Fc) (ha : DenE X a F) (hb : DenE X b F') : DenE X (.IfExp c a b pos) (mIf Fc F F') := by
  obtain ⟨t, h1, h2⟩ := hc
  obtain ⟨u, k1, k2⟩ := ha
  obtain ⟨w, l1, l2⟩ := hb
  refine ⟨_, pe_ifExp h1 k1 l1, fun P b σ env G H d env' rr h Q q => ?_⟩
  obtain ⟨k, e1, hk, h⟩ := mBind_some h
  refine h2 P b σ env G H k _ rr hk _ fun G' H' g r => ?_
  cases k with
  | true =>
    rw [if_pos rfl] at h ⊢
    exact k2 P b σ _ G' H' d _ r h _ fun v G2 H2 g2 r2 p => q v G2 H2 (g.trans g2) r2 p
  | false =>
    rw [if_neg (by decide)] at h ⊢
    exact l2 P b σ _ G' H' d _ r h _ fun v G2 H2 g2 r2 p => q v G2 H2 (g.trans g2) r2 p
/-- -a -/
def gNeg : D → Option D
  | .int i => some (.int (-i))
  | _ => none
theorem den_neg {F : Mo D} (h : DenE X a F) : DenE X (.UnaryOp .USub a pos) (mMap gNeg F) := by
  obtain ⟨t, h1, h2⟩ := h
  refine ⟨_, pe_un un_neg h1, fun P b σ env G H d env' rr h Q q => ?_⟩
  obtain ⟨z, hk, hz⟩ := mMap_some h
  unfold gNeg at hz
  split at hz
  · rename_i i
    cases hz
    exact h2 P b σ env G H _ _ rr hk _ fun v G' H' g r p => ⟨i, p.inv_int, q _ G' H' g r (.int _)⟩
  · cases hz
/-- is None, is not None -/
def gIsN : D → Option D
  | .none => some (.bool true)
  | _ => some (.bool false)
def gNotN : D → Option D
  | .none => some (.bool false)
  | _ => some (.bool true)
theorem Rp.isN {G : Hp} {v : V} {d : D} (h : Rp G v d) : gIsN d = some (.bool (decide (v = .non))) ∧ gNotN d = some (.bool (!decide (v = .non))) := by
  cases h <;> exact ⟨rfl, rfl⟩
theorem den_isN {F : Mo D} {j : Nat} {p' : Pos} (h : DenE X a F) : DenE X (.Compare a [.Is] [.Constant .none j p'] pos) (mMap gIsN F) ∧ DenT X (.Compare a [.Is] [.Constant .none j p'] pos) (mMap gB (mMap gIsN F)) := by
  obtain ⟨t, h1, h2⟩ := h
  refine ⟨⟨_, pe_cmp (pc_isN h1) rfl, fun P b σ env G H d env' rr h Q q => ?_⟩, ⟨_, pt_cmp (pc_isN h1) rfl, fun P b σ env G H d env' rr h Q q => ?_⟩⟩
  · obtain ⟨z, hk, hz⟩ := mMap_some h
    refine h2 P b σ env G H _ _ rr hk _ fun v G' H' g r p => q _ G' H' g r ?_
    rw [p.isN.1] at hz
    cases hz
    exact .bl _
  · obtain ⟨w, h, hw⟩ := mMap_some h
    have hw := gB_some hw
    subst hw
    obtain ⟨z, hk, hz⟩ := mMap_some h
    refine h2 P b σ env G H _ _ rr hk _ fun v G' H' g r p => ⟨_, rfl, ?_⟩
    rw [p.isN.1] at hz
    cases hz
    exact q G' H' g r
theorem den_notN {F : Mo D} {j : Nat} {p' : Pos} (h : DenE X a F) : DenE X (.Compare a [.IsNot] [.Constant .none j p'] pos) (mMap gNotN F) ∧ DenT X (.Compare a [.IsNot] [.Constant .none j p'] pos) (mMap gB (mMap gNotN F)) := by
  obtain ⟨t, h1, h2⟩ := h
  refine ⟨⟨_, pe_cmp (pc_notN h1) rfl, fun P b σ env G H d env' rr h Q q => ?_⟩, ⟨_, pt_cmp (pc_notN h1) rfl, fun P b σ env G H d env' rr h Q q => ?_⟩⟩
  · obtain ⟨z, hk, hz⟩ := mMap_some h
    refine h2 P b σ env G H _ _ rr hk _ fun v G' H' g r p => q _ G' H' g r ?_
    rw [p.isN.2] at hz
    cases hz
    exact .bl _
  · obtain ⟨w, h, hw⟩ := mMap_some h
    have hw := gB_some hw
    subst hw
    obtain ⟨z, hk, hz⟩ := mMap_some h
    refine h2 P b σ env G H _ _ rr hk _ fun v G' H' g r p => ⟨_, rfl, ?_⟩
    rw [p.isN.2] at hz
    cases hz
    exact q G' H' g r

/-! ### displays -/
theorem dena_nil : DenA X [] (mRet []) := by
  refine ⟨_, pa_nil, fun P b σ env G H d env' r h Q q => ?_⟩
  obtain ⟨rfl, rfl⟩ := mRet_some h
  exact q [] G H Gr.refl r .nil
theorem dena_cons {es : List Expr} {F : Mo D} {F' : Mo (List D)} (ha : DenE X a F) (hr : DenA X es F') (hs : starEach (a :: es) X.env = (false, eval a X.env) :: starEach es X.env := by rfl) : DenA X (a :: es) (mCons F F') := by
  obtain ⟨t, h1, h2⟩ := ha
  obtain ⟨u, k1, k2⟩ := hr
  refine ⟨_, pa_cons h1 k1 hs, fun P b σ env G H d env' rr h Q q => ?_⟩
  obtain ⟨x, e1, hx, h⟩ := mBind_some h
  obtain ⟨y, e2, hy, h⟩ := mBind_some h
  obtain ⟨rfl, rfl⟩ := mRet_some h
  exact h2 P b σ env G H x e1 rr hx _ fun v G1 H1 g1 r1 p1 => k2 P b σ e1 G1 H1 y _ r1 hy _ fun w G2 H2 g2 r2 p2 => q _ G2 H2 (g1.trans g2) r2 (.cons (p1.mono g2.g) p2)
def gTup (xs : List D) : Option D := if xs.length ≤ 100000 then some (.tuple xs) else none
def gLst (xs : List D) : Option D := if xs.length ≤ 100000 then some (.list xs) else none
theorem den_tup {es : List Expr} {k : Nat} {F : Mo (List D)} (h : DenA X es F) : DenE X (.Tuple es k pos) (mMap gTup F) := by
  obtain ⟨t, h1, h2⟩ := h
  refine ⟨_, pe_tup h1, fun P b σ env G H d env' rr h Q q => ?_⟩
  obtain ⟨z, hk, hz⟩ := mMap_some h
  unfold gTup at hz
  split at hz
  · rename_i hl
    cases hz
    refine h2 P b σ env G H _ _ rr hk _ fun v G' H' g r p => ⟨by rw [p.length]; exact line_of hl, fun x hx => ?_⟩
    have pu := Pu.new (o := .tup v) r.sub hx
    exact q _ _ _ (g.trans (pu.gr r.fresh)) (r.pu pu) (.tup upd_same (p.mono pu.g))
  · cases hz
theorem den_lst {es : List Expr} {F : Mo (List D)} (h : DenA X es F) : DenE X (.List es pos) (mMap gLst F) := by
  obtain ⟨t, h1, h2⟩ := h
  refine ⟨_, pe_lst h1, fun P b σ env G H d env' rr h Q q => ?_⟩
  obtain ⟨z, hk, hz⟩ := mMap_some h
  unfold gLst at hz
  split at hz
  · rename_i hl
    cases hz
    refine h2 P b σ env G H _ _ rr hk _ fun v G' H' g r p => ⟨by rw [p.length]; exact line_of hl, fun x hx => ?_⟩
    have pu := Pu.new (o := .lst v) r.sub hx
    exact q _ _ _ (g.trans (pu.gr r.fresh)) (r.pu pu) (.lst upd_same (p.mono pu.g))
  · cases hz

/-! ### items, slices -/
def gIx : D → D → Option D
  | .list xs, .int i => atI xs i
  | .tuple xs, .int i => atI xs i
  | _, _ => none
theorem gIx_some {x y d : D} (h : gIx x y = some d) : ∃ xs i, (x = .list xs ∨ x = .tuple xs) ∧ y = .int i ∧ atI xs i = some d := by
  unfold gIx at h
  split at h
  · exact ⟨_, _, .inl rfl, rfl, h⟩
  · exact ⟨_, _, .inr rfl, rfl, h⟩
  · cases h
theorem RpAll.atI {G : Hp} {vs : List V} {ds : List D} (r : RpAll G vs ds) {i : Int} {d : D} (h : L2.atI ds i = some d) : ∃ v, L2.atI vs i = some v ∧ Rp G v d := by
  unfold L2.atI at h ⊢
  rw [r.length]
  cases k : ixN ds.length i with
  | none => rw [k] at h; cases h
  | some j =>
    rw [k] at h
    exact r.get h
theorem den_ix {F F' : Mo D} (ha : DenE X a F) (hb : DenE X b F') (hs : PlainIx b := by exact fun _ _ => rfl) : DenE X (.Subscript a b pos) (mBin gIx F F') := by
  obtain ⟨t, h1, h2⟩ := ha
  obtain ⟨u, k1, k2⟩ := hb
  refine ⟨_, pe_ix (ix_list.or ix_tup) h1 k1 hs, fun P b σ env G H d env' rr h Q q => ?_⟩
  obtain ⟨x, e1, hx, h⟩ := mBind_some h
  obtain ⟨y, e2, hy, h⟩ := mBind_some h
  obtain ⟨hg, rfl⟩ := mLift_some h
  refine two h2 k2 rr hx hy fun v w G' H' g r' p1 p2 => ?_
  obtain ⟨xs, i, hxs, rfl, hi⟩ := gIx_some hg
  rcases hxs with rfl | rfl
  · obtain ⟨p, vs, rfl, hp, rp⟩ := p1.inv_list
    obtain ⟨z, hz, rz⟩ := rp.atI hi
    exact .inl ⟨p, vs, i, z, rfl, p2.inv_int, .of (r'.sub _ _ hp), hz, q z G' H' g r' rz⟩
  · obtain ⟨p, vs, rfl, hp, rp⟩ := p1.inv_tup
    obtain ⟨z, hz, rz⟩ := rp.atI hi
    exact .inr ⟨p, vs, i, z, rfl, p2.inv_int, .of (r'.sub _ _ hp), hz, q z G' H' g r' rz⟩
end
end Dn

/-! V5: slices, built-ins, defs. -/
namespace Dn
open PySem PySem.Spec PyProof.Rows L2
open Evl (Ex fresh_back)

/-! ### slices -/
def cutD (xs : List D) (lo hi : Option Int) : List D := (xs.drop (HT.sIx xs.length 0 lo)).take (HT.sIx xs.length xs.length hi - HT.sIx xs.length 0 lo)
theorem RpAll.cut {G : Hp} {vs : List V} {ds : List D} (r : RpAll G vs ds) (lo hi : Option Int) : RpAll G (cutV vs lo hi) (cutD ds lo hi) := by
  unfold cutV cutD
  rw [r.length]
  exact (r.drop _).take _
def gI : D → Option Int
  | .int i => some i
  | _ => none
theorem gI_some {d : D} {i : Int} (h : gI d = some i) : d = .int i := by
  unfold gI at h
  split at h
  · cases h; rfl
  · cases h
def DenO (X : Cx) (e : Option Expr) (F : Mo (Option Int)) : Prop :=
  ∃ t : TO, PO X e t ∧ ∀ (P : Addr → Prop) (b : Bs) (σ : L2.St) (env : DEnv) (G H : Hp) (d : Option Int) (env' : DEnv), Rep P b G H σ env → F env = some (d, env') →
    ∀ Q : Option Int → Hp → Prop, (∀ G' H', Gr P G H G' H' → Rep P b G' H' σ env' → Q d H') → t σ H Q
section
variable {X : Cx} {a b c e : Expr} {pos : Pos}
theorem deno_none : DenO X none (mRet none) := by
  refine ⟨_, po_none, fun P b σ env G H d env' r h Q q => ?_⟩
  obtain ⟨rfl, rfl⟩ := mRet_some h
  exact q G H Gr.refl r
theorem deno_some {F : Mo D} (h : DenE X e F) : DenO X (some e) (mMap (fun d => (gI d).map some) F) := by
  obtain ⟨t, h1, h2⟩ := h
  refine ⟨_, po_some h1, fun P b σ env G H d env' rr h Q q => ?_⟩
  obtain ⟨z, hk, hz⟩ := mMap_some h
  cases w : gI z with
  | none => rw [w] at hz; cases hz
  | some i =>
    rw [w] at hz
    cases hz
    have := gI_some w
    subst this
    exact h2 P b σ env G H _ _ rr hk _ fun v G' H' g r p => ⟨i, p.inv_int, q G' H' g r⟩
def gSl (x : D) (lo hi : Option Int) : Option D :=
  match x with
  | .list xs => some (.list (cutD xs lo hi))
  | .tuple xs => some (.tuple (cutD xs lo hi))
  | .dict [(.none, .list xs)] => some (.list (cutD xs lo hi))
  | _ => none
def mSl (m : Mo D) (l h : Mo (Option Int)) : Mo D := mBind m fun x => mBind l fun lo => mBind h fun hi => mLift (gSl x lo hi)
theorem cutD_whole {xs : List D} {lo hi : Option Int} (h : HT.sIx xs.length 0 lo = 0 ∧ HT.sIx xs.length xs.length hi = xs.length) : cutD xs lo hi = xs := by
  unfold cutD
  rw [h.1, h.2]
  simp
theorem den_slice {lo hi : Option Expr} {p2 : Pos} {F : Mo D} {Fl Fh : Mo (Option Int)} (ha : DenE X a F) (hl : DenO X lo Fl) (hh : DenO X hi Fh) : DenE X (.Subscript a (.Slice lo hi none p2) pos) (mSl F Fl Fh) := by
  obtain ⟨t, h1, h2⟩ := ha
  obtain ⟨u, k1, k2⟩ := hl
  obtain ⟨w, l1, l2⟩ := hh
  refine ⟨_, pe_slice (sl_list.or sl_tupA) h1 k1 l1, fun P b σ env G H d env' rr h Q q => ?_⟩
  obtain ⟨x, e1, hx, hA⟩ := mBind_some h
  obtain ⟨lo', e2, hlo, hB⟩ := mBind_some hA
  obtain ⟨hi', e3, hhi, hC⟩ := mBind_some hB
  obtain ⟨hg, rfl⟩ := mLift_some hC
  refine h2 P b σ env G H x e1 rr hx _ fun v G1 H1 g1 r1 p1 => k2 P b σ e1 G1 H1 lo' e2 r1 hlo _ fun G2 H2 g2 r2 => l2 P b σ e2 G2 H2 hi' _ r2 hhi _ fun G3 H3 g3 r3 => ?_
  have gg := (g1.trans g2).trans g3
  have p3 := (p1.mono g2.g).mono g3.g
  unfold gSl at hg
  cases p3 with
  | lst ha ra =>
    rename_i pa pxs pds
    cases hg
    refine .inl ⟨_, _, rfl, .of (r3.sub _ _ ha), fun y hy => ?_⟩
    have pu := Pu.new (o := .lst (cutV pxs lo' hi')) r3.sub hy
    exact q _ _ _ (gg.trans (pu.gr r3.fresh)) (r3.pu pu) (.lst upd_same ((ra.cut lo' hi').mono pu.g))
  | tup ha ra =>
    rename_i pa pxs pds
    cases hg
    refine .inr ⟨_, _, rfl, .of (r3.sub _ _ ha), fun hw => ?_, fun hw y hy => ?_⟩
    · rw [ra.length] at hw
      rw [cutD_whole hw] at q
      exact q _ _ _ gg r3 (.tup ha ra)
    · have pu := Pu.new (o := .tup (cutV pxs lo' hi')) r3.sub hy
      exact q _ _ _ (gg.trans (pu.gr r3.fresh)) (r3.pu pu) (.tup upd_same ((ra.cut lo' hi').mono pu.g))
  | scr ha ra =>
    rename_i pa po pxs pds
    cases hg
    refine .inl ⟨_, _, rfl, .inl (.inr ⟨_, r3.sub _ _ ha⟩), fun y hy => ?_⟩
    have pu := Pu.new (o := .lst (cutV pxs lo' hi')) r3.sub hy
    exact q _ _ _ (gg.trans (pu.gr r3.fresh)) (r3.pu pu) (.lst upd_same ((ra.cut lo' hi').mono pu.g))
  | dK ha hl ra =>
    rename_i pa ks xs ds
    exfalso
    cases ks with
    | nil => cases hg
    | cons k ks =>
      cases ds with
      | nil => cases hg
      | cons d ds => cases k <;> cases ks <;> cases ds <;> cases d <;> cases hg
  | dT ha hl ra =>
    rename_i pa ks xs ds
    exfalso
    cases ks with
    | nil => cases hg
    | cons k ks =>
      cases ds with
      | nil => cases hg
      | cons d ds => cases ks <;> cases ds <;> cases d <;> cases hg
  | _ => cases hg

/-! ### built-ins -/
def CallD (X : Cx) (f : Value) (g : List D → Option D) : Prop :=
  ∃ r : List V → Hp → VK → Prop, CallR X f r ∧ ∀ (G H : Hp) (vs : List V) (ds : List D) (z : D), Ex G H → RpAll G vs ds → g ds = some z → ∀ Q : VK, (∀ v G' H', Pu G H G' H' → Rp G' v z → Q v H') → r vs H Q
theorem den_callB {x : Str} {id : String} {p : Pos} {es : List Expr} {g : List D → Option D} {F : Mo (List D)} (hc : CallD X (.builtin id) g) (hg : Gl X x) (hm : X.mg x = none) (hv : bootBuiltins x = some (.builtin id)) (ha : DenA X (e :: es) F)
    (hn : x ≠ "__name__" := by decide) (hdb : (x == ("__debug__" : Str)) = false := by decide) (he : starEach (e :: es) X.env = (false, eval e X.env) :: starEach es X.env := by rfl) (hpl : (backTo pos (starEach es X.env)).any (·.1) = false := by rfl) :
    DenE X (.Call (.Name x p) (e :: es) [] pos) (mMap g F) := by
  obtain ⟨t, h1, h2⟩ := ha
  obtain ⟨r, o1, o2⟩ := hc
  refine ⟨_, pe_callB o1 hg hm hv h1 hn hdb he hpl, fun P b σ env G H d env' rr h Q q => ?_⟩
  obtain ⟨z, hk, hz⟩ := mMap_some h
  exact h2 P b σ env G H _ _ rr hk _ fun v G' H' g r p => o2 G' H' v z d r.sub p hz _ fun w G2 H2 pu pw => q w G2 H2 (g.trans (pu.gr r.fresh)) (r.pu pu) pw
theorem den_callTy {x : Str} {T : String} {p : Pos} {es : List Expr} {g : List D → Option D} {F : Mo (List D)} (hc : CallD X (.type T) g) (hg : Gl X x) (hm : X.mg x = none) (hv : bootBuiltins x = some (.type T)) (ha : DenA X (e :: es) F)
    (hn : x ≠ "__name__" := by decide) (hdb : (x == ("__debug__" : Str)) = false := by decide) (he : starEach (e :: es) X.env = (false, eval e X.env) :: starEach es X.env := by rfl) (hpl : (backTo pos (starEach es X.env)).any (·.1) = false := by rfl) :
    DenE X (.Call (.Name x p) (e :: es) [] pos) (mMap g F) := by
  obtain ⟨t, h1, h2⟩ := ha
  obtain ⟨r, o1, o2⟩ := hc
  refine ⟨_, pe_callTy o1 hg hm hv h1 hn hdb he hpl, fun P b σ env G H d env' rr h Q q => ?_⟩
  obtain ⟨z, hk, hz⟩ := mMap_some h
  exact h2 P b σ env G H _ _ rr hk _ fun v G' H' g r p => o2 G' H' v z d r.sub p hz _ fun w G2 H2 pu pw => q w G2 H2 (g.trans (pu.gr r.fresh)) (r.pu pu) pw
end
end Dn

/-! V6: statements, defs. -/
namespace Dn
open PySem PySem.Spec PyProof.Rows L2
open Evl (Ex fresh_back)

inductive Fl where
  | nx (env : DEnv) | rt (d : D) (env : DEnv) | bk (env : DEnv) | ct (env : DEnv)
abbrev So := DEnv → Option Fl
/-- what is wanted behind, by how the statement ends -/
def PostS (P : Addr → Prop) (b : Bs) (G H : Hp) (r : Fl) (Dd : Ends) : Prop :=
  match r with
  | .nx env' => ∀ σ' G' H', Gr P G H G' H' → Rep P b G' H' σ' env' → Dd.nx σ' H'
  | .rt d env' => ∀ v σ' G' H', Gr P G H G' H' → Rep P b G' H' σ' env' → Rp G' v d → Dd.rt v H'
  | .bk env' => ∀ σ' G' H', Gr P G H G' H' → Rep P b G' H' σ' env' → Dd.bk σ' H'
  | .ct env' => ∀ σ' G' H', Gr P G H G' H' → Rep P b G' H' σ' env' → Dd.ct σ' H'
theorem PostS.gr {P : Addr → Prop} {b : Bs} {G H G1 H1 : Hp} {r : Fl} {Dd : Ends} (h : PostS P b G H r Dd) (g : Gr P G H G1 H1) : PostS P b G1 H1 r Dd := by
  cases r with
  | nx env => exact fun σ' G' H' g' r' => h σ' G' H' (g.trans g') r'
  | rt d env => exact fun v σ' G' H' g' r' p => h v σ' G' H' (g.trans g') r' p
  | bk env => exact fun σ' G' H' g' r' => h σ' G' H' (g.trans g') r'
  | ct env => exact fun σ' G' H' g' r' => h σ' G' H' (g.trans g') r'
def RunS (t : TS) (F : So) : Prop := ∀ (P : Addr → Prop) (b : Bs) (σ : L2.St) (env : DEnv) (G H : Hp) (r : Fl), Rep P b G H σ env → F env = some r → ∀ Dd : Ends, PostS P b G H r Dd → t Dd σ H
def DenS (X : Cx) (st : Stmt) (F : So) : Prop := ∃ t : TS, PS X st t ∧ RunS t F
def DenSs (X : Cx) (st : List Stmt) (F : So) : Prop := ∃ t : TS, PSs X st t ∧ RunS t F

def sNil : So := fun env => some (.nx env)
def sSeq (F F' : So) : So := fun env =>
  match F env with
  | some (.nx e1) => F' e1
  | r => r
def sNone : So := fun _ => none
def sRet (m : Mo D) : So := fun env =>
  match m env with
  | some (d, e1) => some (.rt d e1)
  | none => none
def sDrop {α : Type} (m : Mo α) : So := fun env =>
  match m env with
  | some (_, e1) => some (.nx e1)
  | none => none
def sIf (c : Mo Bool) (F F' : So) : So := fun env =>
  match c env with
  | some (k, e1) => if k = true then F e1 else F' e1
  | none => none
/-- x = e -/
def sSet (i : Nat) (m : Mo D) : So := fun env =>
  match m env with
  | some (d, e1) => some (.nx (e1.set i (some (SV.fz d))))
  | none => none
section
variable {X : Cx} {st : Stmt} {rest : List Stmt} {a c e : Expr} {pos : Pos}
theorem denss_nil : DenSs X [] sNil := ⟨_, pss_nil, fun P b σ env G H r rr h Dd q => by
  cases h
  exact q σ G H Gr.refl rr⟩
theorem denss_cons {F F' : So} (h1 : DenS X st F) (h2 : DenSs X rest F') : DenSs X (st :: rest) (sSeq F F') := by
  obtain ⟨t, h1, h2'⟩ := h1
  obtain ⟨u, k1, k2⟩ := h2
  refine ⟨_, pss_cons h1 k1, fun P b σ env G H r rr h Dd q => ?_⟩
  unfold sSeq at h
  cases w : F env with
  | none => rw [w] at h; cases h
  | some r1 =>
    rw [w] at h
    refine h2' P b σ env G H r1 rr w { Dd with nx := u Dd } ?_
    cases r1 with
    | nx e1 => exact fun σ' G' H' g r' => k2 P b σ' e1 G' H' r r' h Dd (q.gr g)
    | rt d e1 => cases h; exact q
    | bk e1 => cases h; exact q
    | ct e1 => cases h; exact q
theorem denss_one {F : So} (h1 : DenS X st F) : DenSs X [st] F := by
  obtain ⟨t, h1, h2'⟩ := h1
  exact ⟨_, pss_one h1, h2'⟩
/-- what is not spoken of -/
theorem dens_never : DenS X st sNone := ⟨_, ps_never, fun P b σ env G H r rr h Dd q => by cases h⟩
theorem denss_never : DenSs X rest sNone := ⟨_, pss_never, fun P b σ env G H r rr h Dd q => by cases h⟩
theorem dens_pass : DenS X (.Pass pos) sNil := ⟨_, ps_pass, fun P b σ env G H r rr h Dd q => by
  cases h
  exact q σ G H Gr.refl rr⟩
theorem dens_break : DenS X (.Break pos) (fun env => some (.bk env)) := ⟨_, ps_break, fun P b σ env G H r rr h Dd q => by
  cases h
  exact q σ G H Gr.refl rr⟩
theorem dens_continue : DenS X (.Continue pos) (fun env => some (.ct env)) := ⟨_, ps_continue, fun P b σ env G H r rr h Dd q => by
  cases h
  exact q σ G H Gr.refl rr⟩
theorem dens_ret {F : Mo D} (h : DenE X e F) : DenS X (.Return (some e) pos) (sRet F) := by
  obtain ⟨t, h1, h2⟩ := h
  refine ⟨_, ps_ret h1, fun P b σ env G H r rr h Dd q => ?_⟩
  unfold sRet at h
  split at h
  · rename_i d e1 hd
    cases h
    exact h2 P b σ env G H d e1 rr hd _ fun v G' H' g r' p => q v σ G' H' g r' p
  · cases h
theorem dens_retN : DenS X (.Return none pos) (sRet (mRet .none)) := ⟨_, ps_retN, fun P b σ env G H r rr h Dd q => by
  cases h
  exact q _ σ G H Gr.refl rr .non⟩
theorem dens_doc {x : Str} {j : Nat} {pos' : Pos} : DenS X (.Expr (.Constant (.str x) j pos) pos') sNil := ⟨_, ps_doc, fun P b σ env G H r rr h Dd q => by
  cases h
  exact q σ G H Gr.refl rr⟩
theorem dens_expr {F : Mo D} (h : DenE X e F) (hs : swapsWith e none pos.line X.env = pure false := by rfl) : DenS X (.Expr e pos) (sDrop F) := by
  obtain ⟨t, h1, h2⟩ := h
  refine ⟨_, ps_expr h1 hs, fun P b σ env G H r rr h Dd q => ?_⟩
  unfold sDrop at h
  split at h
  · rename_i d e1 hd
    cases h
    exact h2 P b σ env G H d e1 rr hd _ fun v G' H' g r' p => q σ G' H' g r'
  · cases h
theorem dens_if {u v : List Stmt} {Fc : Mo Bool} {F F' : So} (hc : DenT X c Fc) (h1 : DenSs X u F) (h2 : DenSs X v F') : DenS X (.If c u v pos) (sIf Fc F F') := by
  obtain ⟨t, c1, c2⟩ := hc
  obtain ⟨t1, h1, h1'⟩ := h1
  obtain ⟨t2, h2, h2'⟩ := h2
  refine ⟨_, ps_if c1 h1 h2, fun P b σ env G H r rr h Dd q => ?_⟩
  unfold sIf at h
  split at h
  · rename_i k e1 hk
    refine c2 P b σ env G H k e1 rr hk _ fun G' H' g r' => ?_
    cases k with
    | true =>
      rw [if_pos rfl] at h ⊢
      exact h1' P b σ e1 G' H' r r' h Dd (q.gr g)
    | false =>
      rw [if_neg (by decide)] at h ⊢
      exact h2' P b σ e1 G' H' r r' h Dd (q.gr g)
  · cases h
theorem dens_set (i : Nat) {x : Str} {pos' : Pos} {F : Mo D} (hN : X.N.Nodup) (hi : X.N[i]? = some x) (hx : Loc X.env.scope x) (he : DenE X e F) (hs : swapsWith e (some (.Name x pos')) pos.line X.env = pure false := by rfl)
    (hf : X.fn x = true ∨ X.env.scope.names.lookup x = some .local := by first | exact .inl rfl | exact .inr rfl | assumption) : DenS X (.Assign [.Name x pos'] e pos) (sSet i F) := by
  obtain ⟨t, h1, h2⟩ := he
  refine ⟨_, ps_set hN hi hx h1 hs hf, fun P b σ env G H r rr h Dd q => ?_⟩
  unfold sSet at h
  split at h
  · rename_i d e1 hd
    cases h
    exact h2 P b σ env G H d e1 rr hd _ fun v G' H' g r' p => q _ G' H' g (r'.set p)
  · cases h
end

/-! ### defs -/
def envOf (N : List Str) (ds : List D) : DEnv := ds.map (fun d => some (SV.fz d)) ++ List.replicate (N.length - ds.length) none
def outF : Option Fl → Option D
  | some (.rt d _) => some d
  | some (.nx _) => some .none
  | _ => none
/-- a def that changes nothing -/
def spF (n : Nat) (F : List D → Option D) : Sp := fun vs H Q _ => ∃ (G : Hp) (ds : List D) (d : D), Ex G H ∧ RpAll G vs ds ∧ ds.length = n ∧ F ds = some d ∧ ∀ v G' H', Pu G H G' H' → Rp G' v d → Q v H'
structure Fd (P : Program) (w : World) (K : PySem.W.Frag) (mg : Str → Option Value) (base : Heap) (x : Str) (k n : Nat) (F : List D → Option D) : Prop where
  ex : ∃ (f : Addr) (fd : FuncData) (ps : List Str), mg x = some (.ref f) ∧ PySem.W.keepIn K (.ref f) = true ∧ Binds K fd ps [] ∧ ps.length = n ∧ FnOk P w K mg base CX0 k f fd ps (spF n F)
theorem envOf_get {N : List Str} {ds : List D} {i : Nat} {s : SV} (h : (envOf N ds)[i]? = some (some s)) : ∃ d, s = .fz d ∧ ds[i]? = some d := by
  unfold envOf at h
  by_cases hi : i < ds.length
  · rw [List.getElem?_append_left (by simpa using hi), List.getElem?_map, List.getElem?_eq_getElem hi] at h
    cases h
    exact ⟨_, rfl, List.getElem?_eq_getElem hi⟩
  · rw [List.getElem?_append_right (by simpa using hi)] at h
    obtain ⟨h1, h2⟩ := List.getElem?_eq_some_iff.mp h
    rw [List.getElem_replicate] at h2
    cases h2
theorem start_rep {N : List Str} {G H : Hp} {vs : List V} {ds : List D} {P : Addr → Prop} {b : Bs} (s : Ex G H) (f : ∀ p, H p = none → P p) (r : RpAll G vs ds) : Rep P b G H (L2.start N vs) (envOf N ds) where
  len := by
    unfold L2.start envOf
    simp [r.length]
  sub := s
  fresh := f
  rep := by
    refine ⟨fun _ => none, (fun a p h => by cases h), fun i sv h => ?_⟩
    obtain ⟨d', e, hd⟩ := envOf_get h
    subst e
    obtain ⟨v, hv, rv⟩ := r.get hd
    refine ⟨v, ?_, rv⟩
    unfold L2.start
    have hi : i < vs.length := (List.getElem?_eq_some_iff.mp hv).1
    rw [List.getElem?_append_left (by simpa using hi), List.getElem?_map, hv]
    rfl
section
variable {P : Program} {w : World} {K : PySem.W.Frag} {mg : Str → Option Value} {base : Heap}
theorem Fd.mk' {x qual : Str} {st : Stmt} {f : Addr} {fd : FuncData} {N ps : List Str} {k : Nat} {B : So} (F : Fun K x qual st f fd) (S : FnScope N ps (defScope st)) (hg : mg x = some (.ref f)) (hb : Binds K fd ps [])
    (body : ∀ (cdv : Value) (A : Around) (outer : List Env) (s : Shared) (H : Hp) (E : XK), Room k (A.deeper (envOfC qual (defScope st) s.heap.objs.size f cdv)) → DenSs (cxOf CX0 P w K mg base N qual (defScope st) f cdv A outer s H E).nox (defBody st) B) :
    Fd P w K mg base x (k + 1) ps.length (fun ds => outF (B (envOf N ds))) := by
  refine ⟨f, fd, ps, hg, F.kp, hb, rfl, F.ok S (fun vs H Q E h => ?_) fun cdv A outer s H vs Q E hr h => ?_⟩
  · obtain ⟨G, ds, d, _, r, hl, _⟩ := h
    rw [r.length, hl]
  · obtain ⟨G, ds, d, hs, r, hl, hF, q⟩ := h
    obtain ⟨t, h1, h2⟩ := body cdv A outer s H E hr
    refine ⟨t, h1, ?_⟩
    have rep : Rep (fun a => H a = none) (fun _ => 0) G H (L2.start N vs) (envOf N ds) := start_rep hs (fun _ h => h) r
    have pu : ∀ {σ' : L2.St} {env' : DEnv} {G' H' : Hp}, Gr (fun a => H a = none) G H G' H' → Rep (fun a => H a = none) (fun _ => 0) G' H' σ' env' → Pu G H G' H' := fun g r => ⟨g.g, fun a o e => g.h a o e (some_ne e), r.sub, fun a h n => g.n a h n⟩
    cases hB : B (envOf N ds) with
    | none => simp only [hB] at hF; cases hF
    | some r1 =>
      simp only [hB] at hF
      refine h2 _ (fun _ => 0) _ _ G H r1 rep hB _ ?_
      cases r1 with
      | nx e1 =>
        cases hF
        exact fun σ' G' H' g r' => q _ G' H' (pu g r') .non
      | rt d' e1 =>
        cases hF
        exact fun v σ' G' H' g r' p => q v G' H' (pu g r') p
      | bk e1 => cases hF
      | ct e1 => cases hF
theorem Fd.imp {x : Str} {k n : Nat} {F F' : List D → Option D} (h : Fd P w K mg base x k n F) (hi : ∀ ds d, F' ds = some d → F ds = some d) : Fd P w K mg base x k n F' := by
  obtain ⟨f, fd, ps, h1, h2, h3, h4, h5⟩ := h.ex
  exact ⟨f, fd, ps, h1, h2, h3, h4, h5.imp fun vs H Q E ⟨G, ds, d, a, b, c, e, q⟩ => ⟨G, ds, d, a, b, c, hi _ _ e, q⟩⟩
theorem Fd.mono {x : Str} {j k n : Nat} {F : List D → Option D} (h : Fd P w K mg base x j n F) (hk : j ≤ k) : Fd P w K mg base x k n F := by
  obtain ⟨f, fd, ps, h1, h2, h3, h4, h5⟩ := h.ex
  exact ⟨f, fd, ps, h1, h2, h3, h4, h5.mono hk⟩
end
section
variable {X : Cx} {e : Expr} {pos : Pos}
def lenIs (n : Nat) (F : List D → Option D) : List D → Option D := fun ds => if ds.length = n then F ds else none
theorem den_call {x : Str} {k n : Nat} {p : Pos} {es : List Expr} {F : List D → Option D} {m : Mo (List D)} (h : Fd X.prog X.w X.K X.mg X.base x k n F) (hr : Room k X.A) (hg : Gl X x) (ha : DenA X (e :: es) m) (hdb : (x == ("__debug__" : Str)) = false := by decide)
    (he : starEach (e :: es) X.env = (false, eval e X.env) :: starEach es X.env := by rfl) (hpl : (backTo pos (starEach es X.env)).any (·.1) = false := by rfl) : DenE X (.Call (.Name x p) (e :: es) [] pos) (mMap (lenIs n F) m) := by
  obtain ⟨f, fd, ps, h1, h2, h3, h4, h5⟩ := h.ex
  obtain ⟨t, a1, a2⟩ := ha
  refine ⟨_, pe_call h5 hr hg h1 h2 h3 .nil pass0 a1 hdb he hpl, fun P b σ env G H d env' rr h Q q => ?_⟩
  obtain ⟨ds, hds, hF⟩ := mMap_some h
  unfold lenIs at hF
  split at hF
  · rename_i hl
    refine a2 P b σ env G H _ _ rr hds _ fun vs G' H' g r p => ?_
    show spF n F (vs ++ []) H' Q _
    rw [List.append_nil]
    exact ⟨G', ds, d, r.sub, p, hl, hF, fun v G2 H2 pu pv => q v G2 H2 (g.trans (pu.gr r.fresh)) (r.pu pu) pv⟩
  · cases hF
end
end Dn

/-! V7: what is walked, targets, for, list comprehensions. -/
namespace Dn
open PySem PySem.Spec PyProof.Rows L2
open Evl (Ex fresh_back)

/-! ### targets -/
/-- ts: the slots it stores -/
def DenG (X : Cx) (tg : Expr) (ts : List Nat) (B : D → DEnv → Option DEnv) : Prop :=
  ∃ g : TG, PG X tg g ∧ ∀ (P : Addr → Prop) (b : Bs) (σ : L2.St) (env : DEnv) (G H : Hp) (v : V) (d : D) (env' : DEnv), Rep P b G H σ env → Rp G v d → B d env = some env' →
    ∀ Q : L2.St → Hp → Prop, (∀ σ' : L2.St, Rep P b G H σ' env' → σ'.length = σ.length → (∀ j : Nat, j ∉ ts → σ'[j]? = σ[j]?) → Q σ' H) → g v σ H Q
def DenGs (X : Cx) (es : List Expr) (ts : List Nat) (B : List D → DEnv → Option DEnv) : Prop :=
  ∃ g : TGs, PGs X es g ∧ ∀ (P : Addr → Prop) (b : Bs) (σ : L2.St) (env : DEnv) (G H : Hp) (v : List V) (d : List D) (env' : DEnv), Rep P b G H σ env → RpAll G v d → B d env = some env' →
    ∀ Q : L2.St → Hp → Prop, (∀ σ' : L2.St, Rep P b G H σ' env' → σ'.length = σ.length → (∀ j : Nat, j ∉ ts → σ'[j]? = σ[j]?) → Q σ' H) → g v σ H Q
def gNm (i : Nat) : D → DEnv → Option DEnv := fun d env => some (env.set i (some (SV.fz d)))
def gsNil : List D → DEnv → Option DEnv
  | [], env => some env
  | _, _ => none
def gsCons (B : D → DEnv → Option DEnv) (Bs : List D → DEnv → Option DEnv) : List D → DEnv → Option DEnv
  | d :: ds, env => (match B d env with | some e1 => Bs ds e1 | none => none)
  | _, _ => none
def gTu (n : Nat) (Bs : List D → DEnv → Option DEnv) : D → DEnv → Option DEnv
  | .tuple ds, env => if ds.length = n then Bs ds env else none
  | _, _ => none
section
variable {X : Cx} {pos : Pos}
theorem deng_name (i : Nat) {x : Str} (hN : X.N.Nodup) (hi : X.N[i]? = some x) (hx : Loc X.env.scope x) (hf : X.fn x = true ∨ X.env.scope.names.lookup x = some .local := by first | exact .inl rfl | exact .inr rfl | assumption) : DenG X (.Name x pos) [i] (gNm i) := by
  refine ⟨_, pg_name hN hi hx hf, fun P b σ env G H v d env' r rv h Q q => ?_⟩
  cases h
  refine q _ (r.set rv) (by simp) fun j hj => ?_
  rw [List.getElem?_set_ne]
  intro e
  exact hj (by simp [e])
theorem dengs_nil : DenGs X [] [] gsNil := by
  refine ⟨_, pgs_nil, fun P b σ env G H v d env' r rv h Q q => ?_⟩
  cases rv with
  | nil =>
    cases h
    exact ⟨rfl, q σ r rfl fun _ _ => rfl⟩
  | cons _ _ => cases h
theorem dengs_cons {e : Expr} {es : List Expr} {ts us : List Nat} {B : D → DEnv → Option DEnv} {Bs : List D → DEnv → Option DEnv} (h1 : DenG X e ts B) (h2 : DenGs X es us Bs)
    (hs : (assignEach (e :: es) X.env).map (·.2) = assign e X.env :: (assignEach es X.env).map (·.2) := by rfl) : DenGs X (e :: es) (ts ++ us) (gsCons B Bs) := by
  obtain ⟨g, h1, h1'⟩ := h1
  obtain ⟨u, k1, k2⟩ := h2
  refine ⟨_, pgs_cons h1 k1 hs, fun P b σ env G H v d env' r rv h Q q => ?_⟩
  cases rv with
  | nil => cases h
  | cons hv hr =>
    rename_i v vs d ds
    unfold gsCons at h
    cases w : B d env with
    | none => simp only [w] at h; cases h
    | some e1 =>
      simp only [w] at h
      refine ⟨v, vs, rfl, h1' P b σ env G H v d e1 r hv w _ fun σ1 r1 l1 o1 => k2 P b σ1 e1 G H vs ds env' r1 hr h _ fun σ2 r2 l2 o2 => q σ2 r2 (l2.trans l1) fun j hj => ?_⟩
      rw [List.mem_append, not_or] at hj
      rw [o2 j hj.2, o1 j hj.1]
theorem deng_tup {es : List Expr} {k n : Nat} {ts : List Nat} {Bs : List D → DEnv → Option DEnv} (hc : X.calm = true) (h : DenGs X es ts Bs)
    (hn : (assignEach es X.env).length = n := by rfl) (hst : (assignEach es X.env).findIdx? (·.1) = none := by rfl) : DenG X (.Tuple es k pos) ts (gTu n Bs) := by
  obtain ⟨g, h1, h2⟩ := h
  refine ⟨_, pg_tup hc h1 hn hst, fun P b σ env G H v d env' r rv h Q q => ?_⟩
  cases rv with
  | tup ha ra =>
    rename_i a xs ds
    simp only [gTu] at h
    split at h
    · rename_i hl
      exact ⟨a, xs, rfl, .of (r.sub _ _ ha), by rw [ra.length]; exact hl, h2 P b σ env G H xs ds env' r ra h Q q⟩
    · cases h
  | _ => cases h
theorem dens_asg {tg e : Expr} {ts : List Nat} {B : D → DEnv → Option DEnv} {F : Mo D} (he : DenE X e F) (hg : DenG X tg ts B) (hs : swapsWithSole [tg] e pos.line X.env = pure false := by rfl) (hw : swappedStores [tg] e X.env = pure none := by rfl)
    (h1 : (assignEach [tg] X.env).map (·.2) = [assign tg X.env] := by rfl) : DenS X (.Assign [tg] e pos) (fun env => match F env with | some (d, e1) => (B d e1).map .nx | none => none) := by
  obtain ⟨t, k1, k2⟩ := he
  obtain ⟨g, g1, g2⟩ := hg
  refine ⟨_, ps_asg k1 g1 hs hw h1, fun P b σ env G H r rr h Dd q => ?_⟩
  cases w : F env with
  | none => simp only [w] at h; cases h
  | some p =>
    obtain ⟨d, e1⟩ := p
    simp only [w] at h
    cases w2 : B d e1 with
    | none => rw [w2] at h; cases h
    | some e2 =>
      rw [w2] at h
      cases h
      exact k2 P b σ env G H d e1 rr w _ fun v G' H' g r' p => g2 P b σ e1 G' H' v d e2 r' p w2 _ fun σ' r2 _ _ => q σ' G' H' g r2
end

/-! ### what is walked -/
def Yields (J : It) (G : Hp) (ds : List D) : Prop := ∀ (i : Nat) (G1 H : Hp), Ex G G1 → Ex G1 H →
  (ds.length ≤ i → J.stop i H) ∧ ∀ d, ds[i]? = some d → J.go i H ∧ ∀ x H', J.yld i H x H' → ∃ G2, Pu G1 H G2 H' ∧ Rp G2 x d
def DenI (X : Cx) (tg iter : Expr) (F : Mo (List D)) : Prop :=
  ∃ wi : TI, PI X tg iter wi ∧ ∀ (P : Addr → Prop) (b : Bs) (σ : L2.St) (env : DEnv) (G H : Hp) (ds : List D) (env' : DEnv), Rep P b G H σ env → F env = some (ds, env') →
    ∀ R : It → Hp → Prop, (∀ J G' H', Gr P G H G' H' → Rep P b G' H' σ env' → Yields J G' ds → R J H') → wi σ H R
def gLs : D → Option (List D)
  | .list xs => some xs
  | _ => none
def gTs : D → Option (List D)
  | .tuple xs => some xs
  | _ => none
section
variable {X : Cx} {tg e : Expr} {pos : Pos}
theorem deni_list {F : Mo D} (h : DenE X e F) : DenI X tg e (mMap gLs F) := by
  obtain ⟨t, h1, h2⟩ := h
  refine ⟨_, pi_list h1, fun P b σ env G H ds env' rr h R q => ?_⟩
  obtain ⟨z, hk, hz⟩ := mMap_some h
  refine h2 P b σ env G H z env' rr hk _ fun v G' H' g r p => ?_
  cases p with
  | lst ha ra =>
    rename_i a xs es
    cases hz
    refine ⟨a, rfl, ⟨xs, .of (r.sub _ _ ha)⟩, q _ G' H' g r fun i G1 H1 e1 e2 => ⟨fun hi => ⟨xs, .of (e2 _ _ (e1 _ _ ha)), by rw [ra.length]; exact hi⟩, fun d hd => ?_⟩⟩
    obtain ⟨v, hv, rv⟩ := ra.get hd
    refine ⟨⟨xs, v, .of (e2 _ _ (e1 _ _ ha)), hv⟩, fun x H' y => ?_⟩
    obtain ⟨rfl, y⟩ := y
    have := y xs (.of (e2 _ _ (e1 _ _ ha)))
    rw [hv] at this
    cases this
    exact ⟨G1, Pu.refl e2, rv.mono e1⟩
  | _ => cases hz
theorem deni_tup {F : Mo D} (h : DenE X e F) : DenI X tg e (mMap gTs F) := by
  obtain ⟨t, h1, h2⟩ := h
  refine ⟨_, pi_tup h1, fun P b σ env G H ds env' rr h R q => ?_⟩
  obtain ⟨z, hk, hz⟩ := mMap_some h
  refine h2 P b σ env G H z env' rr hk _ fun v G' H' g r p => ?_
  cases p with
  | tup ha ra =>
    rename_i a xs es
    cases hz
    refine ⟨a, rfl, ⟨xs, .of (r.sub _ _ ha)⟩, q _ G' H' g r fun i G1 H1 e1 e2 => ⟨fun hi => ⟨xs, .of (e2 _ _ (e1 _ _ ha)), by rw [ra.length]; exact hi⟩, fun d hd => ?_⟩⟩
    obtain ⟨v, hv, rv⟩ := ra.get hd
    refine ⟨⟨xs, v, .of (e2 _ _ (e1 _ _ ha)), hv⟩, fun x H' y => ?_⟩
    obtain ⟨rfl, y⟩ := y
    have := y xs (.of (e2 _ _ (e1 _ _ ha)))
    rw [hv] at this
    cases this
    exact ⟨G1, Pu.refl e2, rv.mono e1⟩
  | _ => cases hz
def rangeD (lo : Int) (n : Nat) : List D := (List.range n).map fun (i : Nat) => PyData.int (lo + i)
theorem rangeD_get {lo : Int} {n i : Nat} {d : D} (h : (rangeD lo n)[i]? = some d) : i < n ∧ d = .int (lo + i) := by
  unfold rangeD at h
  rw [List.getElem?_map] at h
  by_cases hi : i < n
  · rw [List.getElem?_range hi] at h
    cases h
    exact ⟨hi, rfl⟩
  · rw [List.getElem?_eq_none (by simpa using hi)] at h
    cases h
theorem rangeD_len (lo : Int) (n : Nat) : (rangeD lo n).length = n := by unfold rangeD; simp
theorem yields_range {G : Hp} (lo : Int) (n : Nat) : Yields (Itr lo n) G (rangeD lo n) := fun i G1 H e1 e2 =>
  ⟨fun hi => by rw [rangeD_len] at hi; exact hi, fun d hd => by
    obtain ⟨h1, rfl⟩ := rangeD_get hd
    exact ⟨h1, fun x H' y => by
      obtain ⟨rfl, rfl⟩ := y
      exact ⟨G1, Pu.refl e2, .int _⟩⟩⟩
def gRg1 : List D → Option (List D)
  | [.int j] => if -(2 ^ 62) ≤ j ∧ j < 2 ^ 62 then some (rangeD 0 j.toNat) else none
  | _ => none
def gRg2 : List D → Option (List D)
  | [.int i, .int j] => if -(2 ^ 62) ≤ i ∧ i < 2 ^ 62 ∧ -(2 ^ 62) ≤ j ∧ j < 2 ^ 62 then some (rangeD i (j - i).toNat) else none
  | _ => none
theorem RpAll.inv1 {G : Hp} {vs : List V} {d : D} (h : RpAll G vs [d]) : ∃ v, vs = [v] ∧ Rp G v d := by
  cases h with | cons a r => cases r; exact ⟨_, rfl, a⟩
theorem RpAll.inv2 {G : Hp} {vs : List V} {d e : D} (h : RpAll G vs [d, e]) : ∃ v w, vs = [v, w] ∧ Rp G v d ∧ Rp G w e := by
  cases h with | cons a r => obtain ⟨w, rfl, b⟩ := r.inv1; exact ⟨_, _, rfl, a, b⟩
theorem RpAll.inv3 {G : Hp} {vs : List V} {d e f : D} (h : RpAll G vs [d, e, f]) : ∃ v w u, vs = [v, w, u] ∧ Rp G v d ∧ Rp G w e ∧ Rp G u f := by
  cases h with | cons a r => obtain ⟨w, u, rfl, b, c⟩ := r.inv2; exact ⟨_, _, _, rfl, a, b, c⟩
theorem deni_range1 {a : Expr} {p : Pos} {F : Mo (List D)} (hg : Gl X "range") (hm : X.mg "range" = none) (ha : DenA X [a] F) (hs : starEach [a] X.env = [(false, eval a X.env)] := by rfl) : DenI X tg (.Call (.Name "range" p) [a] [] pos) (mMap gRg1 F) := by
  obtain ⟨t, h1, h2⟩ := ha
  refine ⟨_, pi_range1 hg hm h1 hs, fun P b σ env G H ds env' rr h R q => ?_⟩
  obtain ⟨z, hk, hz⟩ := mMap_some h
  refine h2 P b σ env G H z env' rr hk _ fun v G' H' g r p => ?_
  unfold gRg1 at hz
  split at hz
  · rename_i j
    split at hz
    · rename_i hj
      cases hz
      obtain ⟨w, rfl, hw⟩ := p.inv1
      exact ⟨j, by rw [hw.inv_int], hj.1, hj.2, q _ G' H' g r (yields_range 0 _)⟩
    · cases hz
  · cases hz
theorem deni_range2 {a b : Expr} {p : Pos} {F : Mo (List D)} (hg : Gl X "range") (hm : X.mg "range" = none) (ha : DenA X [a, b] F) (hs : starEach [a, b] X.env = [(false, eval a X.env), (false, eval b X.env)] := by rfl) (hs2 : starEach [b] X.env = [(false, eval b X.env)] := by rfl) :
    DenI X tg (.Call (.Name "range" p) [a, b] [] pos) (mMap gRg2 F) := by
  obtain ⟨t, h1, h2⟩ := ha
  refine ⟨_, pi_range2 hg hm h1 hs hs2, fun P b σ env G H ds env' rr h R q => ?_⟩
  obtain ⟨z, hk, hz⟩ := mMap_some h
  refine h2 P b σ env G H z env' rr hk _ fun v G' H' g r p => ?_
  unfold gRg2 at hz
  split at hz
  · rename_i i j
    split at hz
    · rename_i hj
      cases hz
      obtain ⟨w, u, rfl, hw, hu⟩ := p.inv2
      exact ⟨i, j, by rw [hw.inv_int, hu.inv_int], hj, q _ G' H' g r (yields_range i _)⟩
    · cases hz
  · cases hz
end

/-! ### for -/
def forGo (tgt : D → DEnv → Option DEnv) (body : So) : List D → DEnv → Option Fl
  | [], e => some (.nx e)
  | d :: ds, e =>
    match tgt d e with
    | none => none
    | some e1 =>
      match body e1 with
      | none => none
      | some (.nx e2) => forGo tgt body ds e2
      | some (.ct e2) => forGo tgt body ds e2
      | some (.bk e2) => some (.nx e2)
      | some (.rt d e2) => some (.rt d e2)
def sFor (items : Mo (List D)) (tgt : D → DEnv → Option DEnv) (body : So) : So := fun env =>
  match items env with
  | some (ds, e1) => forGo tgt body ds e1
  | none => none
section
variable {X : Cx} {tg e iter : Expr} {pos : Pos} {body : List Stmt}
theorem dens_for {ts : List Nat} {Fi : Mo (List D)} {B : D → DEnv → Option DEnv} {Fb : So} (hp : PassesOwn (model X.prog X.w) X.A X.env X.xe) (hc : X.calm = true) (hi : DenI X tg iter Fi) (hg : DenG X tg ts B) (hb : DenSs X body Fb)
    (hs : ∀ x, foldedSetIterable iter X.env x = pure x := by intro _; rfl) : DenS X (.For tg iter body [] pos) (sFor Fi B Fb) := by
  obtain ⟨wi, i1, i2⟩ := hi
  obtain ⟨g, g1, g2⟩ := hg
  obtain ⟨tb, b1, b2⟩ := hb
  refine ⟨_, ps_for hp hc i1 g1 b1 hs, fun P b σ env G H r rr h Dd q => ?_⟩
  unfold sFor at h
  split at h
  · rename_i ds e1 hd
    refine i2 P b σ env G H ds e1 rr hd _ fun J G1 H1 gr1 r1 hy => ?_
    refine ⟨fun i m σ' H' => m = ds.length - i ∧ i ≤ ds.length ∧ ∃ e G', Gr P G1 H1 G' H' ∧ Rep P b G' H' σ' e ∧ forGo B Fb (ds.drop i) e = some r, ⟨_, rfl, Nat.zero_le _, e1, G1, Gr.refl, r1, by rw [List.drop_zero]; exact h⟩, ?_⟩
    rintro i m σ' H' ⟨rfl, hi, e, G', gr, r', hf⟩
    by_cases hlt : i < ds.length
    · have hdi : ds[i]? = some ds[i] := List.getElem?_eq_getElem hlt
      obtain ⟨go, yl⟩ := (hy i G' H' gr.g r'.sub).2 _ hdi
      refine .inr ⟨go, fun σ2 H2 => i + 1 ≤ ds.length ∧ ∃ e G2, Gr P G1 H1 G2 H2 ∧ Rep P b G2 H2 σ2 e ∧ forGo B Fb (ds.drop (i + 1)) e = some r, fun σ2 H2 h2 => ⟨ds.length - (i + 1), by omega, rfl, h2⟩, fun x H2 y => ?_⟩
      obtain ⟨G2, pu, rx⟩ := yl x H2 y
      rw [List.drop_eq_getElem_cons hlt] at hf
      unfold forGo at hf
      cases w : B ds[i] e with
      | none => simp only [w] at hf; cases hf
      | some e2 =>
        simp only [w] at hf
        have gr2 := gr.trans (pu.gr r'.fresh)
        refine g2 P b σ' e G2 H2 x _ e2 (r'.pu pu) rx w _ fun σ2 r2 _ _ => ?_
        cases w2 : Fb e2 with
        | none => simp only [w2] at hf; cases hf
        | some r3 =>
          simp only [w2] at hf
          refine b2 P b σ2 e2 G2 H2 r3 r2 w2 _ ?_
          cases r3 with
          | nx e3 => exact fun σ3 G3 H3 g3 r3 => ⟨hlt, e3, G3, gr2.trans g3, r3, hf⟩
          | ct e3 => exact fun σ3 G3 H3 g3 r3 => ⟨hlt, e3, G3, gr2.trans g3, r3, hf⟩
          | bk e3 =>
            cases hf
            exact fun σ3 G3 H3 g3 r3 => q σ3 G3 H3 ((gr1.trans gr2).trans g3) r3
          | rt d e3 =>
            cases hf
            exact fun v σ3 G3 H3 g3 r3 p => q v σ3 G3 H3 ((gr1.trans gr2).trans g3) r3 p
    · have e0 : i = ds.length := by omega
      subst e0
      rw [List.drop_length] at hf
      cases hf
      exact .inl ⟨(hy _ G' H' gr.g r'.sub).1 (Nat.le_refl _), q σ' G' H' (gr1.trans gr) r'⟩
  · cases h
end
end Dn

/-! V8: list comprehensions. -/
namespace Dn
open PySem PySem.Spec PyProof.Rows L2
open Evl (Ex fresh_back)

/-! ### the comprehension's own names -/
def wipeGo (vs : List Nat) : Nat → DEnv → DEnv
  | _, [] => []
  | k, s :: e => (if vs.contains k then none else s) :: wipeGo vs (k + 1) e
def wipeD (e : DEnv) (vs : List Nat) : DEnv := wipeGo vs 0 e
def restGo (vs : List Nat) : Nat → DEnv → DEnv → DEnv
  | k, s :: e1, t :: e2 => (if vs.contains k then s else t) :: restGo vs (k + 1) e1 e2
  | _, _, _ => []
/-- e2, the names at vs as in e1 -/
def restD (e1 e2 : DEnv) (vs : List Nat) : DEnv := restGo vs 0 e1 e2
def fzOnly : Option SV → Bool
  | some (SV.ow _ _ _) => false
  | _ => true
def okW (e : DEnv) (vs : List Nat) : Bool := vs.all fun i => fzOnly (e[i]?.getD none)
theorem wipeGo_get (vs : List Nat) : ∀ (e : DEnv) (k i : Nat), (wipeGo vs k e)[i]? = if vs.contains (k + i) then (e[i]?).map (fun _ => none) else e[i]?
  | [], k, i => by simp [wipeGo]
  | s :: e, k, 0 => by
    simp only [wipeGo, List.getElem?_cons_zero, Nat.add_zero]
    split <;> simp_all
  | s :: e, k, i + 1 => by
    simp only [wipeGo, List.getElem?_cons_succ]
    rw [wipeGo_get vs e (k + 1) i, show k + 1 + i = k + (i + 1) by omega]
theorem wipeD_get (e : DEnv) (vs : List Nat) (i : Nat) : (wipeD e vs)[i]? = if vs.contains i then (e[i]?).map (fun _ => none) else e[i]? := by
  unfold wipeD
  rw [wipeGo_get, Nat.zero_add]
theorem wipeGo_len (vs : List Nat) : ∀ (e : DEnv) (k : Nat), (wipeGo vs k e).length = e.length
  | [], _ => rfl
  | s :: e, k => by simp [wipeGo, wipeGo_len vs e (k + 1)]
theorem wipeD_len (e : DEnv) (vs : List Nat) : (wipeD e vs).length = e.length := wipeGo_len vs e 0
theorem restGo_get (vs : List Nat) : ∀ (e1 e2 : DEnv) (k i : Nat), e1.length = e2.length → (restGo vs k e1 e2)[i]? = if vs.contains (k + i) then e1[i]? else e2[i]?
  | [], [], k, i, _ => by simp [restGo]
  | s :: e1, t :: e2, k, 0, _ => by
    simp only [restGo, List.getElem?_cons_zero, Nat.add_zero]
    split <;> rfl
  | s :: e1, t :: e2, k, i + 1, h => by
    simp only [restGo, List.getElem?_cons_succ]
    rw [restGo_get vs e1 e2 (k + 1) i (by simpa using h), show k + 1 + i = k + (i + 1) by omega]
theorem restD_get (e1 e2 : DEnv) (vs : List Nat) (i : Nat) (h : e1.length = e2.length) : (restD e1 e2 vs)[i]? = if vs.contains i then e1[i]? else e2[i]? := by
  unfold restD
  rw [restGo_get _ _ _ _ _ h, Nat.zero_add]
theorem restGo_len (vs : List Nat) : ∀ (e1 e2 : DEnv) (k : Nat), e1.length = e2.length → (restGo vs k e1 e2).length = e2.length
  | [], [], _, _ => rfl
  | s :: e1, t :: e2, k, h => by simp [restGo, restGo_len vs e1 e2 (k + 1) (by simpa using h)]
theorem contains_iff {vs : List Nat} {i : Nat} : vs.contains i = true ↔ i ∈ vs := by simp
theorem wipe_in {σ : L2.St} {i : Nat} : ∀ {vs : List Nat}, i ∈ vs → i < σ.length → (wipe σ vs)[i]? = some none
  | v :: vs, hi, hl => by
    unfold wipe
    by_cases hv : v = i
    · subst hv
      rw [List.getElem?_set_self (by rw [wipe_length]; exact hl)]
    · rw [List.getElem?_set_ne hv]
      refine wipe_in ?_ hl
      rcases List.mem_cons.mp hi with e | e
      · exact absurd e.symm hv
      · exact e
theorem wipe_eq {σ σ2 : L2.St} {ts vs : List Nat} (hl : σ2.length = (wipe σ vs).length) (ho : ∀ j : Nat, j ∉ ts → σ2[j]? = (wipe σ vs)[j]?) (hs : ∀ j ∈ ts, j ∈ vs) : wipe σ2 vs = wipe σ vs := by
  rw [wipe_length] at hl
  refine List.ext_getElem? fun j => ?_
  by_cases hj : j ∈ vs
  · by_cases hlt : j < σ.length
    · rw [wipe_in hj hlt, wipe_in hj (by omega)]
    · rw [List.getElem?_eq_none (by rw [wipe_length]; omega), List.getElem?_eq_none (by rw [wipe_length]; omega)]
  · rw [wipe_out hj, ho j fun h => hj (hs j h)]
section
variable {P : Addr → Prop} {b : Bs} {G H : Hp} {σ : L2.St} {env : DEnv}
theorem wipeD_some {e : DEnv} {vs : List Nat} {i : Nat} {s : SV} (h : (wipeD e vs)[i]? = some (some s)) : i ∉ vs ∧ e[i]? = some (some s) := by
  rw [wipeD_get] at h
  split at h
  · cases w : e[i]? with
    | none => rw [w] at h; cases h
    | some z => rw [w] at h; cases h
  · rename_i hc
    exact ⟨fun m => hc (contains_iff.mpr m), h⟩
theorem Rep.wipe (r : Rep P b G H σ env) (vs : List Nat) : Rep P b G H (wipe σ vs) (wipeD env vs) := by
  obtain ⟨L, hL, hr⟩ := r.rep
  refine ⟨by rw [wipe_length, wipeD_len]; exact r.len, r.sub, r.fresh, L, hL, fun i s h => ?_⟩
  obtain ⟨hi, h⟩ := wipeD_some h
  rw [wipe_out hi]
  exact hr i s h
/-- the names as they were, the lists of one's own as they are -/
theorem Rep.back {P' : Addr → Prop} {G1 H1 : Hp} {e1 e2 : DEnv} {vs : List Nat} (r1 : Rep P b G1 H1 σ e1) (r2 : Rep P' b G H (L2.wipe σ vs) e2) (hg : Ex G1 G) (ok : okW e1 vs = true) : Rep P' b G H σ (restD e1 e2 vs) := by
  have hl : e1.length = e2.length := by
    rw [← r1.len, ← r2.len, wipe_length]
  have okv : ∀ (i : Nat) (s : SV), i ∈ vs → e1[i]? = some (some s) → ∃ d, s = .fz d := fun i s hi h => by
    have := List.all_eq_true.mp ok i hi
    rw [h] at this
    cases s with
    | fz d => exact ⟨d, rfl⟩
    | ow _ _ ds => cases this
  obtain ⟨L, hL, hr⟩ := r2.rep
  refine ⟨?_, r2.sub, r2.fresh, L, hL, fun i s h => ?_⟩
  · show σ.length = (restGo vs 0 e1 e2).length
    rw [restGo_len _ _ _ _ hl, ← hl, r1.len]
  · rw [restD_get _ _ _ _ hl] at h
    split at h
    · rename_i hc
      have hi := contains_iff.mp hc
      obtain ⟨d, rfl⟩ := okv i s hi h
      obtain ⟨v, h1, h2⟩ := r1.fz i d h
      exact ⟨v, h1, h2.mono hg⟩
    · rename_i hc
      obtain ⟨v, h1, h2⟩ := hr i s h
      rw [wipe_out (fun m => hc (contains_iff.mpr m))] at h1
      exact ⟨v, h1, h2⟩
end

/-! ### list comprehensions -/
def lcGo (tgt : D → DEnv → Option DEnv) (test : Mo Bool) (elt : Mo D) (vs : List Nat) : List D → DEnv → Option (List D × DEnv)
  | [], e => some ([], e)
  | d :: ds, e =>
    match tgt d e with
    | none => none
    | some e1 =>
      match test e1 with
      | none => none
      | some (k, e2) =>
        if k = true then
          match elt e2 with
          | none => none
          | some (y, e3) =>
            match lcGo tgt test elt vs ds (wipeD e3 vs) with
            | none => none
            | some (ys, e4) => some (y :: ys, e4)
        else lcGo tgt test elt vs ds (wipeD e2 vs)
def mLc (items : Mo (List D)) (tgt : D → DEnv → Option DEnv) (test : Mo Bool) (elt : Mo D) (vs : List Nat) : Mo (List D) := fun env =>
  match items env with
  | none => none
  | some (ds, e1) =>
    if decide (ds.length ≤ 100000) && okW e1 vs then
      match lcGo tgt test elt vs ds (wipeD e1 vs) with
      | none => none
      | some (ys, e2) => some (ys, restD e1 e2 vs)
    else none
def DenTs (X : Cx) (ifs : List Expr) (F : Mo Bool) : Prop :=
  ∃ t : TT, PTs X ifs t ∧ ∀ (P : Addr → Prop) (b : Bs) (σ : L2.St) (env : DEnv) (G H : Hp) (d : Bool) (env' : DEnv), Rep P b G H σ env → F env = some (d, env') →
    ∀ Q : Bool → Hp → Prop, (∀ G' H', Gr P G H G' H' → Rep P b G' H' σ env' → Q d H') → t σ H Q
theorem dents_nil {X : Cx} : DenTs X [] (mRet true) := by
  refine ⟨_, pts_nil, fun P b σ env G H d env' r h Q q => ?_⟩
  obtain ⟨rfl, rfl⟩ := mRet_some h
  exact q G H Gr.refl r
theorem dents_one {X : Cx} {c : Expr} {F : Mo Bool} (h : DenT X c F) : DenTs X [c] F := by
  obtain ⟨t, h1, h2⟩ := h
  exact ⟨_, pts_one h1, h2⟩
section
variable {X : Cx} {tg e iter elt : Expr} {pos : Pos} {ifs : List Expr} {scope : Scope}
theorem lc_run {ts vs : List Nat} {Fi : Mo (List D)} {B : D → DEnv → Option DEnv} {Ft : Mo Bool} {Fe : Mo D} {wi : TI} {g : TG} {tt : TT} {te : TE}
    (i2 : ∀ (P : Addr → Prop) (b : Bs) (σ : L2.St) (env : DEnv) (G H : Hp) (ds : List D) (env' : DEnv), Rep P b G H σ env → Fi env = some (ds, env') →
      ∀ R : It → Hp → Prop, (∀ J G' H', Gr P G H G' H' → Rep P b G' H' σ env' → Yields J G' ds → R J H') → wi σ H R)
    (g2 : ∀ (P : Addr → Prop) (b : Bs) (σ : L2.St) (env : DEnv) (G H : Hp) (v : V) (d : D) (env' : DEnv), Rep P b G H σ env → Rp G v d → B d env = some env' →
      ∀ Q : L2.St → Hp → Prop, (∀ σ' : L2.St, Rep P b G H σ' env' → σ'.length = σ.length → (∀ j : Nat, j ∉ ts → σ'[j]? = σ[j]?) → Q σ' H) → g v σ H Q)
    (t2 : ∀ (P : Addr → Prop) (b : Bs) (σ : L2.St) (env : DEnv) (G H : Hp) (d : Bool) (env' : DEnv), Rep P b G H σ env → Ft env = some (d, env') →
      ∀ Q : Bool → Hp → Prop, (∀ G' H', Gr P G H G' H' → Rep P b G' H' σ env' → Q d H') → tt σ H Q)
    (e2 : ∀ (P : Addr → Prop) (b : Bs) (σ : L2.St) (env : DEnv) (G H : Hp) (d : D) (env' : DEnv), Rep P b G H σ env → Fe env = some (d, env') →
      ∀ Q : VK, (∀ v G' H', Gr P G H G' H' → Rep P b G' H' σ env' → Rp G' v d → Q v H') → te σ H Q)
    (hts : ∀ j ∈ ts, j ∈ vs) {P : Addr → Prop} {b : Bs} {σ : L2.St} {env : DEnv} {G H : Hp} {out : List D} {env' : DEnv} (rr : Rep P b G H σ env) (h : mLc Fi B Ft Fe vs env = some (out, env')) (Q : VK)
    (q : ∀ p vs G' H', Gr P G H G' H' → Rep (fun a => P a ∧ a ≠ p) b G' H' σ env' → P p → G' p = none → H' p = some (.lst vs) → RpAll G' vs out → Q (.ref p) H') : tLc wi g tt te vs σ H Q := by
  unfold mLc at h
  cases w : Fi env with
  | none => rw [w] at h; cases h
  | some pr =>
    obtain ⟨ds, e1⟩ := pr
    simp only [w] at h
    split at h
    · rename_i hc
      rw [Bool.and_eq_true, decide_eq_true_eq] at hc
      obtain ⟨hlen, hok⟩ := hc
      cases w2 : lcGo B Ft Fe vs ds (wipeD e1 vs) with
      | none => simp only [w2] at h; cases h
      | some pr2 =>
        obtain ⟨ys, ef⟩ := pr2
        simp only [w2] at h
        cases h
        refine i2 P b σ env G H ds e1 rr w _ fun J G1 H1 gr1 r1 hy Dl hD => ?_
        have hPD : P Dl := r1.fresh Dl hD
        have hGD : G1 Dl = none := fresh_back r1.sub hD
        have start0 : Rep (fun a => P a ∧ a ≠ Dl) b G1 (upd H1 Dl (.lst [])) (wipe σ vs) (wipeD e1 vs) := (r1.wipe vs).newH hD
        have gr0 : Gr P G1 H1 G1 (upd H1 Dl (.lst [])) := ⟨Ex.refl _, fun a o ha n => by
          rw [upd_ne (ne_of_none ha hD)]
          exact ha, fun _ _ n => n⟩
        refine ⟨fun i m H' => m = ds.length - i ∧ i ≤ ds.length ∧ ∃ e G' acc accd zs, Gr P G1 H1 G' H' ∧ Rep (fun a => P a ∧ a ≠ Dl) b G' H' (wipe σ vs) e ∧ H' Dl = some (.lst acc) ∧ G' Dl = none ∧ RpAll G' acc accd ∧ acc.length ≤ i ∧
          lcGo B Ft Fe vs (ds.drop i) e = some (zs, ef) ∧ accd ++ zs = out, ⟨_, rfl, Nat.zero_le _, _, G1, [], [], out, gr0, start0, upd_same, hGD, .nil, Nat.zero_le _, by rw [List.drop_zero]; exact w2, rfl⟩, ?_⟩
        rintro i m H' ⟨rfl, hi, e, G', acc, accd, zs, gr, r', hacc, hGn, ra, hal, hf, hout⟩
        by_cases hlt : i < ds.length
        · have hdi : ds[i]? = some ds[i] := List.getElem?_eq_getElem hlt
          obtain ⟨go, yl⟩ := (hy i G' H' gr.g r'.sub).2 _ hdi
          refine .inr ⟨go, fun H2 => i + 1 ≤ ds.length ∧ ∃ e G' acc accd zs, Gr P G1 H1 G' H2 ∧ Rep (fun a => P a ∧ a ≠ Dl) b G' H2 (wipe σ vs) e ∧ H2 Dl = some (.lst acc) ∧ G' Dl = none ∧ RpAll G' acc accd ∧ acc.length ≤ i + 1 ∧
            lcGo B Ft Fe vs (ds.drop (i + 1)) e = some (zs, ef) ∧ accd ++ zs = out, fun H2 h2 => ⟨ds.length - (i + 1), by omega, rfl, h2⟩, fun x H2 y => ?_⟩
          obtain ⟨G2, pu, rx⟩ := yl x H2 y
          rw [List.drop_eq_getElem_cons hlt] at hf
          unfold lcGo at hf
          have r2 := r'.pu pu
          have nP : ¬ (P Dl ∧ Dl ≠ Dl) := fun z => z.2 rfl
          have wk : ∀ {Ga Ha Gb Hb : Hp}, Gr (fun a => P a ∧ a ≠ Dl) Ga Ha Gb Hb → Gr P Ga Ha Gb Hb := fun g => g.wk fun x h => h.1
          have grA : Gr P G1 H1 G2 H2 := gr.trans (wk (pu.gr r'.fresh))
          have accA : H2 Dl = some (.lst acc) := pu.h _ _ hacc
          have gnA : G2 Dl = none := pu.n Dl (some_ne hacc) hGn
          cases w3 : B ds[i] e with
          | none => simp only [w3] at hf; cases hf
          | some eb =>
            simp only [w3] at hf
            refine g2 _ b (wipe σ vs) e G2 H2 x _ eb r2 rx w3 _ fun σ2 r3 l3 o3 => ⟨wipe_eq l3 o3 hts, ?_⟩
            have ew : wipe σ2 vs = wipe σ vs := wipe_eq l3 o3 hts
            cases w4 : Ft eb with
            | none => simp only [w4] at hf; cases hf
            | some pr4 =>
              obtain ⟨k, et⟩ := pr4
              simp only [w4] at hf
              refine t2 _ b σ2 eb G2 H2 k et r3 w4 _ fun G3 H3 g3 r4 => ?_
              have accB : H3 Dl = some (.lst acc) := g3.h _ _ accA nP
              have gnB : G3 Dl = none := g3.n Dl nP gnA
              cases k with
              | false =>
                simp only [if_neg (show ¬ (false = true) by decide)] at hf ⊢
                refine ⟨hlt, wipeD et vs, G3, acc, accd, zs, grA.trans (wk g3), ?_, accB, gnB, (ra.mono pu.g).mono g3.g, Nat.le_succ_of_le hal, hf, hout⟩
                rw [← ew]
                exact r4.wipe vs
              | true =>
                simp only [if_pos (show true = true from rfl)] at hf ⊢
                cases w5 : Fe et with
                | none => simp only [w5] at hf; cases hf
                | some pr5 =>
                  obtain ⟨yd, ee⟩ := pr5
                  simp only [w5] at hf
                  cases w6 : lcGo B Ft Fe vs (ds.drop (i + 1)) (wipeD ee vs) with
                  | none => simp only [w6] at hf; cases hf
                  | some pr6 =>
                    obtain ⟨ys6, e6⟩ := pr6
                    simp only [w6] at hf
                    cases hf
                    refine e2 _ b σ2 et G3 H3 yd ee r4 w5 _ fun v G4 H4 g4 r5 pv => ?_
                    have accC : H4 Dl = some (.lst acc) := g4.h _ _ accB nP
                    have gnC : G4 Dl = none := g4.n Dl nP gnB
                    refine ⟨acc, accC, line_lt (by omega), hlt, wipeD ee vs, G4, acc ++ [v], accd ++ [yd], ys6, ?_, ?_, upd_same, gnC, (((ra.mono pu.g).mono g3.g).mono g4.g).append (.cons pv .nil), by rw [List.length_append]; simpa using hal, w6, by rw [List.append_assoc]; exact hout⟩
                    · have gg := (grA.trans (wk g3)).trans (wk g4)
                      exact ⟨gg.g, fun a o ha n => by
                        rw [upd_ne (show a ≠ Dl from fun z => n (by rw [z]; exact hPD))]
                        exact gg.h a o ha n, gg.n⟩
                    · rw [← ew]
                      exact (r5.wipe vs).updH nP gnC
        · have e0 : i = ds.length := by omega
          subst e0
          rw [List.drop_length] at hf
          cases hf
          rw [List.append_nil] at hout
          subst hout
          exact .inl ⟨(hy _ G' H' gr.g r'.sub).1 (Nat.le_refl _), q Dl acc G' H' (gr1.trans gr) (r1.back r' gr.g hok) hPD hGn hacc ra⟩
    · cases h
/-! the readings by what is worth alone -/
def cE (F : Mo D) : TE := fun σ H Q => ∃ (P : Addr → Prop) (b : Bs) (env : DEnv) (G : Hp) (d : D) (env' : DEnv), Rep P b G H σ env ∧ F env = some (d, env') ∧ ∀ v G' H', Gr P G H G' H' → Rep P b G' H' σ env' → Rp G' v d → Q v H'
def cTs (F : Mo Bool) : TT := fun σ H Q => ∃ (P : Addr → Prop) (b : Bs) (env : DEnv) (G : Hp) (d : Bool) (env' : DEnv), Rep P b G H σ env ∧ F env = some (d, env') ∧ ∀ G' H', Gr P G H G' H' → Rep P b G' H' σ env' → Q d H'
def cG (ts : List Nat) (B : D → DEnv → Option DEnv) : TG := fun v σ H Q => ∃ (P : Addr → Prop) (b : Bs) (env : DEnv) (G : Hp) (d : D) (env' : DEnv), Rep P b G H σ env ∧ Rp G v d ∧ B d env = some env' ∧
  ∀ σ' : L2.St, Rep P b G H σ' env' → σ'.length = σ.length → (∀ j : Nat, j ∉ ts → σ'[j]? = σ[j]?) → Q σ' H
theorem DenE.pe {X : Cx} {e : Expr} {F : Mo D} (h : DenE X e F) : PE X e (cE F) := by
  obtain ⟨t, h1, h2⟩ := h
  exact ⟨fun pins s σ H Q I ⟨P, b, env, G, d, env', r, hF, q⟩ => h1.run pins s σ H Q I (h2 P b σ env G H d env' r hF Q q)⟩
theorem DenTs.pe {X : Cx} {e : List Expr} {F : Mo Bool} (h : DenTs X e F) : PTs X e (cTs F) := by
  obtain ⟨t, h1, h2⟩ := h
  exact ⟨fun pins s σ H Q I ⟨P, b, env, G, d, env', r, hF, q⟩ => h1.run pins s σ H Q I (h2 P b σ env G H d env' r hF Q q)⟩
theorem DenG.pe {X : Cx} {e : Expr} {ts : List Nat} {B : D → DEnv → Option DEnv} (h : DenG X e ts B) : PG X e (cG ts B) := by
  obtain ⟨t, h1, h2⟩ := h
  exact ⟨fun pins s σ H v u Q I rv ⟨P, b, env, G, d, env', r, hv, hB, q⟩ => h1.run pins s σ H v u Q I rv (h2 P b σ env G H v d env' r hv hB Q q)⟩
theorem cE_run {F : Mo D} {P : Addr → Prop} {b : Bs} {σ : L2.St} {env : DEnv} {G H : Hp} {d : D} {env' : DEnv} (r : Rep P b G H σ env) (h : F env = some (d, env')) (Q : VK) (q : ∀ v G' H', Gr P G H G' H' → Rep P b G' H' σ env' → Rp G' v d → Q v H') : cE F σ H Q := ⟨P, b, env, G, d, env', r, h, q⟩
theorem cTs_run {F : Mo Bool} {P : Addr → Prop} {b : Bs} {σ : L2.St} {env : DEnv} {G H : Hp} {d : Bool} {env' : DEnv} (r : Rep P b G H σ env) (h : F env = some (d, env')) (Q : Bool → Hp → Prop) (q : ∀ G' H', Gr P G H G' H' → Rep P b G' H' σ env' → Q d H') : cTs F σ H Q := ⟨P, b, env, G, d, env', r, h, q⟩
theorem cG_run {ts : List Nat} {B : D → DEnv → Option DEnv} {P : Addr → Prop} {b : Bs} {σ : L2.St} {env : DEnv} {G H : Hp} {v : V} {d : D} {env' : DEnv} (r : Rep P b G H σ env) (rv : Rp G v d) (h : B d env = some env') (Q : L2.St → Hp → Prop)
    (q : ∀ σ' : L2.St, Rep P b G H σ' env' → σ'.length = σ.length → (∀ j : Nat, j ∉ ts → σ'[j]? = σ[j]?) → Q σ' H) : cG ts B v σ H Q := ⟨P, b, env, G, d, env', r, rv, h, q⟩
/-- a comprehension: its target, tests and element are spoken of in every block that it may run in -/
theorem denn_lc (own : List (Str × Nat)) {ts vs : List Nat} {Fi : Mo (List D)} {B : D → DEnv → Option DEnv} {Ft : Mo Bool} {Fe : Mo D} (hc : X.calm = true) (hN : X.N.Nodup) (hi : DenI X tg iter Fi) (ok : BlkOk X.N X.env.scope scope own)
    (hg : ∀ (s : Shared) (H : Hp) (C : Addr) (cl : List (Str × Addr)) (fp : List Addr), DenG (X.blk s H scope (compEnvC scope cl C X.env) fp) tg ts B)
    (ht : ∀ (s : Shared) (H : Hp) (C : Addr) (cl : List (Str × Addr)) (fp : List Addr), DenTs (X.blk s H scope (compEnvC scope cl C X.env) fp) ifs Ft)
    (he : ∀ (s : Shared) (H : Hp) (C : Addr) (cl : List (Str × Addr)) (fp : List Addr), DenE (X.blk s H scope (compEnvC scope cl C X.env) fp) elt Fe)
    (hvs : own.map (·.2) = vs := by rfl) (hts : ∀ j ∈ ts, j ∈ vs := by decide) (hs : ∀ x, foldedSetIterable iter X.env x = pure x := by intro _; rfl) :
    DenN X (.ListComp elt [⟨tg, iter, ifs, 0⟩] scope pos) 1 (mMap (fun ds => some (.list ds)) (mLc Fi B Ft Fe vs)) := by
  obtain ⟨wi, i1, i2⟩ := hi
  subst hvs
  exact ⟨_, pe_lc hc hN i1 ok (fun s H C cl fp => (hg s H C cl fp).pe) (fun s H C cl fp => (ht s H C cl fp).pe) (fun s H C cl fp => (he s H C cl fp).pe) hs, fun P b σ env G H out env' rr h Q q => by
    obtain ⟨ds, hd, hz⟩ := mMap_some h
    cases hz
    exact lc_run i2 (fun P b σ env G H v d env' r rv hB Q q => cG_run r rv hB Q q) (fun P b σ env G H d env' r hF Q q => cTs_run r hF Q q) (fun P b σ env G H d env' r hF Q q => cE_run r hF Q q) hts rr hd Q fun p vs G' H' g r hP hg hh ra => q _ G' H' (fun a => a = p) g r (Tree.one hP hg hh ra)⟩
end
end Dn

/-! V9: statements about one's own. -/
namespace Dn
open PySem PySem.Spec PyProof.Rows L2
open Evl (Ex fresh_back)
open Classical in
section
variable {P : Addr → Prop} {bs : Bs} {G H : Hp} {σ : L2.St} {env : DEnv}
theorem Rep.own1 (r : Rep P bs G H σ env) {i : Nat} {io : Bool} {ds : List D} (hi : env[i]? = some (some (SV.ow io 0 (.list ds)))) :
    ∃ a vs, σ[i]? = some (some (V.ref a)) ∧ H a = some (.lst vs) ∧ RpAll G vs ds ∧ ∀ ws es, RpAll G ws es → Gr P G H G (upd H a (.lst ws)) ∧ Rep P bs G (upd H a (.lst ws)) σ (env.set i (some (.ow io 0 (.list es)))) := by
  obtain ⟨N, v, hv, t, r', hio⟩ := r.take hi
  obtain ⟨a, vs, rfl, hN, hP, hG, ha, ra⟩ := t.list1 rfl
  refine ⟨a, vs, hv, ha, ra, fun ws es rw' => ⟨⟨Ex.refl G, fun c o hc n => ?_, fun _ _ n => n⟩, ?_⟩⟩
  · rw [upd_ne (show c ≠ a from fun z => n (by rw [z]; exact hP))]
    exact hc
  · have := (r'.updH (o := .lst ws) (fun z => z.2 hN) hG).put (t.set1 rw') hv hio
    rwa [set_set_env] at this
/-- .. two levels deep: an inner list -/
theorem Rep.own2 (r : Rep P bs G H σ env) {i : Nat} {io : Bool} {ds es : List D} {j : Nat} (hi : env[i]? = some (some (SV.ow io 1 (.list ds)))) (hj : ds[j]? = some (.list es)) :
    ∃ a vs b ws, σ[i]? = some (some (V.ref a)) ∧ H a = some (.lst vs) ∧ vs.length = ds.length ∧ vs[j]? = some (.ref b) ∧ H b = some (.lst ws) ∧ P b ∧ RpAll G ws es ∧
      ∀ ws' es', RpAll G ws' es' → Gr P G H G (upd H b (.lst ws')) ∧ Rep P bs G (upd H b (.lst ws')) σ (env.set i (some (.ow io 1 (.list (ds.set j (.list es')))))) := by
  obtain ⟨N, v, hv, t, r', hio⟩ := r.take hi
  obtain ⟨a, vs, rfl, hN, hP, hG, ha, hn, inner⟩ := t.list2 rfl
  have hjl : j < vs.length := by rw [hn]; exact (List.getElem?_eq_some_iff.mp hj).1
  obtain ⟨b, ws, hw, hNb, hPb, hba, hGb, hb, rb⟩ := inner j vs[j] es (List.getElem?_eq_getElem hjl) hj
  have hvj : vs[j]? = some (.ref b) := by rw [List.getElem?_eq_getElem hjl, hw]
  refine ⟨a, vs, b, ws, hv, ha, hn, hvj, hb, hPb, rb, fun ws' es' rw' => ⟨⟨Ex.refl G, fun c o hc n => ?_, fun _ _ n => n⟩, ?_⟩⟩
  · rw [upd_ne (show c ≠ b from fun z => n (by rw [z]; exact hPb))]
    exact hc
  · have := (r'.updH (o := .lst ws') (fun z => z.2 hNb) hGb).put (t.set2 ha hvj hj rw') hv hio
    rwa [set_set_env] at this
end

def ownAt (env : DEnv) (i : Nat) : Option (Bool × List D) :=
  match env[i]? with
  | some (some (SV.ow io 0 (.list ds))) => some (io, ds)
  | _ => none
theorem ownAt_some {env : DEnv} {i : Nat} {p : Bool × List D} (h : ownAt env i = some p) : env[i]? = some (some (SV.ow p.1 0 (.list p.2))) := by
  unfold ownAt at h
  split at h
  · cases h; assumption
  · cases h

/-! ### statements -/
def sSetN (i k : Nat) (m : Mo D) : So := fun env =>
  match m env with
  | some (d, e1) => some (.nx (e1.set i (some (SV.ow false k d))))
  | none => none
/-- the name's list is not changed from here on -/
def sFrz (i : Nat) (F : So) : So := fun env =>
  match env[i]? with
  | some (some (SV.ow _ _ d)) => F (env.set i (some (.fz d)))
  | _ => none
def forgetE (env : DEnv) (vs : List Nat) : DEnv := vs.foldl (fun e i => e.set i none) env
/-- names that nobody asks for any more -/
def sForget (vs : List Nat) (F : So) : So := fun env => F (forgetE env vs)
theorem forgetE_len : ∀ (vs : List Nat) (env : DEnv), (forgetE env vs).length = env.length
  | [], _ => rfl
  | v :: vs, env => by
    show (forgetE (env.set v none) vs).length = _
    rw [forgetE_len vs, List.length_set]
theorem forgetE_get : ∀ (vs : List Nat) {env : DEnv} {i : Nat} {s : SV}, (forgetE env vs)[i]? = some (some s) → env[i]? = some (some s)
  | [], _, _, _, h => h
  | v :: vs, env, i, s, h => by
    have h := forgetE_get vs (env := env.set v none) h
    rcases get_set h with ⟨_, e, _⟩ | ⟨_, h⟩
    · cases e
    · exact h
def sApp (i : Nat) (m : Mo D) : So := fun env =>
  match ownAt env i with
  | none => none
  | some _ =>
    match m env with
    | some (d, e1) => (match ownAt e1 i with | some (io, ds) => if ds.length < 100000 then some (.nx (e1.set i (some (.ow io 0 (.list (ds ++ [d])))))) else none | none => none)
    | none => none
/-- x[k] = e -/
def sPut (i : Nat) (k m : Mo D) : So := fun env =>
  match m env with
  | none => none
  | some (d, e1) =>
    match ownAt e1 i with
    | none => none
    | some _ =>
      match k e1 with
      | some (.int j, e2) => (match ownAt e2 i with | some (io, ds) => (match ixN ds.length j with | some n => some (.nx (e2.set i (some (.ow io 0 (.list (ds.set n d)))))) | none => none) | none => none)
      | _ => none
/-- x[k] op= e -/
def sAugPut (i : Nat) (k : Mo D) (g : D → D → Option D) (m : Mo D) : So := fun env =>
  match ownAt env i with
  | none => none
  | some _ =>
    match k env with
    | some (.int j, e1) =>
      (match ownAt e1 i with
      | none => none
      | some (_, ds) =>
        match atI ds j with
        | none => none
        | some old =>
          match m e1 with
          | none => none
          | some (d, e2) =>
            match g old d with
            | none => none
            | some z => (match ownAt e2 i with | some (io, es) => (match ixN es.length j with | some n => some (.nx (e2.set i (some (.ow io 0 (.list (es.set n z)))))) | none => none) | none => none))
    | _ => none
/-- x.pop() -/
def mPop (i : Nat) : Mo D := fun env =>
  match ownAt env i with
  | some (io, ds) => (match ds[ds.length - 1]? with | some d => some (d, env.set i (some (.ow io 0 (.list ds.dropLast)))) | none => none)
  | none => none
section
variable {X : Cx} {e k : Expr} {pos : Pos} {x : Str}
/-- [a, b, ..] as a new list -/
theorem denn_lst {es : List Expr} {F : Mo (List D)} (h : DenA X es F) : DenN X (.List es pos) 1 (mMap gLst F) := by
  obtain ⟨t, h1, h2⟩ := h
  refine ⟨_, pe_lst h1, fun P b σ env G H d env' rr h Q q => ?_⟩
  obtain ⟨z, hk, hz⟩ := mMap_some h
  unfold gLst at hz
  split at hz
  · rename_i hl
    cases hz
    refine h2 P b σ env G H _ _ rr hk _ fun v G' H' g r p => ⟨by rw [p.length]; exact line_of hl, fun y hy => ?_⟩
    have hPy := r.fresh y hy
    exact q (.ref y) G' (upd H' y (.lst v)) (fun a => a = y) ⟨g.g, fun a o ha n => by
      rw [upd_ne (show a ≠ y from fun z => n (by rw [z]; exact hPy))]
      exact g.h a o ha n, g.n⟩ (r.newH hy) (Tree.one hPy (fresh_back r.sub hy) upd_same p)
  · cases hz
/-- an operation, a call that makes a new list -/
theorem dens_setN (i k : Nat) {pos' : Pos} {F : Mo D} (hN : X.N.Nodup) (hi : X.N[i]? = some x) (hx : Loc X.env.scope x) (he : DenN X e (k + 1) F) (hs : swapsWith e (some (.Name x pos')) pos.line X.env = pure false := by rfl)
    (hf : X.fn x = true ∨ X.env.scope.names.lookup x = some .local := by first | exact .inl rfl | exact .inr rfl | assumption) : DenS X (.Assign [.Name x pos'] e pos) (sSetN i k F) := by
  obtain ⟨t, h1, h2⟩ := he
  refine ⟨_, ps_set hN hi hx h1 hs hf, fun P b σ env G H r rr h Dd q => ?_⟩
  unfold sSetN at h
  split at h
  · rename_i d e1 hd
    cases h
    exact h2 P b σ env G H d e1 rr hd _ fun v G' H' N g r' t => q _ G' H' g (r'.ownNew t i)
  · cases h
theorem denss_frz (i : Nat) {st : List Stmt} {F : So} (h : DenSs X st F) : DenSs X st (sFrz i F) := by
  obtain ⟨t, h1, h2⟩ := h
  refine ⟨_, h1, fun P b σ env G H r rr h Dd q => ?_⟩
  unfold sFrz at h
  split at h
  · rename_i io k d hd
    obtain ⟨G', g, s, n, r'⟩ := rr.ownKnow hd
    exact h2 P b σ _ G' H r r' h Dd (q.gr ⟨g, fun _ _ h _ => h, n⟩)
  · cases h
theorem denss_forget (vs : List Nat) {st : List Stmt} {F : So} (h : DenSs X st F) : DenSs X st (sForget vs F) := by
  obtain ⟨t, h1, h2⟩ := h
  exact ⟨_, h1, fun P b σ env G H r rr h Dd q => h2 P b σ _ G H r (rr.sub_env (forgetE_len vs env) fun i s => forgetE_get vs) h Dd q⟩
theorem dens_app (i : Nat) {F : Mo D} {p1 p2 p3 : Pos} (hi : X.N[i]? = some x) (hv : Vis X.env.scope x) (he : DenE X e F) (hd : (x == ("__debug__" : Str)) = false := by decide) (hcd : (x == ("__classdict__" : Str)) = false := by decide)
    (hs : swapsWith (.Call (.Attribute (.Name x p1) "append" p2) [e] [] p3) none pos.line X.env = pure false := by rfl)
    (hbase : attributeBase (.Name x p1) "append" X.env (eval (.Name x p1) X.env) = eval (.Name x p1) X.env := by rfl)
    (hfew : ((backTo p3 (starEach [e] X.env)).all (fun x => !x.1) && (backToKw p3 (keywordEach [] X.env)).all (fun x => x.1.isSome)
      && decide ([e].length + ([] : List Keyword).length + (if ([] : List Keyword).isEmpty then 0 else 1) < 30)) = true := by rfl)
    (hline : (p2.endLine == p3.line) = true := by rfl) (hst : starEach [e] X.env = (false, eval e X.env) :: starEach [] X.env := by rfl) (hplain : (backTo p3 (starEach [] X.env)).any (·.1) = false := by rfl) :
    DenS X (.Expr (.Call (.Attribute (.Name x p1) "append" p2) [e] [] p3) pos) (sApp i F) := by
  obtain ⟨t, h1, h2⟩ := he
  refine ⟨_, ps_expr (pe_bm PySem.F.plainAttrs_list PySem.F.slot_list_append PySem.F.type_list_append mt_append (pe_var hi hv hd hcd) (pa_cons h1 pa_nil hst) hbase hfew hline hst hplain) hs, fun P b σ env G H r rr h Dd q => ?_⟩
  unfold sApp at h
  cases w0 : ownAt env i with
  | none => simp only [w0] at h; cases h
  | some ds0 =>
    simp only [w0] at h
    obtain ⟨a, vs0, ha, hh0, _⟩ := rr.own1 (ownAt_some w0)
    cases w : F env with
    | none => rw [w] at h; cases h
    | some pr =>
      obtain ⟨d, e1⟩ := pr
      simp only [w] at h
      cases w2 : ownAt e1 i with
      | none => simp only [w2] at h; cases h
      | some ds =>
        obtain ⟨io, ds⟩ := ds
        simp only [w2] at h
        split at h
        · rename_i hl
          cases h
          refine ⟨_, ha, .inl ⟨rfl, _, .of hh0⟩, h2 P b σ env G H d e1 rr w _ fun v G' H' g r' p => ?_⟩
          obtain ⟨a', vs, ha', hh, ra, fin⟩ := r'.own1 (ownAt_some w2)
          rw [ha] at ha'
          cases ha'
          obtain ⟨g2, r2⟩ := fin (vs ++ [v]) (ds ++ [d]) (ra.append (.cons p .nil))
          exact ⟨a, vs, v, rfl, rfl, hh, by rw [ra.length]; exact line_lt hl, q σ G' _ (g.trans g2) r2⟩
        · cases h
theorem dens_put (i : Nat) {F Fk : Mo D} {p1 p2 : Pos} (hi : X.N[i]? = some x) (hv : Vis X.env.scope x) (he : DenE X e F) (hk : DenE X k Fk) (hd : (x == ("__debug__" : Str)) = false := by decide) (hcd : (x == ("__classdict__" : Str)) = false := by decide)
    (hs : swapsWithSole [.Subscript (.Name x p1) k p2] e pos.line X.env = pure false := by rfl) (hw : swappedStores [.Subscript (.Name x p1) k p2] e X.env = pure none := by rfl)
    (h1 : (assignEach [.Subscript (.Name x p1) k p2] X.env).map (·.2) = [assign (.Subscript (.Name x p1) k p2) X.env] := by rfl)
    (ha : ∀ v, assign (.Subscript (.Name x p1) k p2) X.env v = (do
      let ov ← holding [v] (eval (.Name x p1) X.env)
      let iv ← holding [v, ov] (eval k X.env)
      standAt p2
      holding [v, ov, iv] (setItem ov iv v)
      release [v, ov, iv] []) := by intro _; rfl) :
    DenS X (.Assign [.Subscript (.Name x p1) k p2] e pos) (sPut i Fk F) := by
  obtain ⟨t, h1', h2⟩ := he
  obtain ⟨u, k1, k2⟩ := hk
  refine ⟨_, ps_asg h1' (pg_sub (pe_var hi hv hd hcd) k1 set_list ha) hs hw h1, fun P b σ env G H r rr h Dd q => ?_⟩
  unfold sPut at h
  cases w : F env with
  | none => rw [w] at h; cases h
  | some pr =>
    obtain ⟨d, e1⟩ := pr
    simp only [w] at h
    cases w0 : ownAt e1 i with
    | none => simp only [w0] at h; cases h
    | some ds0 =>
      simp only [w0] at h
      cases w2 : Fk e1 with
      | none => simp only [w2] at h; cases h
      | some pr2 =>
        obtain ⟨kd, e2⟩ := pr2
        cases kd with
        | int j =>
          simp only [w2] at h
          cases w3 : ownAt e2 i with
          | none => simp only [w3] at h; cases h
          | some ds =>
            obtain ⟨io, ds⟩ := ds
            simp only [w3] at h
            cases w4 : ixN ds.length j with
            | none => simp only [w4] at h; cases h
            | some n =>
              simp only [w4] at h
              cases h
              refine h2 P b σ env G H d e1 rr w _ fun v G1 H1 g1 r1 p1 => ?_
              obtain ⟨a, vs0, ha0, hh0, _⟩ := r1.own1 (ownAt_some w0)
              refine ⟨_, ha0, k2 P b σ e1 G1 H1 _ e2 r1 w2 _ fun kv G2 H2 g2 r2 p2 => ?_⟩
              obtain ⟨a', vs, ha', hh, ra, fin⟩ := r2.own1 (ownAt_some w3)
              rw [ha0] at ha'
              cases ha'
              obtain ⟨g3, r3⟩ := fin (vs.set n v) (ds.set n d) (ra.set (p1.mono g2.g) n)
              exact ⟨a, vs, j, n, rfl, p2.inv_int, hh, by rw [ra.length]; exact w4, q σ G2 _ ((g1.trans g2).trans g3) r3⟩
        | _ => simp only [w2] at h; cases h
/-- the item of a list, as it is read for x[k] op= e -/
theorem pget_list : PGet X (rIxL X.K) := by
  intro pins s σ H x y v u Q I rx ry h
  obtain ⟨p, xs, i, z, rfl, rfl, hq, he, q⟩ := h
  cases rx
  obtain ⟨t, rfl⟩ := ry
  obtain ⟨its, r, pl, hz⟩ := I.list hq
  obtain ⟨j, h1, h2, h3, h4, h5⟩ := atI_get he
  obtain ⟨w, ew, rw'⟩ := r.get h2
  have hl := r.length
  have hn := line63
  have fin : EP X pins σ Q w s := ⟨z, H, I, rw', q⟩
  by_cases h0 : 0 ≤ i
  · have hj : i.toNat = j := by
      rw [seqIndex_of h0 h5] at h1
      exact Option.some.inj h1
    exact wpAny_getItem_list pl.isList h0 (by omega) (by rw [hj]; simpa using ew) fin
  · have hj : (i + (its.toArray.size : Int)).toNat = j := by
      rw [seqIndex_neg (by omega) h4] at h1
      rw [List.size_toArray, ← hl]
      exact Option.some.inj h1
    exact wpAny_getItem_list_neg pl.isList (by omega) (by rw [List.size_toArray] <;> omega) (by omega) (by rw [hj]; simpa using ew) fin
theorem dens_augPut (i : Nat) {op : Operator} {g : D → D → Option D} {F Fk : Mo D} {p1 p2 : Pos} (ho : OpD X (inplaceOp op) g) (hi : X.N[i]? = some x) (hv : Vis X.env.scope x) (hk : DenE X k Fk) (he : DenE X e F) (hd : (x == ("__debug__" : Str)) = false := by decide) (hcd : (x == ("__classdict__" : Str)) = false := by decide)
    (ha : ∀ ov iv new, augStore k ov iv new = (do holding [new, ov, iv] (setItem ov iv new); release [new, ov, iv] []; pure .next) := by intros; rfl) :
    DenS X (.AugAssign (.Subscript (.Name x p1) k p2) op e pos) (sAugPut i Fk g F) := by
  obtain ⟨t, h1, h2⟩ := he
  obtain ⟨u, k1, k2⟩ := hk
  obtain ⟨rr0, o1, o2⟩ := ho
  refine ⟨_, ps_augS (pe_var hi hv hd hcd) k1 pget_list h1 (tip := rr0) (fun pins s σ H x y v u Q I rx ry q => o1 pins s σ H x y v u Q I rx ry q) set_list ha, fun P b σ env G H r rr h Dd q => ?_⟩
  unfold sAugPut at h
  cases w0 : ownAt env i with
  | none => simp only [w0] at h; cases h
  | some ds0 =>
    simp only [w0] at h
    obtain ⟨a, vs0, ha0, hh0, _⟩ := rr.own1 (ownAt_some w0)
    cases w2 : Fk env with
    | none => simp only [w2] at h; cases h
    | some pr2 =>
      obtain ⟨kd, e1⟩ := pr2
      cases kd with
      | int j =>
        simp only [w2] at h
        cases w3 : ownAt e1 i with
        | none => simp only [w3] at h; cases h
        | some ds =>
          obtain ⟨io1, ds⟩ := ds
          simp only [w3] at h
          cases w4 : atI ds j with
          | none => simp only [w4] at h; cases h
          | some old =>
            simp only [w4] at h
            cases w5 : F e1 with
            | none => simp only [w5] at h; cases h
            | some pr5 =>
              obtain ⟨d, e2⟩ := pr5
              simp only [w5] at h
              cases w6 : g old d with
              | none => simp only [w6] at h; cases h
              | some z =>
                simp only [w6] at h
                cases w7 : ownAt e2 i with
                | none => simp only [w7] at h; cases h
                | some es =>
                  obtain ⟨io, es⟩ := es
                  simp only [w7] at h
                  cases w8 : ixN es.length j with
                  | none => simp only [w8] at h; cases h
                  | some n =>
                    simp only [w8] at h
                    cases h
                    refine ⟨_, ha0, k2 P b σ env G H _ e1 rr w2 _ fun kv G1 H1 g1 r1 p1 => ?_⟩
                    obtain ⟨a1, vs1, ha1, hh1, ra1, _⟩ := r1.own1 (ownAt_some w3)
                    rw [ha0] at ha1
                    cases ha1
                    obtain ⟨ov, hov, rov⟩ := ra1.atI w4
                    refine ⟨a, vs1, j, ov, rfl, p1.inv_int, .of hh1, hov, h2 P b σ e1 G1 H1 d e2 r1 w5 _ fun v G2 H2 g2 r2 p2 => o2 G2 H2 ov v old d z r2.sub (rov.mono g2.g) p2 w6 _ fun zv G3 H3 pu pz => ?_⟩
                    have r3 := r2.pu pu
                    obtain ⟨a', vs, ha', hh, ra, fin⟩ := r3.own1 (ownAt_some w7)
                    rw [ha0] at ha'
                    cases ha'
                    obtain ⟨g4, r4⟩ := fin (vs.set n zv) (es.set n z) (ra.set pz n)
                    exact ⟨a, vs, j, n, rfl, p1.inv_int, hh, by rw [ra.length]; exact w8, q σ G3 _ (((g1.trans g2).trans (pu.gr r2.fresh)).trans g4) r4⟩
      | _ => simp only [w2] at h; cases h
theorem den_pop (i : Nat) {p1 p2 p3 : Pos} (hi : X.N[i]? = some x) (hv : Vis X.env.scope x) (hd : (x == ("__debug__" : Str)) = false := by decide) (hcd : (x == ("__classdict__" : Str)) = false := by decide)
    (hbase : attributeBase (.Name x p1) "pop" X.env (eval (.Name x p1) X.env) = eval (.Name x p1) X.env := by rfl) (hline : (p2.endLine == p3.line) = true := by rfl) :
    DenE X (.Call (.Attribute (.Name x p1) "pop" p2) [] [] p3) (mPop i) := by
  refine ⟨_, pe_bm0 PySem.F.plainAttrs_list PySem.F.slot_list_pop PySem.F.type_list_pop mt_pop (pe_var hi hv hd hcd) hbase hline, fun P b σ env G H d env' rr h Q q => ?_⟩
  unfold mPop at h
  cases w0 : ownAt env i with
  | none => simp only [w0] at h; cases h
  | some ds =>
    obtain ⟨io, ds⟩ := ds
    simp only [w0] at h
    cases w1 : ds[ds.length - 1]? with
    | none => simp only [w1] at h; cases h
    | some d0 =>
      simp only [w1] at h
      cases h
      obtain ⟨a, vs, ha, hh, ra, fin⟩ := rr.own1 (ownAt_some w0)
      obtain ⟨v, hv1, rv⟩ := ra.get w1
      have rd : RpAll G vs.dropLast ds.dropLast := by
        rw [List.dropLast_eq_take, List.dropLast_eq_take, ra.length]
        exact ra.take _
      obtain ⟨g2, r2⟩ := fin vs.dropLast ds.dropLast rd
      exact ⟨_, ha, .inl ⟨rfl, _, .of hh⟩, a, vs, v, rfl, rfl, hh, by rw [ra.length]; exact hv1, q v G _ g2 r2 rv⟩
end
end Dn

/-! V10: built-ins. -/
namespace Dn
open PySem PySem.Spec PyProof.Rows L2
open Evl (Ex fresh_back)

def gLen : List D → Option D
  | [.list xs] => some (.int xs.length)
  | [.tuple xs] => some (.int xs.length)
  | _ => none
def gMax2 : List D → Option D
  | [.int i, .int j] => some (.int (if j > i then j else i))
  | _ => none
def gMin2 : List D → Option D
  | [.int i, .int j] => some (.int (if j < i then j else i))
  | _ => none
/-- a list of ints, of truths -/
def intsOf : List D → Option (List Int)
  | [] => some []
  | .int i :: ds => (intsOf ds).map (i :: ·)
  | _ :: _ => none
def blsOf : List D → Option (List Bool)
  | [] => some []
  | .bool i :: ds => (blsOf ds).map (i :: ·)
  | _ :: _ => none
theorem intsOf_map (ns : List Int) : intsOf (ns.map PyData.int) = some ns := by
  induction ns with
  | nil => rfl
  | cons n ns ih => simp only [List.map_cons, intsOf, ih]; rfl
theorem blsOf_map (ns : List Bool) : blsOf (ns.map PyData.bool) = some ns := by
  induction ns with
  | nil => rfl
  | cons n ns ih => simp only [List.map_cons, blsOf, ih]; rfl
theorem intsOf_some : ∀ {ds : List D} {ns : List Int}, intsOf ds = some ns → ds = ns.map PyData.int
  | [], ns, h => by cases h; rfl
  | d :: ds, ns, h => by
    cases d with
    | int i =>
      simp only [intsOf] at h
      cases w : intsOf ds with
      | none => rw [w] at h; cases h
      | some ms =>
        rw [w] at h
        cases h
        rw [intsOf_some w]
        rfl
    | _ => simp only [intsOf] at h; cases h
theorem blsOf_some : ∀ {ds : List D} {ns : List Bool}, blsOf ds = some ns → ds = ns.map PyData.bool
  | [], ns, h => by cases h; rfl
  | d :: ds, ns, h => by
    cases d with
    | bool i =>
      simp only [blsOf] at h
      cases w : blsOf ds with
      | none => rw [w] at h; cases h
      | some ms =>
        rw [w] at h
        cases h
        rw [blsOf_some w]
        rfl
    | _ => simp only [blsOf] at h; cases h
theorem RpAll.ints {G : Hp} : ∀ {ns : List Int} {vs : List V}, RpAll G vs (ns.map PyData.int) → vs = ns.map V.int
  | [], vs, h => by cases h; rfl
  | n :: ns, vs, h => by
    cases h with
    | cons a r => rw [a.inv_int, RpAll.ints r]; rfl
theorem RpAll.ofInts {G : Hp} : ∀ (ns : List Int), RpAll G (ns.map V.int) (ns.map PyData.int)
  | [] => .nil
  | n :: ns => .cons (.int n) (RpAll.ofInts ns)
theorem RpAll.bls {G : Hp} : ∀ {ns : List Bool} {vs : List V}, RpAll G vs (ns.map PyData.bool) → vs = ns.map V.bl
  | [], vs, h => by cases h; rfl
  | n :: ns, vs, h => by
    cases h with
    | cons a r => rw [a.inv_bl, RpAll.bls r]; rfl
def gSum : List D → Option D
  | [.list xs] => (intsOf xs).map fun ns => .int ns.sum
  | _ => none
def gAll : List D → Option D
  | [.list xs] => (blsOf xs).map fun bs => .bool (bs.all id)
  | _ => none
def gAny : List D → Option D
  | [.list xs] => (blsOf xs).map fun bs => .bool (bs.any id)
  | _ => none
def gTuple : List D → Option D
  | [.list xs] => some (.tuple xs)
  | [.tuple xs] => some (.tuple xs)
  | _ => none
def gList : List D → Option D
  | [.list xs] => some (.list xs)
  | [.tuple xs] => some (.list xs)
  | _ => none
/-- the greatest, the least of some numbers -/
def lmax : List Int → Int
  | [] => 0
  | [x] => x
  | x :: xs => max x (lmax xs)
def lmin : List Int → Int
  | [] => 0
  | [x] => x
  | x :: xs => min x (lmin xs)
theorem lmax_spec : ∀ {ns : List Int}, ns ≠ [] → lmax ns ∈ ns ∧ ∀ y ∈ ns, y ≤ lmax ns
  | [x], _ => ⟨by simp [lmax], fun y hy => by simp at hy; simp [lmax, hy]⟩
  | x :: y :: r, _ => by
    have ih := lmax_spec (ns := y :: r) (by simp)
    have e : lmax (x :: y :: r) = max x (lmax (y :: r)) := rfl
    rw [e]
    refine ⟨?_, fun z hz => ?_⟩
    · by_cases h : x ≤ lmax (y :: r)
      · rw [Int.max_eq_right h]; exact List.mem_cons_of_mem _ ih.1
      · rw [Int.max_eq_left (by omega)]; exact List.mem_cons_self
    · rcases List.mem_cons.mp hz with e | e
      · rw [e]; exact Int.le_max_left _ _
      · exact Int.le_trans (ih.2 z e) (Int.le_max_right _ _)
theorem lmin_spec : ∀ {ns : List Int}, ns ≠ [] → lmin ns ∈ ns ∧ ∀ y ∈ ns, lmin ns ≤ y
  | [x], _ => ⟨by simp [lmin], fun y hy => by simp at hy; simp [lmin, hy]⟩
  | x :: y :: r, _ => by
    have ih := lmin_spec (ns := y :: r) (by simp)
    have e : lmin (x :: y :: r) = min x (lmin (y :: r)) := rfl
    rw [e]
    refine ⟨?_, fun z hz => ?_⟩
    · by_cases h : x ≤ lmin (y :: r)
      · rw [Int.min_eq_left h]; exact List.mem_cons_self
      · rw [Int.min_eq_right (by omega)]; exact List.mem_cons_of_mem _ ih.1
    · rcases List.mem_cons.mp hz with e | e
      · rw [e]; exact Int.min_le_left _ _
      · exact Int.le_trans (Int.min_le_right _ _) (ih.2 z e)
def gMaxL : List D → Option D
  | [.list xs] => (intsOf xs).bind fun ns => if ns = [] then none else some (.int (lmax ns))
  | _ => none
def gMinL : List D → Option D
  | [.list xs] => (intsOf xs).bind fun ns => if ns = [] then none else some (.int (lmin ns))
  | _ => none
/-- insertion -/
def ins (x : Int) : List Int → List Int
  | [] => [x]
  | y :: ys => if x ≤ y then x :: y :: ys else y :: ins x ys
def isort : List Int → List Int
  | [] => []
  | x :: xs => ins x (isort xs)
theorem ins_perm (x : Int) : ∀ ys : List Int, (ins x ys).Perm (x :: ys)
  | [] => .refl _
  | y :: ys => by
    unfold ins
    split
    · exact .refl _
    · exact ((ins_perm x ys).cons y).trans (.swap x y ys)
theorem isort_perm : ∀ ys : List Int, (isort ys).Perm ys
  | [] => .refl _
  | y :: ys => (ins_perm y (isort ys)).trans ((isort_perm ys).cons y)
theorem ins_sorted (x : Int) : ∀ ys : List Int, ys.Pairwise (· ≤ ·) → (ins x ys).Pairwise (· ≤ ·)
  | [], _ => by simp [ins]
  | y :: ys, h => by
    unfold ins
    rw [List.pairwise_cons] at h
    split
    · rename_i hx
      rw [List.pairwise_cons]
      refine ⟨fun z hz => ?_, List.pairwise_cons.mpr h⟩
      rcases List.mem_cons.mp hz with e | e
      · rw [e]; exact hx
      · exact Int.le_trans hx (h.1 z e)
    · rename_i hx
      rw [List.pairwise_cons]
      refine ⟨fun z hz => ?_, ins_sorted x ys h.2⟩
      rcases List.mem_cons.mp ((ins_perm x ys).mem_iff.mp hz) with e | e
      · rw [e]; omega
      · exact h.1 z e
theorem isort_sorted : ∀ ys : List Int, (isort ys).Pairwise (· ≤ ·)
  | [] => .nil
  | y :: ys => ins_sorted y _ (isort_sorted ys)
theorem sorted_uniq : ∀ {l m : List Int}, l.Perm m → l.Pairwise (· ≤ ·) → m.Pairwise (· ≤ ·) → l = m
  | [], m, p, _, _ => (List.nil_perm.mp p).symm
  | x :: l, m, p, h1, h2 => by
    cases m with
    | nil => exact absurd (List.perm_nil.mp p) (by simp)
    | cons y m =>
      rw [List.pairwise_cons] at h1 h2
      have e : x = y := by
        have hx : x ∈ y :: m := p.mem_iff.mp List.mem_cons_self
        have hy : y ∈ x :: l := p.mem_iff.mpr List.mem_cons_self
        rcases List.mem_cons.mp hx with e | e
        · exact e
        · rcases List.mem_cons.mp hy with e' | e'
          · exact e'.symm
          · exact Int.le_antisymm (h1.1 y e') (h2.1 x e)
      subst e
      rw [sorted_uniq (List.Perm.cons_inv p) h1.2 h2.2]
def gSortI : List D → Option D
  | [.list xs] => (intsOf xs).map fun ns => .list ((isort ns).map .int)
  | _ => none
section
variable {X : Cx}
theorem callD_len : CallD X (.builtin "len") gLen := by
  refine ⟨_, call_len_seq, fun G H vs ds z s r hg Q q => ?_⟩
  unfold gLen at hg
  split at hg
  · cases hg
    obtain ⟨v, rfl, h⟩ := r.inv1
    obtain ⟨a, ws, rfl, ha, ra⟩ := h.inv_list
    exact ⟨a, ws, rfl, .inl (.of (s _ _ ha)), by rw [ra.length]; exact q _ G H (Pu.refl s) (.int _)⟩
  · cases hg
    obtain ⟨v, rfl, h⟩ := r.inv1
    obtain ⟨a, ws, rfl, ha, ra⟩ := h.inv_tup
    exact ⟨a, ws, rfl, .inr (.of (s _ _ ha)), by rw [ra.length]; exact q _ G H (Pu.refl s) (.int _)⟩
  · cases hg
theorem callD_max2 (hc : X.calm = true) : CallD X (.builtin "max") gMax2 := by
  refine ⟨_, call_max2 hc, fun G H vs ds z s r hg Q q => ?_⟩
  unfold gMax2 at hg
  split at hg
  · rename_i i j
    cases hg
    obtain ⟨v, w, rfl, h1, h2⟩ := r.inv2
    exact ⟨i, j, by rw [h1.inv_int, h2.inv_int], q _ G H (Pu.refl s) (.int _)⟩
  · cases hg
theorem callD_min2 (hc : X.calm = true) : CallD X (.builtin "min") gMin2 := by
  refine ⟨_, call_min2 hc, fun G H vs ds z s r hg Q q => ?_⟩
  unfold gMin2 at hg
  split at hg
  · rename_i i j
    cases hg
    obtain ⟨v, w, rfl, h1, h2⟩ := r.inv2
    exact ⟨i, j, by rw [h1.inv_int, h2.inv_int], q _ G H (Pu.refl s) (.int _)⟩
  · cases hg
theorem ints_in {G H : Hp} {vs : List V} {xs : List D} {ns : List Int} (s : Ex G H) (r : RpAll G vs [.list xs]) (h : intsOf xs = some ns) : ∃ a, vs = [.ref a] ∧ H a = some (.lst (ns.map V.int)) := by
  obtain ⟨v, rfl, h1⟩ := r.inv1
  obtain ⟨a, ws, rfl, ha, ra⟩ := h1.inv_list
  have := intsOf_some h
  subst this
  have := ra.ints
  subst this
  exact ⟨a, rfl, s _ _ ha⟩
theorem bls_in {G H : Hp} {vs : List V} {xs : List D} {ns : List Bool} (s : Ex G H) (r : RpAll G vs [.list xs]) (h : blsOf xs = some ns) : ∃ a, vs = [.ref a] ∧ H a = some (.lst (ns.map V.bl)) := by
  obtain ⟨v, rfl, h1⟩ := r.inv1
  obtain ⟨a, ws, rfl, ha, ra⟩ := h1.inv_list
  have := blsOf_some h
  subst this
  have := ra.bls
  subst this
  exact ⟨a, rfl, s _ _ ha⟩
theorem callD_sum (hc : X.calm = true) : CallD X (.builtin "sum") gSum := by
  refine ⟨_, cr_sum hc, fun G H vs ds z s r hg Q q => ?_⟩
  unfold gSum at hg
  split at hg
  · rename_i xs
    cases w : intsOf xs with
    | none => rw [w] at hg; cases hg
    | some ns =>
      rw [w] at hg
      cases hg
      obtain ⟨a, rfl, ha⟩ := ints_in s r w
      exact ⟨a, ns, rfl, .of ha, q _ G H (Pu.refl s) (.int _)⟩
  · cases hg
theorem callD_all (hc : X.calm = true) : CallD X (.builtin "all") gAll := by
  refine ⟨_, cr_all hc, fun G H vs ds z s r hg Q q => ?_⟩
  unfold gAll at hg
  split at hg
  · rename_i xs
    cases w : blsOf xs with
    | none => rw [w] at hg; cases hg
    | some ns =>
      rw [w] at hg
      cases hg
      obtain ⟨a, rfl, ha⟩ := bls_in s r w
      exact ⟨a, ns, rfl, .of ha, q _ G H (Pu.refl s) (.bl _)⟩
  · cases hg
theorem callD_any (hc : X.calm = true) : CallD X (.builtin "any") gAny := by
  refine ⟨_, cr_any hc, fun G H vs ds z s r hg Q q => ?_⟩
  unfold gAny at hg
  split at hg
  · rename_i xs
    cases w : blsOf xs with
    | none => rw [w] at hg; cases hg
    | some ns =>
      rw [w] at hg
      cases hg
      obtain ⟨a, rfl, ha⟩ := bls_in s r w
      exact ⟨a, ns, rfl, .of ha, q _ G H (Pu.refl s) (.bl _)⟩
  · cases hg
theorem callD_maxL (hc : X.calm = true) : CallD X (.builtin "max") gMaxL := by
  refine ⟨_, cr_max hc, fun G H vs ds z s r hg Q q => ?_⟩
  unfold gMaxL at hg
  split at hg
  · rename_i xs
    cases w : intsOf xs with
    | none => rw [w] at hg; cases hg
    | some ns =>
      simp only [w, Option.bind_some] at hg
      split at hg
      · cases hg
      · rename_i hne
        cases hg
        obtain ⟨a, rfl, ha⟩ := ints_in s r w
        refine ⟨a, ns, rfl, .of ha, List.length_pos_iff.mpr hne, fun m h1 h2 => ?_⟩
        have h3 := lmax_spec hne
        have e : m = lmax ns := Int.le_antisymm (h3.2 m h1) (h2 _ h3.1)
        rw [e]
        exact q _ G H (Pu.refl s) (.int _)
  · cases hg
theorem callD_minL (hc : X.calm = true) : CallD X (.builtin "min") gMinL := by
  refine ⟨_, cr_min hc, fun G H vs ds z s r hg Q q => ?_⟩
  unfold gMinL at hg
  split at hg
  · rename_i xs
    cases w : intsOf xs with
    | none => rw [w] at hg; cases hg
    | some ns =>
      simp only [w, Option.bind_some] at hg
      split at hg
      · cases hg
      · rename_i hne
        cases hg
        obtain ⟨a, rfl, ha⟩ := ints_in s r w
        refine ⟨a, ns, rfl, .of ha, List.length_pos_iff.mpr hne, fun m h1 h2 => ?_⟩
        have h3 := lmin_spec hne
        have e : m = lmin ns := Int.le_antisymm (h2 _ h3.1) (h3.2 m h1)
        rw [e]
        exact q _ G H (Pu.refl s) (.int _)
  · cases hg
theorem callD_list : CallD X (.type "list") gList := by
  refine ⟨_, call_list_of, fun G H vs ds z s r hg Q q => ?_⟩
  unfold gList at hg
  split at hg
  · cases hg
    obtain ⟨v, rfl, h⟩ := r.inv1
    obtain ⟨a, ws, rfl, ha, ra⟩ := h.inv_list
    exact ⟨a, ws, rfl, .inl (.of (s _ _ ha)), fun p hp => fin_new s q hp fun ex => .lst upd_same (ra.mono ex)⟩
  · cases hg
    obtain ⟨v, rfl, h⟩ := r.inv1
    obtain ⟨a, ws, rfl, ha, ra⟩ := h.inv_tup
    exact ⟨a, ws, rfl, .inr (.of (s _ _ ha)), fun p hp => fin_new s q hp fun ex => .lst upd_same (ra.mono ex)⟩
  · cases hg
theorem callD_tuple : CallD X (.type "tuple") gTuple := by
  refine ⟨_, call_tuple_of, fun G H vs ds z s r hg Q q => ?_⟩
  unfold gTuple at hg
  split at hg
  · cases hg
    obtain ⟨v, rfl, h⟩ := r.inv1
    obtain ⟨a, ws, rfl, ha, ra⟩ := h.inv_list
    exact ⟨a, ws, rfl, .inl ⟨.of (s _ _ ha), fun p hp => fin_new s q hp fun ex => .tup upd_same (ra.mono ex)⟩⟩
  · cases hg
    obtain ⟨v, rfl, h⟩ := r.inv1
    obtain ⟨a, ws, rfl, ha, ra⟩ := h.inv_tup
    exact ⟨a, ws, rfl, .inr ⟨.of (s _ _ ha), q _ G H (Pu.refl s) (.tup ha ra)⟩⟩
  · cases hg
theorem callD_sortI : CallD X (.builtin "sorted") gSortI := by
  refine ⟨_, L2.cr_sortedI, fun G H vs ds z s r hg Q q => ?_⟩
  unfold gSortI at hg
  split at hg
  · rename_i xs
    cases w : intsOf xs with
    | none => rw [w] at hg; cases hg
    | some ns =>
      rw [w] at hg
      cases hg
      obtain ⟨a, rfl, ha⟩ := ints_in s r w
      refine ⟨a, ns, rfl, .of ha, fun ns' p hp hs' hn => fin_new s q hn fun ex => .lst upd_same ?_⟩
      rw [sorted_uniq (hp.trans (isort_perm ns).symm) hs' (isort_sorted ns)]
      exact RpAll.ofInts _
  · cases hg
end
end Dn

/-! V11: more statements, more comparisons. -/
namespace Dn
open PySem PySem.Spec PyProof.Rows L2
open Evl (Ex fresh_back)

/-- a list or a tuple walked -/
def gSeq : D → Option (List D)
  | .list xs => some xs
  | .tuple xs => some xs
  | _ => none
/-- x op= e -/
def sAug (i : Nat) (g : D → D → Option D) (m : Mo D) : So := fun env =>
  match env[i]? with
  | some (some (SV.fz x)) =>
    (match m env with
    | some (y, e1) => (match g x y with | some z => some (.nx (e1.set i (some (.fz z)))) | none => none)
    | none => none)
  | _ => none
/-- x, y = a, b -/
def sPar (i j : Nat) (m : Mo (List D)) : So := fun env =>
  match m env with
  | some ([a, b], e1) => some (.nx ((e1.set i (some (.fz a))).set j (some (.fz b))))
  | _ => none
def sPar3 (i j l : Nat) (m : Mo (List D)) : So := fun env =>
  match m env with
  | some ([a, b, c], e1) => some (.nx (((e1.set i (some (.fz a))).set j (some (.fz b))).set l (some (.fz c))))
  | _ => none
section
variable {X : Cx} {a b e tg iter elt : Expr} {pos : Pos} {x : Str}
theorem deni_seq {F : Mo D} (h : DenE X e F) : DenI X tg e (mMap gSeq F) := by
  obtain ⟨t, h1, h2⟩ := h
  have hl := pi_list (tg := tg) h1
  have ht := pi_tup (tg := tg) h1
  refine ⟨fun σ H R => iList X.K t σ H R ∨ iTup X.K t σ H R, ⟨fun pins s σ H R I hw => hw.elim (hl.run pins s σ H R I) (ht.run pins s σ H R I)⟩, fun P b σ env G H ds env' rr h R q => ?_⟩
  obtain ⟨z, hk, hz⟩ := mMap_some h
  cases z with
  | list xs =>
    cases hz
    obtain ⟨_, _, k⟩ := deni_list (tg := tg) ⟨t, h1, h2⟩
    left
    refine h2 P b σ env G H _ env' rr hk _ fun v G' H' g r p => ?_
    obtain ⟨a, vs, rfl, ha, ra⟩ := p.inv_list
    refine ⟨a, rfl, ⟨vs, .of (r.sub _ _ ha)⟩, q _ G' H' g r fun i G1 H1 e1 e2 => ⟨fun hi => ⟨vs, .of (e2 _ _ (e1 _ _ ha)), by rw [ra.length]; exact hi⟩, fun d hd => ?_⟩⟩
    obtain ⟨v, hv, rv⟩ := ra.get hd
    refine ⟨⟨vs, v, .of (e2 _ _ (e1 _ _ ha)), hv⟩, fun x H' y => ?_⟩
    obtain ⟨rfl, y⟩ := y
    have := y vs (.of (e2 _ _ (e1 _ _ ha)))
    rw [hv] at this
    cases this
    exact ⟨G1, Pu.refl e2, rv.mono e1⟩
  | tuple xs =>
    cases hz
    right
    refine h2 P b σ env G H _ env' rr hk _ fun v G' H' g r p => ?_
    obtain ⟨a, vs, rfl, ha, ra⟩ := p.inv_tup
    refine ⟨a, rfl, ⟨vs, .of (r.sub _ _ ha)⟩, q _ G' H' g r fun i G1 H1 e1 e2 => ⟨fun hi => ⟨vs, .of (e2 _ _ (e1 _ _ ha)), by rw [ra.length]; exact hi⟩, fun d hd => ?_⟩⟩
    obtain ⟨v, hv, rv⟩ := ra.get hd
    refine ⟨⟨vs, v, .of (e2 _ _ (e1 _ _ ha)), hv⟩, fun x H' y => ?_⟩
    obtain ⟨rfl, y⟩ := y
    have := y vs (.of (e2 _ _ (e1 _ _ ha)))
    rw [hv] at this
    cases this
    exact ⟨G1, Pu.refl e2, rv.mono e1⟩
  | _ => cases hz
theorem dens_aug (i : Nat) {op : Operator} {g : D → D → Option D} {F : Mo D} {pos' : Pos} (ho : OpD X (inplaceOp op) g) (hN : X.N.Nodup) (hi : X.N[i]? = some x) (hx : Loc X.env.scope x) (he : DenE X e F)
    (hf : X.fn x = true ∨ X.env.scope.names.lookup x = some .local := by first | exact .inl rfl | exact .inr rfl | assumption) : DenS X (.AugAssign (.Name x pos') op e pos) (sAug i g F) := by
  obtain ⟨t, h1, h2⟩ := he
  obtain ⟨r, o1, o2⟩ := ho
  refine ⟨_, ps_aug hN hi hx h1 (ti := r) (fun pins s σ H x y v u Q I rx ry q => o1 pins s σ H x y v u Q I rx ry q) hf, fun P b σ env G H r rr h Dd q => ?_⟩
  unfold sAug at h
  split at h
  · rename_i d hd
    cases w : F env with
    | none => rw [w] at h; cases h
    | some pr =>
      obtain ⟨y, e1⟩ := pr
      simp only [w] at h
      cases w2 : g d y with
      | none => simp only [w2] at h; cases h
      | some z =>
        simp only [w2] at h
        cases h
        obtain ⟨v, k1, k2⟩ := rr.fz i d hd
        exact ⟨v, k1, h2 P b σ env G H y e1 rr w _ fun u G' H' g r' p => o2 G' H' v u d y z r'.sub (k2.mono g.g) p w2 _ fun zv G2 H2 pu pz => q _ G2 H2 (g.trans (pu.gr r'.fresh)) ((r'.pu pu).set pz)⟩
  · cases h
theorem dens_par (i j : Nat) {y : Str} {F : Mo (List D)} {px py pt pt2 : Pos} {kt k2 : Nat} (hc : X.calm = true) (hN : X.N.Nodup) (hi : X.N[i]? = some x) (hj : X.N[j]? = some y) (hij : i ≠ j)
    (hx : X.env.scope.names.lookup x = some .local) (hy : X.env.scope.names.lookup y = some .local) (ha : DenA X [a, b] F)
    (hw : swappedStores [.Tuple [.Name x px, .Name y py] kt pt] (.Tuple [a, b] k2 pt2) X.env = pure (some [x, y]) := by rfl)
    (hs : swapsWithSole [.Tuple [.Name x px, .Name y py] kt pt] (.Tuple [a, b] k2 pt2) pos.line X.env = pure false := by rfl) :
    DenS X (.Assign [.Tuple [.Name x px, .Name y py] kt pt] (.Tuple [a, b] k2 pt2) pos) (sPar i j F) := by
  obtain ⟨t, h1, h2⟩ := ha
  refine ⟨_, ps_par hc hN hi hj hij hx hy h1 hw hs, fun P b σ env G H r rr h Dd q => ?_⟩
  unfold sPar at h
  split at h
  · rename_i u v e1 hd
    cases h
    refine h2 P b σ env G H _ e1 rr hd _ fun vs G' H' g r' p => ?_
    obtain ⟨v1, v2, rfl, p1, p2⟩ := p.inv2
    exact ⟨v1, v2, rfl, q _ G' H' g ((r'.set p1).set p2)⟩
  · cases h
theorem dens_setLc (i : Nat) {y : Str} {py spos : Pos} {ifs : List Expr} {scope : Scope} (own : List (Str × Nat)) {ts vs : List Nat} {Fi : Mo (List D)} {B : D → DEnv → Option DEnv} {Ft : Mo Bool} {Fe : Mo D} (hc : X.calm = true) (hN : X.N.Nodup) (hy : X.N[i]? = some y) (hyl : X.env.scope.names.lookup y = some .local)
    (hsw : swapsWith (.ListComp elt [⟨tg, iter, ifs, 0⟩] scope pos) (some (.Name y py)) spos.line X.env = pure true) (hi : DenI X tg iter Fi) (ok : BlkOk X.N X.env.scope scope own)
    (hg : ∀ (s : Shared) (H : Hp) (C : Addr) (cl : List (Str × Addr)) (fp : List Addr), DenG (X.blk s H scope (compEnvC scope cl C X.env) fp) tg ts B)
    (ht : ∀ (s : Shared) (H : Hp) (C : Addr) (cl : List (Str × Addr)) (fp : List Addr), DenTs (X.blk s H scope (compEnvC scope cl C X.env) fp) ifs Ft)
    (he : ∀ (s : Shared) (H : Hp) (C : Addr) (cl : List (Str × Addr)) (fp : List Addr), DenE (X.blk s H scope (compEnvC scope cl C X.env) fp) elt Fe)
    (hvs : own.map (·.2) = vs := by rfl) (hts : ∀ j ∈ ts, j ∈ vs := by decide) (hs : ∀ x, foldedSetIterable iter X.env x = pure x := by intro _; rfl) :
    DenS X (.Assign [.Name y py] (.ListComp elt [⟨tg, iter, ifs, 0⟩] scope pos) spos) (sSet i (mMap (fun ds => some (.list ds)) (mLc Fi B Ft Fe vs))) := by
  obtain ⟨wi, i1, i2⟩ := hi
  subst hvs
  have base := ps_setLc hc hN hy hyl hsw i1 ok (fun s H C cl fp => (hg s H C cl fp).pe) (fun s H C cl fp => (ht s H C cl fp).pe) (fun s H C cl fp => (he s H C cl fp).pe) hs
  refine ⟨_, base, fun P b σ env G H r rr h Dd q => ?_⟩
  unfold sSet at h
  split at h
  · rename_i d e1 hd
    cases h
    obtain ⟨ds, hds, hz⟩ := mMap_some hd
    cases hz
    refine lc_run i2 (fun P b σ env G H v d env' r rv hB Q q => cG_run r rv hB Q q) (fun P b σ env G H d env' r hF Q q => cTs_run r hF Q q) (fun P b σ env G H d env' r hF Q q => cE_run r hF Q q) hts rr hds _ fun p vs G' H' g r hP hg hh ra => ?_
    obtain ⟨G2, e1, e2, n, rv, r2⟩ := Rep.know (N := fun a => a = p) r (Tree.one hP hg hh ra)
    exact q _ G2 H' ⟨g.g.trans e1, g.h, fun a ha hn => n a ha (g.n a ha hn)⟩ (r2.set rv)
  · cases h
theorem dens_setLcN (i : Nat) {y : Str} {py spos : Pos} {ifs : List Expr} {scope : Scope} (own : List (Str × Nat)) {ts vs : List Nat} {Fi : Mo (List D)} {B : D → DEnv → Option DEnv} {Ft : Mo Bool} {Fe : Mo D} (hc : X.calm = true) (hN : X.N.Nodup) (hy : X.N[i]? = some y) (hyl : X.env.scope.names.lookup y = some .local)
    (hsw : swapsWith (.ListComp elt [⟨tg, iter, ifs, 0⟩] scope pos) (some (.Name y py)) spos.line X.env = pure true) (hi : DenI X tg iter Fi) (ok : BlkOk X.N X.env.scope scope own)
    (hg : ∀ (s : Shared) (H : Hp) (C : Addr) (cl : List (Str × Addr)) (fp : List Addr), DenG (X.blk s H scope (compEnvC scope cl C X.env) fp) tg ts B)
    (ht : ∀ (s : Shared) (H : Hp) (C : Addr) (cl : List (Str × Addr)) (fp : List Addr), DenTs (X.blk s H scope (compEnvC scope cl C X.env) fp) ifs Ft)
    (he : ∀ (s : Shared) (H : Hp) (C : Addr) (cl : List (Str × Addr)) (fp : List Addr), DenE (X.blk s H scope (compEnvC scope cl C X.env) fp) elt Fe)
    (hvs : own.map (·.2) = vs := by rfl) (hts : ∀ j ∈ ts, j ∈ vs := by decide) (hs : ∀ x, foldedSetIterable iter X.env x = pure x := by intro _; rfl) :
    DenS X (.Assign [.Name y py] (.ListComp elt [⟨tg, iter, ifs, 0⟩] scope pos) spos) (sSetN i 0 (mMap (fun ds => some (.list ds)) (mLc Fi B Ft Fe vs))) := by
  obtain ⟨wi, i1, i2⟩ := hi
  subst hvs
  have base := ps_setLc hc hN hy hyl hsw i1 ok (fun s H C cl fp => (hg s H C cl fp).pe) (fun s H C cl fp => (ht s H C cl fp).pe) (fun s H C cl fp => (he s H C cl fp).pe) hs
  refine ⟨_, base, fun P b σ env G H r rr h Dd q => ?_⟩
  unfold sSetN at h
  split at h
  · rename_i d e1 hd
    cases h
    obtain ⟨ds, hds, hz⟩ := mMap_some hd
    cases hz
    exact lc_run i2 (fun P b σ env G H v d env' r rv hB Q q => cG_run r rv hB Q q) (fun P b σ env G H d env' r hF Q q => cTs_run r hF Q q) (fun P b σ env G H d env' r hF Q q => cE_run r hF Q q) hts rr hds _ fun p vs G' H' g r hP hg hh ra => q _ G' H' g (Rep.ownNew (N := fun a => a = p) r (Tree.one hP hg hh ra) i)
  · cases h

/-! ### in-place, order, membership -/
theorem opD_iadd : OpD X (inplaceOp .Add) (gInt fun i j => some (i + j)) := opD_int0 iop_add
theorem opD_isub : OpD X (inplaceOp .Sub) (gInt fun i j => some (i - j)) := opD_int0 iop_sub
theorem opD_imul : OpD X (inplaceOp .Mult) (gInt fun i j => if -(2 ^ 64) < i ∧ i < 2 ^ 64 then some (i * j) else none) := opD_int iop_mul fun i j z h => by
  split at h
  · rename_i hc; cases h; exact ⟨.inl hc, rfl⟩
  · cases h
/-- t < u, tuples of ints -/
def gLtT : D → D → Option D
  | .tuple xs, .tuple ys => (intsOf xs).bind fun ns => (intsOf ys).map fun ms => .bool (HT.lexLt ns ms)
  | _, _ => none
theorem tup_ints {G H : Hp} {v : V} {xs : List D} {ns : List Int} (s : Ex G H) (r : Rp G v (.tuple xs)) (h : intsOf xs = some ns) : ∃ a, v = .ref a ∧ H a = some (.tup (ns.map V.int)) := by
  obtain ⟨a, ws, rfl, ha, ra⟩ := r.inv_tup
  have := intsOf_some h
  subst this
  have := ra.ints
  subst this
  exact ⟨a, rfl, s _ _ ha⟩
theorem opD_ltT (hu : X.A.units < cLine) : OpD X (compareOp .Lt) gLtT := by
  refine ⟨_, op_ltT hu, fun G H x y d e z s rx ry hg Q q => ?_⟩
  unfold gLtT at hg
  split at hg
  · rename_i xs ys
    cases w : intsOf xs with
    | none => rw [w] at hg; cases hg
    | some ns =>
      cases w2 : intsOf ys with
      | none => rw [w, w2] at hg; cases hg
      | some ms =>
        rw [w, w2] at hg
        cases hg
        obtain ⟨a, rfl, ha⟩ := tup_ints s rx w
        obtain ⟨b, rfl, hb⟩ := tup_ints s ry w2
        exact ⟨a, b, ns, ms, rfl, rfl, .of ha, .of hb, q _ G H (Pu.refl s) (.bl _)⟩
  · cases hg
def gLt : D → D → Option D := fun d e => match gCmp (fun i j => decide (i < j)) d e with | some z => some z | none => gLtT d e
theorem opD_lt (hu : X.A.units < cLine) : OpD X (compareOp .Lt) gLt := (opD_cmp op_lt).or (opD_ltT hu)
def eqF : D → D → Bool
  | .none, .none => true
  | .bool a, .bool b => a == b
  | .bool a, .int b => (if a then 1 else 0) == b
  | .int a, .bool b => a == (if b then 1 else 0)
  | .int a, .int b => a == b
  | .str a, .str b => a == b
  | _, _ => false
theorem Rp.flatV {G : Hp} {v : V} {d : D} (h : Rp G v d) (f : flatD d = true) : flatV v = true := by
  cases h <;> first | rfl | cases f
theorem Rp.eqF {G : Hp} {v w : V} {d e : D} (h : Rp G v d) (k : Rp G w e) (f : flatD d = true) (f' : flatD e = true) : eqV v w = eqF d e := by
  cases h <;> cases k <;> first | rfl | cases f | cases f'
def gIn (neg : Bool) : D → D → Option D := fun x y =>
  match gSeq y with
  | some ys => if flatD x && ys.all flatD then some (.bool (if neg then !(ys.any fun y => eqF y x) else ys.any fun y => eqF y x)) else none
  | none => none
theorem RpAll.flatV {G : Hp} : ∀ {vs : List V} {ds : List D}, RpAll G vs ds → ds.all flatD = true → vs.all flatV = true
  | _, _, .nil, _ => rfl
  | _, _, .cons h r, f => by
    rw [List.all_cons, Bool.and_eq_true] at f ⊢
    exact ⟨h.flatV f.1, RpAll.flatV r f.2⟩
theorem RpAll.inF {G : Hp} {w : V} {e : D} (k : Rp G w e) (f : flatD e = true) : ∀ {vs : List V} {ds : List D}, RpAll G vs ds → ds.all flatD = true → inV w vs = ds.any fun y => eqF y e
  | _, _, .nil, _ => rfl
  | _, _, .cons h r, fs => by
    rw [List.all_cons, Bool.and_eq_true] at fs
    have ih := RpAll.inF k f r fs.2
    unfold inV at ih ⊢
    rw [List.any_cons, List.any_cons, ih, h.eqF k fs.1 f]
theorem opD_inN {neg : Bool} {op : CmpOp} (h : OpR X (compareOp op) (rIn X.K neg)) : OpD X (compareOp op) (gIn neg) := by
  refine ⟨_, h, fun G H x y d e z s rx ry hg Q q => ?_⟩
  unfold gIn at hg
  cases w : gSeq e with
  | none => rw [w] at hg; cases hg
  | some ys =>
    simp only [w] at hg
    split at hg
    · rename_i hf
      rw [Bool.and_eq_true] at hf
      cases hg
      have fin : ∀ (p : Addr) (vs : List V), y = .ref p → (SqL X.K H p vs ∨ SqT X.K H p vs) → RpAll G vs ys → rIn X.K neg x y H Q := fun p vs hp hs rv => by
        refine ⟨p, vs, hp, hs, rx.flatV hf.1, rv.flatV hf.2, ?_⟩
        rw [rv.inF rx hf.1 hf.2]
        exact q _ G H (Pu.refl s) (.bl _)
      cases e with
      | list xs =>
        cases w
        obtain ⟨p, vs, hp, hs, rv⟩ := ry.inv_list
        exact fin p vs hp (.inl (.of (s _ _ hs))) rv
      | tuple xs =>
        cases w
        obtain ⟨p, vs, hp, hs, rv⟩ := ry.inv_tup
        exact fin p vs hp (.inr (.of (s _ _ hs))) rv
      | _ => cases w
    · cases hg
theorem opD_in : OpD X (compareOp .In) (gIn false) := opD_inN op_in_seq
theorem opD_notIn : OpD X (compareOp .NotIn) (gIn true) := opD_inN op_notIn_seq
/-- is of truths -/
def gIsB (neg : Bool) : D → D → Option D
  | .bool a, .bool b => some (.bool (if neg then !decide (a = b) else decide (a = b)))
  | _, _ => none
theorem opD_isB : OpD X (compareOp .Is) (gIsB false) := by
  refine ⟨_, op_is_bl, fun G H x y d e z s rx ry hg Q q => ?_⟩
  unfold gIsB at hg
  split at hg
  · rename_i a b
    cases hg
    exact ⟨a, b, rx.inv_bl, ry.inv_bl, q _ G H (Pu.refl s) (.bl _)⟩
  · cases hg
theorem opD_isnotB : OpD X (compareOp .IsNot) (gIsB true) := by
  refine ⟨_, op_isnot_bl, fun G H x y d e z s rx ry hg Q q => ?_⟩
  unfold gIsB at hg
  split at hg
  · rename_i a b
    cases hg
    exact ⟨a, b, rx.inv_bl, ry.inv_bl, q _ G H (Pu.refl s) (.bl _)⟩
  · cases hg
theorem dent_isN {F : Mo D} {j : Nat} {p' : Pos} (h : DenE X a F) : DenT X (.Compare a [.Is] [.Constant .none j p'] pos) (mMap gB (mMap gIsN F)) := (den_isN h).2
theorem dene_isN {F : Mo D} {j : Nat} {p' : Pos} (h : DenE X a F) : DenE X (.Compare a [.Is] [.Constant .none j p'] pos) (mMap gIsN F) := (den_isN h).1
theorem dent_notN {F : Mo D} {j : Nat} {p' : Pos} (h : DenE X a F) : DenT X (.Compare a [.IsNot] [.Constant .none j p'] pos) (mMap gB (mMap gNotN F)) := (den_notN h).2
theorem dene_notN {F : Mo D} {j : Nat} {p' : Pos} (h : DenE X a F) : DenE X (.Compare a [.IsNot] [.Constant .none j p'] pos) (mMap gNotN F) := (den_notN h).1
theorem dent_chain {op op' : CmpOp} {c : Expr} {g g' : D → D → Option D} {F F' F'' : Mo D} (ho : OpD X (compareOp op) g) (ho' : OpD X (compareOp op') g') (ha : DenE X a F) (hb : DenE X b F') (hc : DenE X c F'')
    (hm : lastMarks [op, op'] [b, c] = false := by with_unfolding_all rfl) : DenT X (.Compare a [op, op'] [b, c] pos) (mChain g g' F F' F'') := (den_chain ho ho' ha hb hc hm).2
theorem dene_chain {op op' : CmpOp} {c : Expr} {g g' : D → D → Option D} {F F' F'' : Mo D} (ho : OpD X (compareOp op) g) (ho' : OpD X (compareOp op') g') (ha : DenE X a F) (hb : DenE X b F') (hc : DenE X c F'')
    (hm : lastMarks [op, op'] [b, c] = false := by with_unfolding_all rfl) : DenE X (.Compare a [op, op'] [b, c] pos) (mMap (fun k => some (.bool k)) (mChain g g' F F' F'')) := (den_chain ho ho' ha hb hc hm).1
end
end Dn

/-! V12: defs that change lists that they are handed, their calls. -/
namespace Dn
open PySem PySem.Spec PyProof.Rows L2
open Evl (Ex fresh_back)

theorem Rep.rep' {P : Addr → Prop} {bs : Bs} {G H : Hp} {σ : L2.St} {env : DEnv} (r : Rep P bs G H σ env) :
    ∃ L : Lab, (∀ a p, L a = some p → P a ∧ G a = none ∧ H a ≠ none) ∧ ∀ (i : Nat) (s : SV), env[i]? = some (some s) → ∃ v, σ[i]? = some (some v) ∧ SRep bs L G H i v s := by
  classical
  obtain ⟨L, hL, hr⟩ := r.rep
  refine ⟨fun a => if H a = none then none else L a, fun a p h => ?_, fun i s h => ?_⟩
  · by_cases ha : H a = none
    · simp [ha] at h
    · simp [ha] at h
      exact ⟨(hL a p h).1, (hL a p h).2, ha⟩
  · obtain ⟨v, hv, hs⟩ := hr i s h
    refine ⟨v, hv, ?_⟩
    cases s with
    | fz d => exact hs
    | ow io k d =>
      refine ⟨?_, hs.2⟩
      have aux : ∀ (k : Nat) {p : List Nat} {v : V} {d : D}, OwnR L G H k p v d → OwnR (fun a => if H a = none then none else L a) G H k p v d := by
        intro k
        induction k with
        | zero => intro p v d h; exact h
        | succ k ih =>
          intro p v d h
          cases d with
          | list ds =>
            unfold OwnR at h ⊢
            obtain ⟨a, vs, rfl, ha, hl, hn, h⟩ := h
            exact ⟨a, vs, rfl, ha, by simp [ha, hl], hn, fun j w e hw he => ih (h j w e hw he)⟩
          | dict kvs =>
            cases k with
            | zero =>
              obtain ⟨a, rfl, hl, h⟩ := h
              refine ⟨a, rfl, ?_, h⟩
              have : H a ≠ none := by
                rcases h with ⟨_, _, _, e, _⟩ | ⟨_, _, _, e, _⟩ <;> exact some_ne e
              simp [this, hl]
            | succ k => unfold OwnR at h; exact h.elim
          | _ => unfold OwnR at h; exact h.elim
      exact aux _ hs.1

/-! ### arguments: data, or a name's own list -/
inductive AR where
  | fz (d : D) | io (i : Nat)
def RpAR (σ : L2.St) (G : Hp) (v : V) : AR → Prop
  | .fz d => Rp G v d
  | .io i => σ[i]? = some (some v)
def RpARs (σ : L2.St) (G : Hp) : List V → List AR → Prop
  | [], [] => True
  | v :: vs, a :: as => RpAR σ G v a ∧ RpARs σ G vs as
  | _, _ => False
theorem RpARs.length {σ : L2.St} {G : Hp} : ∀ {vs : List V} {as : List AR}, RpARs σ G vs as → vs.length = as.length
  | [], [], _ => rfl
  | v :: vs, a :: as, h => congrArg (· + 1) (RpARs.length h.2)
theorem RpARs.get {σ : L2.St} {G : Hp} : ∀ {vs : List V} {as : List AR} {j : Nat} {a : AR}, RpARs σ G vs as → as[j]? = some a → ∃ v, vs[j]? = some v ∧ RpAR σ G v a
  | [], [], _, _, _, e => by simp at e
  | v :: vs, a :: as, 0, _, h, e => by simp at e; subst e; exact ⟨v, rfl, h.1⟩
  | v :: vs, a :: as, j + 1, _, h, e => RpARs.get (j := j) h.2 (by simpa using e)
def DenR (X : Cx) (es : List Expr) (F : Mo (List AR)) : Prop :=
  ∃ t : TA, PA X es t ∧ ∀ (P : Addr → Prop) (b : Bs) (σ : L2.St) (env : DEnv) (G H : Hp) (d : List AR) (env' : DEnv), Rep P b G H σ env → F env = some (d, env') →
    ∀ Q : List V → Hp → Prop, (∀ v G' H', Gr P G H G' H' → Rep P b G' H' σ env' → RpARs σ G' v d → Q v H') → t σ H Q
section
variable {X : Cx} {a b c e : Expr} {pos : Pos}
theorem denr_nil : DenR X [] (mRet []) := by
  refine ⟨_, pa_nil, fun P b σ env G H d env' r h Q q => ?_⟩
  obtain ⟨rfl, rfl⟩ := mRet_some h
  exact q [] G H Gr.refl r trivial
theorem RpAR.mono {σ : L2.St} {G G' : Hp} (e : Ex G G') {v : V} : ∀ {a : AR}, RpAR σ G v a → RpAR σ G' v a
  | .fz _, h => Rp.mono e h
  | .io _, h => h
theorem denr_cons {es : List Expr} {F : Mo D} {F' : Mo (List AR)} (ha : DenE X a F) (hr : DenR X es F') (hs : starEach (a :: es) X.env = (false, eval a X.env) :: starEach es X.env := by rfl) : DenR X (a :: es) (mCons (mMap (fun d => some (AR.fz d)) F) F') := by
  obtain ⟨t, h1, h2⟩ := ha
  obtain ⟨u, k1, k2⟩ := hr
  refine ⟨_, pa_cons h1 k1 hs, fun P b σ env G H d env' rr h Q q => ?_⟩
  obtain ⟨x, e1, hx, h⟩ := mBind_some h
  obtain ⟨y, e2, hy, h⟩ := mBind_some h
  obtain ⟨rfl, rfl⟩ := mRet_some h
  obtain ⟨x', hx', hz⟩ := mMap_some hx
  cases hz
  exact h2 P b σ env G H x' e1 rr hx' _ fun v G1 H1 g1 r1 p1 => k2 P b σ e1 G1 H1 y _ r1 hy _ fun w G2 H2 g2 r2 p2 => q _ G2 H2 (g1.trans g2) r2 ⟨Rp.mono g2.g p1, p2⟩
def mIo (i : Nat) (F' : Mo (List AR)) : Mo (List AR) := fun env => match env[i]? with | some (some (SV.ow _ _ _)) => mCons (mRet (AR.io i)) F' env | _ => none
theorem denr_io (i : Nat) {x : Str} {p1 : Pos} {es : List Expr} {F' : Mo (List AR)} (hi : X.N[i]? = some x) (hv : Vis X.env.scope x) (hr : DenR X es F') (hd : (x == ("__debug__" : Str)) = false := by decide) (hcd : (x == ("__classdict__" : Str)) = false := by decide)
    (hs : starEach (.Name x p1 :: es) X.env = (false, eval (.Name x p1) X.env) :: starEach es X.env := by rfl) : DenR X (.Name x p1 :: es) (mIo i F') := by
  obtain ⟨u, k1, k2⟩ := hr
  refine ⟨_, pa_cons (pe_var hi hv hd hcd) k1 hs, fun P b σ env G H d env' rr h Q q => ?_⟩
  unfold mIo at h
  split at h
  · rename_i io k dd w
    obtain ⟨x0, e1, hx, hA⟩ := mBind_some h
    obtain ⟨y, e2, hy, hB⟩ := mBind_some hA
    obtain ⟨rfl, rfl⟩ := mRet_some hx
    obtain ⟨rfl, rfl⟩ := mRet_some hB
    obtain ⟨v, hv, _⟩ := rr.own w
    exact ⟨v, hv, k2 P b σ _ G H y _ rr hy _ fun w G2 H2 g2 r2 p2 => q _ G2 H2 g2 r2 ⟨hv, p2⟩⟩
  · cases h
end

/-! ### what a def is handed, what it hands back -/
abbrev Ms := List (Option Nat)
def argEnv : Ms → List D → DEnv
  | none :: ms, d :: ds => some (.fz d) :: argEnv ms ds
  | some k :: ms, d :: ds => some (.ow true k d) :: argEnv ms ds
  | _, _ => []
def outEnv : Ms → List D → DEnv
  | none :: ms, outs => none :: outEnv ms outs
  | some k :: ms, o :: outs => some (.ow true k o) :: outEnv ms outs
  | some _ :: ms, [] => none :: outEnv ms []
  | [], _ => []
def outsOf : Ms → DEnv → Option (List D)
  | [], _ => some []
  | none :: ms, _ :: e => outsOf ms e
  | some k :: ms, some (.ow true k' d) :: e => if k' = k then (outsOf ms e).map (d :: ·) else none
  | _, _ => none
theorem outsOf_get : ∀ {ms : Ms} {e : DEnv} {outs : List D}, outsOf ms e = some outs → ∀ {i : Nat} {s : SV}, (outEnv ms outs)[i]? = some (some s) → e[i]? = some (some s) ∧ ∃ k o, s = .ow true k o
  | [], _, _, _, i, s, h => by simp [outEnv] at h
  | none :: ms, [], _, he, i, s, h => by simp [outsOf] at he
  | none :: ms, x :: e, outs, he, 0, s, h => by simp [outEnv] at h
  | none :: ms, x :: e, outs, he, i + 1, s, h => outsOf_get (ms := ms) (e := e) (i := i) he h
  | some k :: ms, e, outs, he, i, s, h => by
    unfold outsOf at he
    split at he
    · rename_i h1; cases h1
    · rename_i h1; cases h1
    · rename_i k0 ms0 k' d e0 h1
      cases h1
      split at he
      · rename_i hk
        subst hk
        cases w : outsOf ms e0 with
        | none => rw [w] at he; cases he
        | some os =>
          rw [w] at he
          cases he
          cases i with
          | zero =>
            simp [outEnv] at h
            subst h
            exact ⟨rfl, _, _, rfl⟩
          | succ i => exact outsOf_get (ms := ms) (e := e0) w (i := i) h
      · cases he
    · cases he
theorem outEnv_len : ∀ (ms : Ms) (outs : List D), (outEnv ms outs).length = ms.length
  | [], _ => rfl
  | none :: ms, outs => congrArg (· + 1) (outEnv_len ms outs)
  | some k :: ms, o :: outs => congrArg (· + 1) (outEnv_len ms outs)
  | some k :: ms, [] => congrArg (· + 1) (outEnv_len ms [])
theorem argEnv_len : ∀ {ms : Ms} {ds : List D}, ds.length = ms.length → (argEnv ms ds).length = ms.length
  | [], _, _ => by simp [argEnv]
  | none :: ms, d :: ds, h => congrArg (· + 1) (argEnv_len (by simpa using h))
  | some k :: ms, d :: ds, h => congrArg (· + 1) (argEnv_len (by simpa using h))
  | none :: ms, [], h => by cases h
  | some k :: ms, [], h => by cases h

/-- a def that changes what it is handed -/
def spIO (ms : Ms) (F : List D → Option (D × List D)) : Sp := fun vs H Q _ => ∃ (P : Addr → Prop) (bs : Bs) (G : Hp) (ds : List D) (d : D) (outs : List D),
  Rep P bs G H (vs.map some) (argEnv ms ds) ∧ ds.length = ms.length ∧ F ds = some (d, outs) ∧ ∀ v G' H', Gr P G H G' H' → Rep P bs G' H' (vs.map some) (outEnv ms outs) → Rp G' v d → Q v H'
structure FdIO (P : Program) (w : World) (K : PySem.W.Frag) (mg : Str → Option Value) (base : Heap) (x : Str) (k : Nat) (ms : Ms) (F : List D → Option (D × List D)) : Prop where
  ex : ∃ (f : Addr) (fd : FuncData) (ps : List Str), mg x = some (.ref f) ∧ PySem.W.keepIn K (.ref f) = true ∧ Binds K fd ps [] ∧ ps.length = ms.length ∧ FnOk P w K mg base CX0 k f fd ps (spIO ms F)
def envIO (N : List Str) (ms : Ms) (ds : List D) : DEnv := argEnv ms ds ++ List.replicate (N.length - ds.length) none
def outIO (ms : Ms) : Option Fl → Option (D × List D)
  | some (.rt d e) => (outsOf ms e).map fun o => (d, o)
  | some (.nx e) => (outsOf ms e).map fun o => (.none, o)
  | _ => none
section
variable {P : Program} {w : World} {K : PySem.W.Frag} {mg : Str → Option Value} {base : Heap}
theorem Rep.ext {P : Addr → Prop} {bs : Bs} {G H : Hp} {σ : L2.St} {env : DEnv} (r : Rep P bs G H σ env) (n : Nat) : Rep P bs G H (σ ++ List.replicate n none) (env ++ List.replicate n none) := by
  obtain ⟨L, hL, hr⟩ := r.rep
  refine ⟨by simp [r.len], r.sub, r.fresh, L, hL, fun i s h => ?_⟩
  by_cases hi : i < env.length
  · rw [List.getElem?_append_left hi] at h
    obtain ⟨v, hv, hs⟩ := hr i s h
    exact ⟨v, by rw [List.getElem?_append_left (by rw [r.len]; exact hi)]; exact hv, hs⟩
  · rw [List.getElem?_append_right (by omega)] at h
    obtain ⟨h1, h2⟩ := List.getElem?_eq_some_iff.mp h
    rw [List.getElem_replicate] at h2
    cases h2
theorem FdIO.mk' {x qual : Str} {st : Stmt} {f : Addr} {fd : FuncData} {N ps : List Str} {k : Nat} {ms : Ms} {B : So} (F : Fun K x qual st f fd) (S : FnScope N ps (defScope st)) (hg : mg x = some (.ref f)) (hb : Binds K fd ps []) (hl : ps.length = ms.length)
    (body : ∀ (cdv : Value) (A : Around) (outer : List Env) (s : Shared) (H : Hp) (E : XK), Room k (A.deeper (envOfC qual (defScope st) s.heap.objs.size f cdv)) → DenSs (cxOf CX0 P w K mg base N qual (defScope st) f cdv A outer s H E).nox (defBody st) B) :
    FdIO P w K mg base x (k + 1) ms (fun ds => outIO ms (B (envIO N ms ds))) := by
  refine ⟨f, fd, ps, hg, F.kp, hb, hl, F.ok S (fun vs H Q E h => ?_) fun cdv A outer s H vs Q E hr h => ?_⟩
  · obtain ⟨P0, bs, G, ds, d, outs, r, hd, _, _⟩ := h
    have := r.len
    rw [List.length_map, argEnv_len hd] at this
    rw [this, hl]
  · obtain ⟨P0, bs, G, ds, d, outs, r, hd, hF, q⟩ := h
    obtain ⟨t, h1, h2⟩ := body cdv A outer s H E hr
    refine ⟨t, h1, ?_⟩
    have hvl : vs.length = ds.length := by
      have := r.len
      rw [List.length_map, argEnv_len hd] at this
      rw [this, hd]
    have rep : Rep P0 bs G H (L2.start N vs) (envIO N ms ds) := by
      unfold L2.start envIO
      rw [hvl]
      exact r.ext _
    have fin : ∀ {σ' : L2.St} {env' : DEnv} {G' H' : Hp} {v : V} {d' : D}, Gr P0 G H G' H' → Rep P0 bs G' H' σ' env' → Rp G' v d' → (outsOf ms env').map (fun o => (d', o)) = some (d, outs) → Q v H' := fun {σ' env' G' H' v d'} g r' p he => by
      cases wo : outsOf ms env' with
      | none => rw [wo] at he; cases he
      | some o =>
        rw [wo] at he
        cases he
        refine q v G' H' g ?_ p
        obtain ⟨L, hL, hr'⟩ := r'.rep
        obtain ⟨_, _, hr0⟩ := r.rep
        refine ⟨by rw [List.length_map, outEnv_len, hvl, hd], r'.sub, r'.fresh, L, hL, fun i s hs => ?_⟩
        obtain ⟨he', kk, oo, rfl⟩ := outsOf_get wo hs
        obtain ⟨v', hv', hs'⟩ := hr' i _ he'
        have hv2 := hs'.2 rfl
        subst hv2
        refine ⟨_, ?_, hs'⟩
        -- the parameter held it from the first
        have hil : i < ms.length := by
          have := (List.getElem?_eq_some_iff.mp hs).1
          rwa [outEnv_len] at this
        have aux : ∀ (ms : Ms) (ds outs : List D) (i : Nat) (k : Nat) (o : D), ds.length = ms.length → (outEnv ms outs)[i]? = some (some (.ow true k o)) → ∃ d, (argEnv ms ds)[i]? = some (some (.ow true k d)) := by
          intro ms
          induction ms with
          | nil => intro ds outs i k o _ h; simp [outEnv] at h
          | cons m ms ih =>
            intro ds outs i k o hl h
            cases ds with
            | nil => cases hl
            | cons d ds =>
              have hl' : ds.length = ms.length := by simpa using hl
              cases m with
              | none =>
                cases i with
                | zero => simp [outEnv] at h
                | succ i => exact ih ds outs i k o hl' h
              | some k0 =>
                cases outs with
                | nil =>
                  cases i with
                  | zero => simp [outEnv] at h
                  | succ i => exact ih ds [] i k o hl' h
                | cons o0 outs =>
                  cases i with
                  | zero => simp [outEnv] at h; obtain ⟨rfl, _⟩ := h; exact ⟨d, rfl⟩
                  | succ i => exact ih ds outs i k o hl' h
        obtain ⟨d0, hd0⟩ := aux ms ds _ i kk oo hd hs
        obtain ⟨v0, hv0, hs0⟩ := hr0 i _ hd0
        have := hs0.2 rfl
        subst this
        exact hv0
    cases hB : B (envIO N ms ds) with
    | none => simp only [hB] at hF; cases hF
    | some r1 =>
      simp only [hB] at hF
      refine h2 _ bs _ _ G H r1 rep hB _ ?_
      cases r1 with
      | nx e1 => exact fun σ' G' H' g r' => fin g r' .non hF
      | rt d' e1 => exact fun v σ' G' H' g r' p => fin g r' p hF
      | bk e1 => cases hF
      | ct e1 => cases hF
theorem FdIO.imp {x : Str} {k : Nat} {ms : Ms} {F F' : List D → Option (D × List D)} (h : FdIO P w K mg base x k ms F) (hi : ∀ ds d, F' ds = some d → F ds = some d) : FdIO P w K mg base x k ms F' := by
  obtain ⟨f, fd, ps, h1, h2, h3, h4, h5⟩ := h.ex
  exact ⟨f, fd, ps, h1, h2, h3, h4, h5.imp fun vs H Q E ⟨P0, bs, G, ds, d, outs, a1, a2, a3, q⟩ => ⟨P0, bs, G, ds, d, outs, a1, a2, hi _ _ a3, q⟩⟩
theorem FdIO.mono {x : Str} {j k : Nat} {ms : Ms} {F : List D → Option (D × List D)} (h : FdIO P w K mg base x j ms F) (hk : j ≤ k) : FdIO P w K mg base x k ms F := by
  obtain ⟨f, fd, ps, h1, h2, h3, h4, h5⟩ := h.ex
  exact ⟨f, fd, ps, h1, h2, h3, h4, h5.mono hk⟩
end

/-! ### calls -/
def argsOf : Ms → List AR → DEnv → Option (List D)
  | [], [], _ => some []
  | none :: ms, .fz d :: as, e => (argsOf ms as e).map (d :: ·)
  | some k :: ms, .io i :: as, e => (match e[i]? with | some (some (SV.ow _ k' d)) => if k' = k then (argsOf ms as e).map (d :: ·) else none | _ => none)
  | _, _, _ => none
def putOuts : Ms → List AR → List D → DEnv → Option DEnv
  | [], [], [], e => some e
  | none :: ms, .fz _ :: as, outs, e => putOuts ms as outs e
  | some k :: ms, .io i :: as, o :: outs, e => (match e[i]? with | some (some (SV.ow io _ _)) => putOuts ms as outs (e.set i (some (.ow io k o))) | _ => none)
  | _, _, _, _ => none
def iosOf : List AR → List Nat
  | [] => []
  | .fz _ :: as => iosOf as
  | .io i :: as => i :: iosOf as
def mCallIO (ms : Ms) (F : List D → Option (D × List D)) (m : Mo (List AR)) : Mo D := fun env =>
  match m env with
  | none => none
  | some (ars, e1) =>
    if (iosOf ars).Nodup then
      match argsOf ms ars e1 with
      | none => none
      | some ds =>
        match F ds with
        | none => none
        | some (d, outs) => (putOuts ms ars outs e1).map fun e2 => (d, e2)
    else none
theorem mem_ios : ∀ {as : List AR} {i : Nat}, i ∈ iosOf as ↔ ∃ j : Nat, as[j]? = some (AR.io i)
  | [], i => by simp [iosOf]
  | .fz d :: as, i => by
    rw [iosOf, mem_ios]
    constructor
    · rintro ⟨j, h⟩; exact ⟨j + 1, h⟩
    · rintro ⟨j, h⟩
      cases j with
      | zero => simp at h
      | succ j => exact ⟨j, h⟩
  | .io k :: as, i => by
    rw [iosOf, List.mem_cons, mem_ios]
    constructor
    · rintro (rfl | ⟨j, h⟩)
      · exact ⟨0, rfl⟩
      · exact ⟨j + 1, h⟩
    · rintro ⟨j, h⟩
      cases j with
      | zero => simp at h; exact .inl h.symm
      | succ j => exact .inr ⟨j, h⟩
theorem ios_inj : ∀ {as : List AR} {i j k : Nat}, (iosOf as).Nodup → as[j]? = some (AR.io i) → as[k]? = some (AR.io i) → j = k
  | .fz d :: as, i, j, k, hn, h1, h2 => by
    cases j with
    | zero => simp at h1
    | succ j =>
      cases k with
      | zero => simp at h2
      | succ k => exact congrArg (· + 1) (ios_inj (as := as) hn h1 h2)
  | .io m :: as, i, j, k, hn, h1, h2 => by
    rw [iosOf, List.nodup_cons] at hn
    cases j with
    | zero =>
      simp at h1
      subst h1
      cases k with
      | zero => rfl
      | succ k => exact absurd (mem_ios.mpr ⟨k, h2⟩) hn.1
    | succ j =>
      cases k with
      | zero =>
        simp at h2
        subst h2
        exact absurd (mem_ios.mpr ⟨j, h1⟩) hn.1
      | succ k => exact congrArg (· + 1) (ios_inj (as := as) hn.2 h1 h2)
theorem argsOf_len : ∀ {ms : Ms} {as : List AR} {e : DEnv} {ds : List D}, argsOf ms as e = some ds → ds.length = ms.length ∧ as.length = ms.length
  | [], [], _, _, h => by cases h; exact ⟨rfl, rfl⟩
  | none :: ms, .fz d :: as, e, ds, h => by
    simp only [argsOf] at h
    cases w : argsOf ms as e with
    | none => rw [w] at h; cases h
    | some xs => rw [w] at h; cases h; obtain ⟨h1, h2⟩ := argsOf_len w; exact ⟨congrArg (· + 1) h1, congrArg (· + 1) h2⟩
  | some k :: ms, .io i :: as, e, ds, h => by
    simp only [argsOf] at h
    split at h
    · split at h
      · cases w : argsOf ms as e with
        | none => rw [w] at h; cases h
        | some xs => rw [w] at h; cases h; obtain ⟨h1, h2⟩ := argsOf_len w; exact ⟨congrArg (· + 1) h1, congrArg (· + 1) h2⟩
      · cases h
    · cases h
  | [], _ :: _, _, _, h => by simp [argsOf] at h
  | none :: ms, [], _, _, h => by simp [argsOf] at h
  | some k :: ms, [], _, _, h => by simp [argsOf] at h
  | none :: ms, .io _ :: as, _, _, h => by simp [argsOf] at h
  | some k :: ms, .fz _ :: as, _, _, h => by simp [argsOf] at h
theorem argsOf_get : ∀ {ms : Ms} {as : List AR} {e : DEnv} {ds : List D}, argsOf ms as e = some ds → ∀ {j : Nat} {s : SV}, (argEnv ms ds)[j]? = some (some s) →
    (∃ d, s = .fz d ∧ as[j]? = some (.fz d)) ∨ (∃ k d i io, s = .ow true k d ∧ as[j]? = some (AR.io i) ∧ e[i]? = some (some (.ow io k d)))
  | [], [], _, _, h, j, s, hj => by cases h; simp [argEnv] at hj
  | none :: ms, .fz d :: as, e, ds, h, j, s, hj => by
    simp only [argsOf] at h
    cases w : argsOf ms as e with
    | none => rw [w] at h; cases h
    | some xs =>
      rw [w] at h
      cases h
      cases j with
      | zero => simp [argEnv] at hj; exact .inl ⟨d, hj.symm, rfl⟩
      | succ j => exact argsOf_get w (j := j) hj
  | some k :: ms, .io i :: as, e, ds, h, j, s, hj => by
    simp only [argsOf] at h
    split at h
    · rename_i io k' d' he
      split at h
      · rename_i hk
        subst hk
        cases w : argsOf ms as e with
        | none => rw [w] at h; cases h
        | some xs =>
          rw [w] at h
          cases h
          cases j with
          | zero => simp [argEnv] at hj; exact .inr ⟨_, _, i, io, hj.symm, rfl, he⟩
          | succ j => exact argsOf_get w (j := j) hj
      · cases h
    · cases h
  | [], _ :: _, _, _, h, _, _, _ => by simp [argsOf] at h
  | none :: ms, [], _, _, h, _, _, _ => by simp [argsOf] at h
  | some k :: ms, [], _, _, h, _, _, _ => by simp [argsOf] at h
  | none :: ms, .io _ :: as, _, _, h, _, _, _ => by simp [argsOf] at h
  | some k :: ms, .fz _ :: as, _, _, h, _, _, _ => by simp [argsOf] at h
theorem putOuts_get : ∀ {ms : Ms} {as : List AR} {outs : List D} {e e' : DEnv}, (iosOf as).Nodup → putOuts ms as outs e = some e' → e'.length = e.length ∧ ∀ {i : Nat} {s : SV}, e'[i]? = some (some s) →
    (∃ (j k : Nat) (o : D) (io : Bool) (d : SV), as[j]? = some (AR.io i) ∧ s = SV.ow io k o ∧ (outEnv ms outs)[j]? = some (some (SV.ow true k o)) ∧ e[i]? = some (some d) ∧ ∃ (k' : Nat) (d' : D), d = SV.ow io k' d') ∨ (i ∉ iosOf as ∧ e[i]? = some (some s))
  | [], [], [], e, e', _, h => by cases h; exact ⟨rfl, fun h => .inr ⟨by simp [iosOf], h⟩⟩
  | none :: ms, .fz d :: as, outs, e, e', hn, h => by
    obtain ⟨h1, h2⟩ := putOuts_get (ms := ms) (as := as) hn (show putOuts ms as outs e = some e' from h)
    refine ⟨h1, fun hi => ?_⟩
    rcases h2 hi with ⟨j, k, o, io, d', a1, a2, a3, a4⟩ | h3
    · exact .inl ⟨j + 1, k, o, io, d', a1, a2, a3, a4⟩
    · exact .inr h3
  | some k :: ms, .io m :: as, o :: outs, e, e', hn, h => by
    rw [iosOf, List.nodup_cons] at hn
    simp only [putOuts] at h
    split at h
    · rename_i io k' d' he
      obtain ⟨h1, h2⟩ := putOuts_get (ms := ms) (as := as) hn.2 h
      refine ⟨by rw [h1, List.length_set], fun {i s} hi => ?_⟩
      rcases h2 hi with ⟨j, k2, o2, io2, d2, a1, a2, a3, a4, a5⟩ | ⟨h3, h4⟩
      · have him : i ≠ m := fun z => hn.1 (by rw [← z]; exact mem_ios.mpr ⟨j, a1⟩)
        rw [List.getElem?_set_ne (Ne.symm him)] at a4
        exact .inl ⟨j + 1, k2, o2, io2, d2, a1, a2, a3, a4, a5⟩
      · by_cases him : i = m
        · subst him
          have hl : i < e.length := (List.getElem?_eq_some_iff.mp he).1
          rw [List.getElem?_set_self hl] at h4
          cases h4
          exact .inl ⟨0, k, o, io, _, rfl, rfl, rfl, he, _, _, rfl⟩
        · rw [List.getElem?_set_ne (Ne.symm him)] at h4
          exact .inr ⟨by rw [iosOf, List.mem_cons, not_or]; exact ⟨him, h3⟩, h4⟩
    · cases h
  | [], [], _ :: _, _, _, _, h => by simp [putOuts] at h
  | [], _ :: _, _, _, _, _, h => by simp [putOuts] at h
  | none :: ms, [], _, _, _, _, h => by simp [putOuts] at h
  | none :: ms, .io _ :: as, _, _, _, _, h => by simp [putOuts] at h
  | some k :: ms, [], _, _, _, _, h => by simp [putOuts] at h
  | some k :: ms, .fz _ :: as, _, _, _, _, h => by simp [putOuts] at h
  | some k :: ms, .io _ :: as, [], _, _, _, h => by simp [putOuts] at h
section
variable {X : Cx} {e : Expr} {pos : Pos}
open Classical in
theorem den_callIO {x : Str} {k : Nat} {ms : Ms} {p : Pos} {es : List Expr} {F : List D → Option (D × List D)} {m : Mo (List AR)} (h : FdIO X.prog X.w X.K X.mg X.base x k ms F) (hr : Room k X.A) (hg : Gl X x) (ha : DenR X (e :: es) m) (hdb : (x == ("__debug__" : Str)) = false := by decide)
    (he : starEach (e :: es) X.env = (false, eval e X.env) :: starEach es X.env := by rfl) (hpl : (backTo pos (starEach es X.env)).any (·.1) = false := by rfl) : DenE X (.Call (.Name x p) (e :: es) [] pos) (mCallIO ms F m) := by
  obtain ⟨f, fd, ps, h1, h2, h3, h4, h5⟩ := h.ex
  obtain ⟨t, a1, a2⟩ := ha
  refine ⟨_, pe_call h5 hr hg h1 h2 h3 .nil pass0 a1 hdb he hpl, fun P b σ env G H d env' rr h Q q => ?_⟩
  unfold mCallIO at h
  cases w1 : m env with
  | none => simp only [w1] at h; cases h
  | some pr1 =>
    obtain ⟨ars, e1⟩ := pr1
    simp only [w1] at h
    split at h
    · rename_i hnd
      cases w2 : argsOf ms ars e1 with
      | none => simp only [w2] at h; cases h
      | some ds =>
        simp only [w2] at h
        cases w3 : F ds with
        | none => simp only [w3] at h; cases h
        | some pr3 =>
          obtain ⟨d3, outs⟩ := pr3
          simp only [w3] at h
          cases w4 : putOuts ms ars outs e1 with
          | none => rw [w4] at h; cases h
          | some e2 =>
            rw [w4] at h
            cases h
            refine a2 P b σ env G H _ _ rr w1 _ fun vs G1 H1 g r p => ?_
            show spIO ms F (vs ++ []) H1 Q _
            rw [List.append_nil]
            obtain ⟨hdl, hal⟩ := argsOf_len w2
            obtain ⟨L, hL, hrp⟩ := r.rep'
            obtain ⟨hel, hpo⟩ := putOuts_get hnd w4
            -- the nodes handed over
            let N : Addr → Prop := fun a => ∃ i q, L a = some (i :: q) ∧ i ∈ iosOf ars
            have hN : ∀ a, N a → P a ∧ G1 a = none ∧ H1 a ≠ none := fun a ⟨i, q, hq, _⟩ => hL a _ hq
            let P0 : Addr → Prop := fun a => H1 a = none ∨ N a
            let L0 : Lab := fun a => match L a with | some (i :: q) => if h : ∃ j : Nat, ars[j]? = some (AR.io i) then some (h.choose :: q) else none | _ => none
            have hL0 : ∀ {a : Addr} {i j : Nat} {q : List Nat}, L a = some (i :: q) → ars[j]? = some (AR.io i) → L0 a = some (j :: q) := fun {a i j q} hq hj => by
              have hex : ∃ j : Nat, ars[j]? = some (AR.io i) := ⟨j, hj⟩
              have : hex.choose = j := ios_inj hnd hex.choose_spec hj
              show (match L a with | some (i :: q) => if h : ∃ j : Nat, ars[j]? = some (AR.io i) then some (h.choose :: q) else none | _ => none) = _
              rw [hq]
              simp [hex, this]
            have args : Rep P0 (fun j => match vs[j]? with | some (.ref a) => a | _ => 0) G1 H1 (vs.map some) (argEnv ms ds) := by
              refine ⟨by rw [List.length_map, p.length, argEnv_len hdl, hal], r.sub, fun a h => .inl h, L0, fun a q hq => ?_, fun j s hj => ?_⟩
              · have : ∃ i q', L a = some (i :: q') ∧ i ∈ iosOf ars := by
                  have hq : (match L a with | some (i :: q) => if h : ∃ j : Nat, ars[j]? = some (AR.io i) then some (h.choose :: q) else none | _ => none) = some q := hq
                  split at hq
                  · rename_i i q' hl
                    split at hq
                    · rename_i hex
                      exact ⟨i, q', hl, mem_ios.mpr hex⟩
                    · cases hq
                  · cases hq
                exact ⟨.inr this, (hN a this).2.1⟩
              · rcases argsOf_get w2 hj with ⟨d, rfl, has⟩ | ⟨kk, d, i, io, rfl, has, hei⟩
                · obtain ⟨v, hv, rv⟩ := p.get has
                  exact ⟨v, by rw [List.getElem?_map, hv]; rfl, rv⟩
                · obtain ⟨v, hv, rv⟩ := p.get has
                  obtain ⟨v', hv', hs'⟩ := hrp i _ hei
                  have rv : σ[i]? = some (some v) := rv
                  rw [rv] at hv'
                  cases hv'
                  refine ⟨v, by rw [List.getElem?_map, hv]; rfl, hs'.1.keep (Ex.refl G1) _ fun a q hq => ⟨hL0 (by simpa using hq) has, fun _ e => e⟩, fun _ => ?_⟩
                  have hrf : ∃ a, v = .ref a := by
                    have := hs'.1
                    cases d with
                    | list _ => unfold OwnR at this; obtain ⟨a, _, e, _⟩ := this; exact ⟨a, e⟩
                    | dict _ =>
                      cases kk with
                      | zero => obtain ⟨a, e, _⟩ := this; exact ⟨a, e⟩
                      | succ _ => unfold OwnR at this; exact this.elim
                    | _ => unfold OwnR at this; exact this.elim
                  obtain ⟨a, rfl⟩ := hrf
                  simp [hv]
            refine ⟨P0, _, G1, ds, _, outs, args, hdl, w3, fun v G2 H2 g2 r2 rv => ?_⟩
            have hP0 : ∀ a, P0 a → P a := fun a h => h.elim (r.fresh a) fun n => (hN a n).1
            refine q v G2 H2 (g.trans (g2.wk hP0)) ?_ rv
            obtain ⟨L2, hL2, hr2⟩ := r2.rep'
            refine ⟨by rw [r.len, hel], r2.sub, fun a h => hP0 a (r2.fresh a h), fun a => match L2 a with | some (j :: q) => (match ars[j]? with | some (AR.io i) => some (i :: q) | _ => none) | _ => if N a then none else L a, fun a q hq => ?_, fun i s hi => ?_⟩
            · simp only [] at hq
              split at hq
              · rename_i j q' hl2
                obtain ⟨z1, z2, z3⟩ := hL2 a _ hl2
                exact ⟨hP0 a z1, z2⟩
              · split at hq
                · cases hq
                · rename_i hn
                  obtain ⟨z1, z2, z3⟩ := hL a _ hq
                  exact ⟨z1, g2.n a (fun z => z.elim z3 hn) z2⟩
            · rcases hpo hi with ⟨j, kk, o, io, dd, b1, rfl, b3, b4, k', d', rfl⟩ | ⟨hni, hi⟩
              · obtain ⟨v2, hv2, hs2⟩ := hr2 j _ b3
                obtain ⟨v1, hv1, rv1⟩ := p.get b1
                have e12 : v1 = v2 := by
                  rw [List.getElem?_map, hv1] at hv2
                  simpa using hv2
                subst e12
                obtain ⟨v3, hv3, hs3⟩ := hrp i _ b4
                have rv1 : σ[i]? = some (some v1) := rv1
                have e13 : v1 = v3 := by
                  rw [rv1] at hv3
                  simpa using hv3
                subst e13
                refine ⟨v1, rv1, hs2.1.keep (Ex.refl G2) _ fun a q hq => ⟨?_, fun _ e => e⟩, hs3.2⟩
                have hq : L2 a = some (j :: q) := by simpa using hq
                simp [hq, b1]
              · obtain ⟨v3, hv3, hs3⟩ := hrp i _ hi
                refine ⟨v3, hv3, ?_⟩
                cases s with
                | fz d => exact Rp.mono g2.g hs3
                | ow io kk dd =>
                  refine ⟨hs3.1.keep g2.g _ fun a q hq => ?_, hs3.2⟩
                  have hna : ¬ N a := fun ⟨i', q', hq', hm⟩ => by
                    rw [hq] at hq'
                    cases hq'
                    exact hni hm
                  obtain ⟨z1, z2, z3⟩ := hL a _ hq
                  have hnp : ¬ P0 a := fun z => z.elim z3 hna
                  refine ⟨?_, fun o ho => g2.h a o ho hnp⟩
                  have : L2 a = none := by
                    cases wl : L2 a with
                    | none => rfl
                    | some q2 => exact absurd (hL2 a _ wl).1 hnp
                  simp [this, hna, hq]
    · cases h
end
end Dn

/-! V13: lists of lists of one's own. -/
namespace Dn
open PySem PySem.Spec PyProof.Rows L2
open Evl (Ex fresh_back)

def own2At (env : DEnv) (i : Nat) : Option (Bool × List D) :=
  match env[i]? with
  | some (some (SV.ow io 1 (.list ds))) => some (io, ds)
  | _ => none
theorem own2At_some {env : DEnv} {i : Nat} {p : Bool × List D} (h : own2At env i = some p) : env[i]? = some (some (SV.ow p.1 1 (.list p.2))) := by
  unfold own2At at h
  split at h
  · cases h; assumption
  · cases h
/-- the inner list at a place: its number, what is in it -/
def innerAt (ds : List D) (j : Int) : Option (Nat × List D) :=
  match ixN ds.length j with
  | some n => (match ds[n]? with | some (.list xs) => some (n, xs) | _ => none)
  | none => none
theorem innerAt_some {ds : List D} {j : Int} {p : Nat × List D} (h : innerAt ds j = some p) : ixN ds.length j = some p.1 ∧ ds[p.1]? = some (.list p.2) := by
  unfold innerAt at h
  split at h
  · rename_i n hn
    split at h
    · rename_i xs hx
      cases h
      exact ⟨hn, hx⟩
    · cases h
  · cases h
/-- x[k].append(e) -/
def sApp2 (i : Nat) (k m : Mo D) : So := fun env =>
  match own2At env i with
  | none => none
  | some _ =>
  match k env with
  | some (.int j, e1) =>
    (match own2At e1 i with
    | none => none
    | some (io, ds) =>
      match innerAt ds j with
      | none => none
      | some (n, xs) =>
        match m (e1.set i none) with
        | none => none
        | some (d, e2) => if xs.length < 100000 then some (.nx (e2.set i (some (.ow io 1 (.list (ds.set n (.list (xs ++ [d])))))))) else none)
  | _ => none
/-- x[k].pop(m) -/
def mPop2 (i : Nat) (k m : Mo D) : Mo D := fun env =>
  match own2At env i with
  | none => none
  | some _ =>
  match k env with
  | some (.int j, e1) =>
    (match own2At e1 i with
    | none => none
    | some (io, ds) =>
      match innerAt ds j with
      | none => none
      | some (n, xs) =>
        match m (e1.set i none) with
        | some (.int l, e2) =>
          (match (if -1000000 ≤ l ∧ l < 1000000 then seqIndex? l xs.length else none) with
          | none => none
          | some z => (match xs[z]? with | some d => some (d, e2.set i (some (.ow io 1 (.list (ds.set n (.list (xs.eraseIdx z))))))) | none => none))
        | _ => none)
  | _ => none
/-- x[k] + e, a new list -/
def mAdd2 (i : Nat) (k m : Mo D) : Mo D := fun env =>
  match own2At env i with
  | none => none
  | some _ =>
  match k env with
  | some (.int j, e1) =>
    (match own2At e1 i with
    | none => none
    | some (io, ds) =>
      match innerAt ds j with
      | none => none
      | some (n, xs) =>
        match m (e1.set i none) with
        | some (.list ys, e2) => if xs.length + ys.length ≤ 100000 then some (.list (xs ++ ys), e2.set i (some (.ow io 1 (.list ds)))) else none
        | _ => none)
  | _ => none
/-- x[k] = e, a new list -/
def sPut2 (i : Nat) (k m : Mo D) : So := fun env =>
  match m env with
  | none => none
  | some (d, e1) =>
    match own2At e1 i with
    | none => none
    | some _ =>
    match k e1 with
    | some (.int j, e2) =>
      (match own2At e2 i with
      | none => none
      | some (io, ds) =>
        match ixN ds.length j with
        | none => none
        | some n => some (.nx (e2.set i (some (.ow io 1 (.list (ds.set n d)))))))
    | _ => none

section
variable {P : Addr → Prop} {bs : Bs} {G H G' H' : Hp} {σ : L2.St} {env : DEnv} {N : Addr → Prop}
theorem Tree.same {a : Addr} {o : HO} (hN : N a) (ha : H a = some o) (g : Gr (fun a => P a ∧ ¬ N a) G H G' H') : H' a = some o := g.h a o ha fun z => z.2 hN
theorem ixN_at {α : Type} {xs : List α} {n : Nat} {j : Int} {x : α} (h : ixN xs.length j = some n) (hx : xs[n]? = some x) : atI xs j = some x := by
  unfold L2.atI
  rw [h]
  exact hx
theorem ixN_lt {m n : Nat} {j : Int} (h : ixN m j = some n) : n < m := by
  unfold ixN at h
  split at h
  · split at h
    · rename_i h1 h2
      cases h
      omega
    · cases h
  · split at h
    · rename_i h2
      cases h
      omega
    · cases h
end
section
variable {X : Cx} {e k : Expr} {pos : Pos} {x : Str}
theorem dens_app2 (i : Nat) {F Fk : Mo D} {p1 p2 p3 p4 : Pos} (hi : X.N[i]? = some x) (hv : Vis X.env.scope x) (hk : DenE X k Fk) (he : DenE X e F) (hd : (x == ("__debug__" : Str)) = false := by decide) (hcd : (x == ("__classdict__" : Str)) = false := by decide)
    (hpl0 : PlainIx k := by exact fun _ _ => rfl)
    (hs : swapsWith (.Call (.Attribute (.Subscript (.Name x p1) k p4) "append" p2) [e] [] p3) none pos.line X.env = pure false := by rfl)
    (hbase : attributeBase (.Subscript (.Name x p1) k p4) "append" X.env (eval (.Subscript (.Name x p1) k p4) X.env) = eval (.Subscript (.Name x p1) k p4) X.env := by rfl)
    (hfew : ((backTo p3 (starEach [e] X.env)).all (fun x => !x.1) && (backToKw p3 (keywordEach [] X.env)).all (fun x => x.1.isSome)
      && decide ([e].length + ([] : List Keyword).length + (if ([] : List Keyword).isEmpty then 0 else 1) < 30)) = true := by rfl)
    (hline : (p2.endLine == p3.line) = true := by rfl) (hst : starEach [e] X.env = (false, eval e X.env) :: starEach [] X.env := by rfl) (hplain : (backTo p3 (starEach [] X.env)).any (·.1) = false := by rfl) :
    DenS X (.Expr (.Call (.Attribute (.Subscript (.Name x p1) k p4) "append" p2) [e] [] p3) pos) (sApp2 i Fk F) := by
  obtain ⟨t, h1, h2⟩ := he
  obtain ⟨u, k1, k2⟩ := hk
  refine ⟨_, ps_expr (pe_bm PySem.F.plainAttrs_list PySem.F.slot_list_append PySem.F.type_list_append mt_append (pe_ix ix_list (pe_var hi hv hd hcd) k1 hpl0) (pa_cons h1 pa_nil hst) hbase hfew hline hst hplain) hs, fun P b σ env G H r rr h Dd q => ?_⟩
  unfold sApp2 at h
  cases w0 : own2At env i with
  | none => simp only [w0] at h; cases h
  | some pr0 =>
    simp only [w0] at h
    obtain ⟨v0, hv0, _, _⟩ := rr.own (own2At_some w0)
    cases w1 : Fk env with
    | none => simp only [w1] at h; cases h
    | some pr1 =>
      obtain ⟨kd, e1⟩ := pr1
      cases kd with
      | int j =>
        simp only [w1] at h
        cases w2 : own2At e1 i with
        | none => simp only [w2] at h; cases h
        | some pr2 =>
          obtain ⟨io, ds⟩ := pr2
          simp only [w2] at h
          cases w3 : innerAt ds j with
          | none => simp only [w3] at h; cases h
          | some pr3 =>
            obtain ⟨n, xs⟩ := pr3
            simp only [w3] at h
            cases w4 : F (e1.set i none) with
            | none => simp only [w4] at h; cases h
            | some pr4 =>
              obtain ⟨d, e2⟩ := pr4
              simp only [w4] at h
              split at h
              · rename_i hl
                cases h
                obtain ⟨hn, hx⟩ := innerAt_some w3
                refine ⟨v0, hv0, k2 P b σ env G H _ e1 rr w1 _ fun kv G1 H1 g1 r1 p1 => ?_⟩
                obtain ⟨N, v1, hv1, tr, rt, hio⟩ := r1.take (own2At_some w2)
                rw [hv0] at hv1
                cases hv1
                obtain ⟨a, vs, rfl, hNa, hPa, hGa, ha, hln, inner⟩ := tr.list2 rfl
                have hnv : n < vs.length := by rw [hln]; exact ixN_lt hn
                obtain ⟨bb, ws, hw, hNb, hPb, hba, hGb, hb, rb⟩ := inner n vs[n] xs (List.getElem?_eq_getElem hnv) hx
                have hvn : vs[n]? = some (.ref bb) := by rw [List.getElem?_eq_getElem hnv, hw]
                refine ⟨a, vs, j, .ref bb, rfl, p1.inv_int, .of ha, ixN_at (by rw [hln]; exact hn) hvn, .inl ⟨rfl, _, .of hb⟩, h2 _ b σ _ G1 H1 d e2 rt w4 _ fun v G2 H2 g2 r2 p2 => ?_⟩
                have hb2 := Tree.same hNb hb g2
                have ha2 := Tree.same hNa ha g2
                refine ⟨bb, ws, v, rfl, rfl, hb2, by rw [rb.length]; exact line_lt hl, ?_⟩
                have t2 := (tr.keep g2).set2 (j := n) ha2 hvn hx (ws := ws ++ [v]) ((rb.mono g2.g).append (.cons p2 .nil))
                have r3 := (r2.updH (o := .lst (ws ++ [v])) (fun z => z.2 hNb) (g2.n bb (fun z => z.2 hNb) hGb)).put t2 hv0 hio
                refine q σ G2 _ ((g1.trans (g2.wk fun c z => z.1)).trans ⟨Ex.refl G2, fun c o hc nn => ?_, fun _ _ n => n⟩) r3
                rw [upd_ne (show c ≠ bb from fun z => nn (by rw [z]; exact hPb))]
                exact hc
              · cases h
      | _ => simp only [w1] at h; cases h
theorem den_pop2 (i : Nat) {F Fk : Mo D} {p1 p2 p3 p4 : Pos} (hi : X.N[i]? = some x) (hv : Vis X.env.scope x) (hk : DenE X k Fk) (he : DenE X e F) (hd : (x == ("__debug__" : Str)) = false := by decide) (hcd : (x == ("__classdict__" : Str)) = false := by decide)
    (hpl0 : PlainIx k := by exact fun _ _ => rfl)
    (hbase : attributeBase (.Subscript (.Name x p1) k p4) "pop" X.env (eval (.Subscript (.Name x p1) k p4) X.env) = eval (.Subscript (.Name x p1) k p4) X.env := by rfl)
    (hfew : ((backTo p3 (starEach [e] X.env)).all (fun x => !x.1) && (backToKw p3 (keywordEach [] X.env)).all (fun x => x.1.isSome)
      && decide ([e].length + ([] : List Keyword).length + (if ([] : List Keyword).isEmpty then 0 else 1) < 30)) = true := by rfl)
    (hline : (p2.endLine == p3.line) = true := by rfl) (hst : starEach [e] X.env = (false, eval e X.env) :: starEach [] X.env := by rfl) (hplain : (backTo p3 (starEach [] X.env)).any (·.1) = false := by rfl) :
    DenE X (.Call (.Attribute (.Subscript (.Name x p1) k p4) "pop" p2) [e] [] p3) (mPop2 i Fk F) := by
  obtain ⟨t, h1, h2⟩ := he
  obtain ⟨u, k1, k2⟩ := hk
  refine ⟨_, pe_bm PySem.F.plainAttrs_list PySem.F.slot_list_pop PySem.F.type_list_pop mt_popAt (pe_ix ix_list (pe_var hi hv hd hcd) k1 hpl0) (pa_cons h1 pa_nil hst) hbase hfew hline hst hplain, fun P b σ env G H dd env' rr h Q q => ?_⟩
  unfold mPop2 at h
  cases w0 : own2At env i with
  | none => simp only [w0] at h; cases h
  | some pr0 =>
    simp only [w0] at h
    obtain ⟨v0, hv0, _, _⟩ := rr.own (own2At_some w0)
    cases w1 : Fk env with
    | none => simp only [w1] at h; cases h
    | some pr1 =>
      obtain ⟨kd, e1⟩ := pr1
      cases kd with
      | int j =>
        simp only [w1] at h
        cases w2 : own2At e1 i with
        | none => simp only [w2] at h; cases h
        | some pr2 =>
          obtain ⟨io, ds⟩ := pr2
          simp only [w2] at h
          cases w3 : innerAt ds j with
          | none => simp only [w3] at h; cases h
          | some pr3 =>
            obtain ⟨n, xs⟩ := pr3
            simp only [w3] at h
            cases w4 : F (e1.set i none) with
            | none => simp only [w4] at h; cases h
            | some pr4 =>
              obtain ⟨ld, e2⟩ := pr4
              cases ld with
              | int l =>
                simp only [w4] at h
                cases w5 : (if -1000000 ≤ l ∧ l < 1000000 then seqIndex? l xs.length else none) with
                | none => simp only [w5] at h; cases h
                | some z =>
                  simp only [w5] at h
                  cases w6 : xs[z]? with
                  | none => simp only [w6] at h; cases h
                  | some d =>
                    simp only [w6] at h
                    cases h
                    obtain ⟨hn, hx⟩ := innerAt_some w3
                    have hlb : (-1000000 ≤ l ∧ l < 1000000) ∧ seqIndex? l xs.length = some z := by
                      split at w5
                      · rename_i hh; exact ⟨hh, w5⟩
                      · cases w5
                    refine ⟨v0, hv0, k2 P b σ env G H _ e1 rr w1 _ fun kv G1 H1 g1 r1 p1 => ?_⟩
                    obtain ⟨N, v1, hv1, tr, rt, hio⟩ := r1.take (own2At_some w2)
                    rw [hv0] at hv1
                    cases hv1
                    obtain ⟨a, vs, rfl, hNa, hPa, hGa, ha, hln, inner⟩ := tr.list2 rfl
                    have hnv : n < vs.length := by rw [hln]; exact ixN_lt hn
                    obtain ⟨bb, ws, hw, hNb, hPb, hba, hGb, hb, rb⟩ := inner n vs[n] xs (List.getElem?_eq_getElem hnv) hx
                    have hvn : vs[n]? = some (.ref bb) := by rw [List.getElem?_eq_getElem hnv, hw]
                    refine ⟨a, vs, j, .ref bb, rfl, p1.inv_int, .of ha, ixN_at (by rw [hln]; exact hn) hvn, .inl ⟨rfl, _, .of hb⟩, h2 _ b σ _ G1 H1 _ e2 rt w4 _ fun v G2 H2 g2 r2 p2 => ?_⟩
                    have hb2 := Tree.same hNb hb g2
                    have ha2 := Tree.same hNa ha g2
                    obtain ⟨y, hy, ry⟩ := rb.get w6
                    refine ⟨bb, ws, l, z, y, rfl, by rw [p2.inv_int], hb2, by omega, by omega, by rw [rb.length]; exact hlb.2, hy, ?_⟩
                    have t2 := (tr.keep g2).set2 (j := n) ha2 hvn hx (ws := ws.eraseIdx z) ((rb.mono g2.g).eraseIdx z)
                    have r3 := (r2.updH (o := .lst (ws.eraseIdx z)) (fun z => z.2 hNb) (g2.n bb (fun z => z.2 hNb) hGb)).put t2 hv0 hio
                    refine q y G2 _ ((g1.trans (g2.wk fun c z => z.1)).trans ⟨Ex.refl G2, fun c o hc nn => ?_, fun _ _ n => n⟩) r3 (ry.mono g2.g)
                    rw [upd_ne (show c ≠ bb from fun z => nn (by rw [z]; exact hPb))]
                    exact hc
              | _ => simp only [w4] at h; cases h
      | _ => simp only [w1] at h; cases h
theorem denn_add2 (i : Nat) {F Fk : Mo D} {p1 p4 : Pos} (hi : X.N[i]? = some x) (hv : Vis X.env.scope x) (hk : DenE X k Fk) (he : DenE X e F) (hd : (x == ("__debug__" : Str)) = false := by decide) (hcd : (x == ("__classdict__" : Str)) = false := by decide)
    (hpl0 : PlainIx k := by exact fun _ _ => rfl) : DenN X (.BinOp (.Subscript (.Name x p1) k p4) .Add e pos) 1 (mAdd2 i Fk F) := by
  obtain ⟨t, h1, h2⟩ := he
  obtain ⟨u, k1, k2⟩ := hk
  refine ⟨_, pe_op op_cat (pe_ix ix_list (pe_var hi hv hd hcd) k1 hpl0) h1, fun P b σ env G H dd env' rr h Q q => ?_⟩
  unfold mAdd2 at h
  cases w0 : own2At env i with
  | none => simp only [w0] at h; cases h
  | some pr0 =>
    simp only [w0] at h
    obtain ⟨v0, hv0, _, _⟩ := rr.own (own2At_some w0)
    cases w1 : Fk env with
    | none => simp only [w1] at h; cases h
    | some pr1 =>
      obtain ⟨kd, e1⟩ := pr1
      cases kd with
      | int j =>
        simp only [w1] at h
        cases w2 : own2At e1 i with
        | none => simp only [w2] at h; cases h
        | some pr2 =>
          obtain ⟨io, ds⟩ := pr2
          simp only [w2] at h
          cases w3 : innerAt ds j with
          | none => simp only [w3] at h; cases h
          | some pr3 =>
            obtain ⟨n, xs⟩ := pr3
            simp only [w3] at h
            cases w4 : F (e1.set i none) with
            | none => simp only [w4] at h; cases h
            | some pr4 =>
              obtain ⟨ld, e2⟩ := pr4
              cases ld with
              | list ys =>
                simp only [w4] at h
                split at h
                · rename_i hl
                  cases h
                  obtain ⟨hn, hx⟩ := innerAt_some w3
                  refine ⟨v0, hv0, k2 P b σ env G H _ e1 rr w1 _ fun kv G1 H1 g1 r1 p1 => ?_⟩
                  obtain ⟨N, v1, hv1, tr, rt, hio⟩ := r1.take (own2At_some w2)
                  rw [hv0] at hv1
                  cases hv1
                  obtain ⟨a, vs, rfl, hNa, hPa, hGa, ha, hln, inner⟩ := tr.list2 rfl
                  have hnv : n < vs.length := by rw [hln]; exact ixN_lt hn
                  obtain ⟨bb, ws, hw, hNb, hPb, hba, hGb, hb, rb⟩ := inner n vs[n] xs (List.getElem?_eq_getElem hnv) hx
                  have hvn : vs[n]? = some (.ref bb) := by rw [List.getElem?_eq_getElem hnv, hw]
                  refine ⟨a, vs, j, .ref bb, rfl, p1.inv_int, .of ha, ixN_at (by rw [hln]; exact hn) hvn, h2 _ b σ _ G1 H1 _ e2 rt w4 _ fun v G2 H2 g2 r2 p2 => ?_⟩
                  have hb2 := Tree.same hNb hb g2
                  obtain ⟨c, us, rfl, hc, rc⟩ := p2.inv_list
                  refine ⟨bb, c, ws, us, rfl, rfl, hb2, r2.sub _ _ hc, by rw [rb.length, rc.length]; exact line_of hl, fun p hp => ?_⟩
                  have r3 := r2.put (tr.keep g2) hv0 hio
                  have hPp := r3.fresh p hp
                  refine q (.ref p) G2 _ (fun c => c = p) ((g1.trans (g2.wk fun c z => z.1)).trans ⟨Ex.refl G2, fun c o hc nn => ?_, fun _ _ n => n⟩) (r3.newH hp) (Tree.one hPp (fresh_back r3.sub hp) upd_same ((rb.mono g2.g).append rc))
                  rw [upd_ne (show c ≠ p from fun z => nn (by rw [z]; exact hPp))]
                  exact hc
                · cases h
              | _ => simp only [w4] at h; cases h
      | _ => simp only [w1] at h; cases h
theorem dens_put2 (i : Nat) {F Fk : Mo D} {p1 p2 : Pos} (hi : X.N[i]? = some x) (hv : Vis X.env.scope x) (hk : DenE X k Fk) (he : DenN X e 1 F) (hd : (x == ("__debug__" : Str)) = false := by decide) (hcd : (x == ("__classdict__" : Str)) = false := by decide)
    (hs : swapsWithSole [.Subscript (.Name x p1) k p2] e pos.line X.env = pure false := by rfl) (hw : swappedStores [.Subscript (.Name x p1) k p2] e X.env = pure none := by rfl)
    (h1 : (assignEach [.Subscript (.Name x p1) k p2] X.env).map (·.2) = [assign (.Subscript (.Name x p1) k p2) X.env] := by rfl)
    (ha : ∀ v, assign (.Subscript (.Name x p1) k p2) X.env v = (do
      let ov ← holding [v] (eval (.Name x p1) X.env)
      let iv ← holding [v, ov] (eval k X.env)
      standAt p2
      holding [v, ov, iv] (setItem ov iv v)
      release [v, ov, iv] []) := by intro _; rfl) :
    DenS X (.Assign [.Subscript (.Name x p1) k p2] e pos) (sPut2 i Fk F) := by
  obtain ⟨t, h1', h2⟩ := he
  obtain ⟨u, k1, k2⟩ := hk
  refine ⟨_, ps_asg h1' (pg_sub (pe_var hi hv hd hcd) k1 set_list ha) hs hw h1, fun P b σ env G H r rr h Dd q => ?_⟩
  unfold sPut2 at h
  cases w : F env with
  | none => rw [w] at h; cases h
  | some pr =>
    obtain ⟨d, e1⟩ := pr
    simp only [w] at h
    cases w0 : own2At e1 i with
    | none => simp only [w0] at h; cases h
    | some pr0 =>
      simp only [w0] at h
      cases w1 : Fk e1 with
      | none => simp only [w1] at h; cases h
      | some pr1 =>
        obtain ⟨kd, e2⟩ := pr1
        cases kd with
        | int j =>
          simp only [w1] at h
          cases w2 : own2At e2 i with
          | none => simp only [w2] at h; cases h
          | some pr2 =>
            obtain ⟨io, ds⟩ := pr2
            simp only [w2] at h
            cases w3 : ixN ds.length j with
            | none => simp only [w3] at h; cases h
            | some n =>
              simp only [w3] at h
              cases h
              refine h2 P b σ env G H d e1 rr w _ fun v G1 H1 N g1 r1 tr => ?_
              obtain ⟨v0, hv0, _, _⟩ := r1.own (own2At_some w0)
              refine ⟨v0, hv0, k2 _ b σ e1 G1 H1 _ e2 r1 w1 _ fun kv G2 H2 g2 r2 p2 => ?_⟩
              have tr2 := tr.keep g2
              obtain ⟨N0, v1, hv1, t0, rt, hio⟩ := r2.take (own2At_some w2)
              rw [hv0] at hv1
              cases hv1
              obtain ⟨a, vs, rfl, hNa, hPa, hGa, hha, hln, _⟩ := t0.list2 rfl
              refine ⟨a, vs, j, n, rfl, p2.inv_int, hha, by rw [hln]; exact w3, ?_⟩
              have dis : ∀ c, N0 c → ¬ N c := fun c hc => (t0.n c hc).1.2
              have t2 := Tree.put2 (t0.wk fun c z => z.1) tr2 dis hha (ixN_lt w3)
              have r3 := rt.updH (o := .lst (vs.set n v)) (p := a) (fun z => z.2 hNa) hGa
              have r4 := Rep.put (r3.wkP (P' := fun c => P c ∧ ¬ (N0 c ∨ N c)) fun c z => ⟨z.1.1, fun y => y.elim z.2 z.1.2⟩) t2 hv0 hio
              rw [set_set_env] at r4
              refine q σ G2 _ ((g1.trans (g2.wk fun c z => z.1)).trans ⟨Ex.refl G2, fun c o hc nn => ?_, fun _ _ n => n⟩) r4
              rw [upd_ne (show c ≠ a from fun z => nn (by rw [z]; exact hPa.1))]
              exact hc
        | _ => simp only [w1] at h; cases h
end
end Dn

/-! V14: several names set at once; lists of new lists; a copy of one's own list of lists. -/
namespace Dn
open PySem PySem.Spec PyProof.Rows L2
open Evl (Ex fresh_back)

/-- data and new things of one's own, side by side -/
def Items (P : Addr → Prop) (G H : Hp) : (Addr → Prop) → List V → List (Option Nat × D) → Prop
  | N, [], [] => ∀ a, ¬ N a
  | N, v :: vs, (none, d) :: is => Rp G v d ∧ Items P G H N vs is
  | N, v :: vs, (some k, d) :: is => ∃ N1 N2 : Addr → Prop, (∀ a, N a ↔ N1 a ∨ N2 a) ∧ (∀ a, N1 a → ¬ N2 a) ∧ Tree P G H N1 (k + 1) v d ∧ Items P G H N2 vs is
  | _, _, _ => False
theorem Items.length {P : Addr → Prop} {G H : Hp} : ∀ {N : Addr → Prop} {vs : List V} {is : List (Option Nat × D)}, Items P G H N vs is → vs.length = is.length
  | _, [], [], _ => rfl
  | _, v :: vs, (none, d) :: is, h => congrArg (· + 1) (Items.length h.2)
  | _, v :: vs, (some k, d) :: is, ⟨_, _, _, _, _, h⟩ => congrArg (· + 1) (Items.length h)
theorem Items.there {P : Addr → Prop} {G H : Hp} : ∀ {N : Addr → Prop} {vs : List V} {is : List (Option Nat × D)}, Items P G H N vs is → ∀ a, N a → P a ∧ G a = none ∧ H a ≠ none
  | _, [], [], h, a, n => absurd n (h a)
  | _, v :: vs, (none, d) :: is, h, a, n => Items.there h.2 a n
  | _, v :: vs, (some k, d) :: is, ⟨N1, N2, e, _, t, h⟩, a, n => ((e a).mp n).elim (t.n a) (Items.there h a)
theorem Items.keep {P : Addr → Prop} {G H G' H' : Hp} : ∀ {N M : Addr → Prop} {vs : List V} {is : List (Option Nat × D)}, Items P G H N vs is → (∀ a, N a → M a) → Gr (fun a => P a ∧ ¬ M a) G H G' H' → Items P G' H' N vs is
  | _, _, [], [], h, _, _ => h
  | _, _, v :: vs, (none, d) :: is, h, m, g => ⟨h.1.mono g.g, Items.keep h.2 m g⟩
  | _, M, v :: vs, (some k, d) :: is, ⟨N1, N2, e, dis, t, h⟩, m, g =>
    ⟨N1, N2, e, dis, t.keep (g.wk fun a z => ⟨z.1, fun n => z.2 (m a ((e a).mpr (.inl n)))⟩), Items.keep h (fun a n => m a ((e a).mpr (.inr n))) g⟩
theorem Items.wk {P P' : Addr → Prop} {G H : Hp} (w : ∀ a, P a → P' a) : ∀ {N : Addr → Prop} {vs : List V} {is : List (Option Nat × D)}, Items P G H N vs is → Items P' G H N vs is
  | _, [], [], h => h
  | _, v :: vs, (none, d) :: is, h => ⟨h.1, Items.wk w h.2⟩
  | _, v :: vs, (some k, d) :: is, ⟨N1, N2, e, dis, t, h⟩ => ⟨N1, N2, e, dis, t.wk w, Items.wk w h⟩
def DenM (X : Cx) (es : List Expr) (F : Mo (List (Option Nat × D))) : Prop :=
  ∃ t : TA, PA X es t ∧ ∀ (P : Addr → Prop) (b : Bs) (σ : L2.St) (env : DEnv) (G H : Hp) (d : List (Option Nat × D)) (env' : DEnv), Rep P b G H σ env → F env = some (d, env') →
    ∀ Q : List V → Hp → Prop, (∀ v G' H' N, Gr P G H G' H' → Rep (fun a => P a ∧ ¬ N a) b G' H' σ env' → Items P G' H' N v d → Q v H') → t σ H Q
section
variable {X : Cx} {a b c e : Expr} {pos : Pos}
theorem denm_nil : DenM X [] (mRet []) := by
  refine ⟨_, pa_nil, fun P b σ env G H d env' r h Q q => ?_⟩
  obtain ⟨rfl, rfl⟩ := mRet_some h
  exact q [] G H (fun _ => False) Gr.refl (r.wkP fun a h => ⟨h, fun z => z⟩) fun a z => z
theorem denm_cons {es : List Expr} {F : Mo D} {F' : Mo (List (Option Nat × D))} (ha : DenE X a F) (hr : DenM X es F') (hs : starEach (a :: es) X.env = (false, eval a X.env) :: starEach es X.env := by rfl) : DenM X (a :: es) (mCons (mMap (fun d => some (none, d)) F) F') := by
  obtain ⟨t, h1, h2⟩ := ha
  obtain ⟨u, k1, k2⟩ := hr
  refine ⟨_, pa_cons h1 k1 hs, fun P b σ env G H d env' rr h Q q => ?_⟩
  obtain ⟨x, e1, hx, hA⟩ := mBind_some h
  obtain ⟨y, e2, hy, hB⟩ := mBind_some hA
  obtain ⟨rfl, rfl⟩ := mRet_some hB
  obtain ⟨x', hx', hz⟩ := mMap_some hx
  cases hz
  exact h2 P b σ env G H x' e1 rr hx' _ fun v G1 H1 g1 r1 p1 => k2 P b σ e1 G1 H1 y _ r1 hy _ fun w G2 H2 N g2 r2 p2 => q _ G2 H2 N (g1.trans g2) r2 ⟨p1.mono g2.g, p2⟩
theorem denm_new (k : Nat) {es : List Expr} {F : Mo D} {F' : Mo (List (Option Nat × D))} (ha : DenN X a (k + 1) F) (hr : DenM X es F') (hs : starEach (a :: es) X.env = (false, eval a X.env) :: starEach es X.env := by rfl) : DenM X (a :: es) (mCons (mMap (fun d => some (some k, d)) F) F') := by
  obtain ⟨t, h1, h2⟩ := ha
  obtain ⟨u, k1, k2⟩ := hr
  refine ⟨_, pa_cons h1 k1 hs, fun P b σ env G H d env' rr h Q q => ?_⟩
  obtain ⟨x, e1, hx, hA⟩ := mBind_some h
  obtain ⟨y, e2, hy, hB⟩ := mBind_some hA
  obtain ⟨rfl, rfl⟩ := mRet_some hB
  obtain ⟨x', hx', hz⟩ := mMap_some hx
  cases hz
  refine h2 P b σ env G H x' e1 rr hx' _ fun v G1 H1 N1 g1 r1 t1 => k2 _ b σ e1 G1 H1 y _ r1 hy _ fun w G2 H2 N2 g2 r2 p2 => ?_
  refine q _ G2 H2 (fun a => N1 a ∨ N2 a) (g1.trans (g2.wk fun a z => z.1)) (r2.wkP fun a z => ⟨z.1.1, fun n => n.elim z.1.2 z.2⟩) ⟨N1, N2, fun a => Iff.rfl, fun a n1 n2 => ?_, t1.keep g2, p2.wk fun a z => z.1⟩
  exact (p2.there a n2).1.2 n1
end
/-- names set one after another -/
def setσ : List Nat → List V → L2.St → L2.St
  | i :: is, v :: vs, σ => setσ is vs (σ.set i (some v))
  | _, _, σ => σ
def setE : List Nat → List (Option Nat × D) → DEnv → DEnv
  | i :: is, (none, d) :: ds, e => setE is ds (e.set i (some (.fz d)))
  | i :: is, (some k, d) :: ds, e => setE is ds (e.set i (some (.ow false k d)))
  | _, _, e => e
theorem Rep.items {P : Addr → Prop} {bs : Bs} {G H : Hp} : ∀ {is : List Nat} {vs : List V} {its : List (Option Nat × D)} {N : Addr → Prop} {σ : L2.St} {env : DEnv}, Rep (fun a => P a ∧ ¬ N a) bs G H σ env → Items P G H N vs its → is.length = its.length → Rep P bs G H (setσ is vs σ) (setE is its env)
  | [], [], [], N, σ, env, r, h, _ => r.wkP fun a z => z.1
  | i :: is, v :: vs, (none, d) :: its, N, σ, env, r, h, hl => Rep.items (is := is) (vs := vs) (its := its) (r.set h.1) h.2 (by simpa using hl)
  | i :: is, v :: vs, (some k, d) :: its, N, σ, env, r, ⟨N1, N2, e, dis, t, h⟩, hl => by
    have r1 : Rep (fun a => (P a ∧ ¬ N2 a) ∧ ¬ N1 a) bs G H σ env := r.wkP fun a z => ⟨⟨z.1, fun n => z.2 ((e a).mpr (.inr n))⟩, fun n => z.2 ((e a).mpr (.inl n))⟩
    have t1 : Tree (fun a => P a ∧ ¬ N2 a) G H N1 (k + 1) v d := ⟨fun a n => ⟨⟨(t.n a n).1, dis a n⟩, (t.n a n).2⟩, t.r⟩
    exact Rep.items (is := is) (vs := vs) (its := its) (r1.ownNew t1 i) h (by simpa using hl)
  | [], v :: vs, d :: its, N, σ, env, r, h, hl => by cases hl
  | i :: is, [], [], N, σ, env, r, h, hl => by cases hl
/-- x, y, .. = a, b, .. -/
def sPars (is : List Nat) (m : Mo (List (Option Nat × D))) : So := fun env =>
  match m env with
  | some (its, e1) => if is.length = its.length then some (.nx (setE is its e1)) else none
  | none => none
/-- targets that are names alone -/
def tNames : List Nat → TGs
  | [] => gNil
  | i :: is => gCons (L2.gName i) (tNames is)
theorem tNames_run : ∀ {is : List Nat} {vs : List V} {σ : L2.St} {H : Hp} {Q : L2.St → Hp → Prop}, is.length = vs.length → Q (setσ is vs σ) H → tNames is vs σ H Q
  | [], [], _, _, _, _, q => ⟨rfl, q⟩
  | i :: is, v :: vs, _, _, _, hl, q => ⟨v, vs, rfl, tNames_run (by simpa using hl) q⟩
section
variable {X : Cx} {a b c e : Expr} {pos : Pos} {x y z : Str}
theorem dens_pars2 (i j : Nat) {F : Mo (List (Option Nat × D))} {px py pt pt2 : Pos} {kt k2 : Nat} (hc : X.calm = true) (hN : X.N.Nodup) (hi : X.N[i]? = some x) (hj : X.N[j]? = some y) (hij : i ≠ j)
    (hx : X.env.scope.names.lookup x = some .local) (hy : X.env.scope.names.lookup y = some .local) (ha : DenM X [a, b] F)
    (hw : swappedStores [.Tuple [.Name x px, .Name y py] kt pt] (.Tuple [a, b] k2 pt2) X.env = pure (some [x, y]) := by rfl)
    (hs : swapsWithSole [.Tuple [.Name x px, .Name y py] kt pt] (.Tuple [a, b] k2 pt2) pos.line X.env = pure false := by rfl) :
    DenS X (.Assign [.Tuple [.Name x px, .Name y py] kt pt] (.Tuple [a, b] k2 pt2) pos) (sPars [i, j] F) := by
  obtain ⟨t, h1, h2⟩ := ha
  refine ⟨_, ps_par hc hN hi hj hij hx hy h1 hw hs, fun P b σ env G H r rr h Dd q => ?_⟩
  unfold sPars at h
  split at h
  · rename_i its e1 hd
    split at h
    · rename_i hl
      cases h
      refine h2 P b σ env G H _ e1 rr hd _ fun vs G' H' N g r' p => ?_
      have hvl : vs.length = 2 := p.length.trans hl.symm
      match vs, hvl with
      | [v, w], _ => exact ⟨v, w, rfl, q _ G' H' g (r'.items (is := [i, j]) p hl)⟩
    · cases h
  · cases h
theorem dens_pars3 (i j l : Nat) {F : Mo (List (Option Nat × D))} {px py pz pt pt2 : Pos} {kt k2 : Nat} (hc : X.calm = true) (hN : X.N.Nodup) (hi : X.N[i]? = some x) (hj : X.N[j]? = some y) (hl : X.N[l]? = some z) (hij : i ≠ j) (hil : i ≠ l) (hjl : j ≠ l)
    (hx : X.env.scope.names.lookup x = some .local) (hy : X.env.scope.names.lookup y = some .local) (hz : X.env.scope.names.lookup z = some .local) (ha : DenM X [a, b, c] F)
    (hw : swappedStores [.Tuple [.Name x px, .Name y py, .Name z pz] kt pt] (.Tuple [a, b, c] k2 pt2) X.env = pure (some [x, y, z]) := by rfl)
    (hs : swapsWithSole [.Tuple [.Name x px, .Name y py, .Name z pz] kt pt] (.Tuple [a, b, c] k2 pt2) pos.line X.env = pure false := by rfl) :
    DenS X (.Assign [.Tuple [.Name x px, .Name y py, .Name z pz] kt pt] (.Tuple [a, b, c] k2 pt2) pos) (sPars [i, j, l] F) := by
  obtain ⟨t, h1, h2⟩ := ha
  refine ⟨_, ps_par3 hc hN hi hj hl hij hil hjl hx hy hz h1 hw hs, fun P b σ env G H r rr h Dd q => ?_⟩
  unfold sPars at h
  split at h
  · rename_i its e1 hd
    split at h
    · rename_i hl
      cases h
      refine h2 P b σ env G H _ e1 rr hd _ fun vs G' H' N g r' p => ?_
      have hvl : vs.length = 3 := p.length.trans hl.symm
      match vs, hvl with
      | [u, v, w], _ => exact ⟨u, v, w, rfl, q _ G' H' g (r'.items (is := [i, j, l]) p hl)⟩
    · cases h
  · cases h
/-- .. by way of a tuple -/
theorem dens_parsN (is : List Nat) {F : Mo (List (Option Nat × D))} {ts es : List Expr} {kt k2 : Nat} {pt pt2 : Pos} (hc : X.calm = true) (hg : PGs X ts (tNames is)) (ha : DenM X es F) (hk : is.length ≤ 100000 := by decide)
    (hn : (assignEach ts X.env).length = is.length := by rfl) (hst : (assignEach ts X.env).findIdx? (·.1) = none := by rfl)
    (hs : swapsWithSole [.Tuple ts kt pt] (.Tuple es k2 pt2) pos.line X.env = pure false := by rfl) (hw : swappedStores [.Tuple ts kt pt] (.Tuple es k2 pt2) X.env = pure none := by rfl)
    (h1 : (assignEach [.Tuple ts kt pt] X.env).map (·.2) = [assign (.Tuple ts kt pt) X.env] := by rfl) : DenS X (.Assign [.Tuple ts kt pt] (.Tuple es k2 pt2) pos) (sPars is F) := by
  obtain ⟨t, h1', h2⟩ := ha
  refine ⟨_, ps_asg (pe_tup h1') (pg_tup hc hg hn hst) hs hw h1, fun P b σ env G H r rr h Dd q => ?_⟩
  unfold sPars at h
  split at h
  · rename_i its e1 hd
    split at h
    · rename_i hl
      cases h
      refine h2 P b σ env G H _ e1 rr hd _ fun vs G' H' N g r' p => ?_
      have hvl : vs.length = is.length := p.length.trans hl.symm
      refine ⟨by rw [hvl]; exact line_of hk, fun u hu => ⟨u, vs, rfl, .of upd_same, hvl, tNames_run hvl.symm ?_⟩⟩
      have pu := Pu.newH (o := .tup vs) r'.sub hu
      have g2 := pu.gr r'.fresh
      exact q _ G' _ (g.trans (g2.wk fun a z => z.1)) ((r'.pu pu).items (p.keep (fun a n => n) g2) hl)
    · cases h
  · cases h
theorem pgs_names_nil : PGs X [] (tNames []) := pgs_nil
theorem pgs_names_cons (i : Nat) {is : List Nat} {p1 : Pos} {es : List Expr} (hN : X.N.Nodup) (hi : X.N[i]? = some x) (hx : Loc X.env.scope x) (h : PGs X es (tNames is))
    (hs : (assignEach (.Name x p1 :: es) X.env).map (·.2) = assign (.Name x p1) X.env :: (assignEach es X.env).map (·.2) := by rfl)
    (hf : X.fn x = true ∨ X.env.scope.names.lookup x = some .local := by first | exact .inl rfl | exact .inr rfl | assumption) : PGs X (.Name x p1 :: es) (tNames (i :: is)) := pgs_cons (pg_name hN hi hx hf) h hs
end
end Dn

/-! V15: a list of new lists; a copy of one's own list of lists. -/
namespace Dn
open PySem PySem.Spec PyProof.Rows L2
open Evl (Ex fresh_back)
section
variable {X : Cx} {tg e iter elt : Expr} {pos : Pos} {ifs : List Expr} {scope : Scope}
theorem lcN_run {ts vs : List Nat} {Fi : Mo (List D)} {B : D → DEnv → Option DEnv} {Ft : Mo Bool} {Fe : Mo D} {wi : TI} {g : TG} {tt : TT} {te : TE}
    (i2 : ∀ (P : Addr → Prop) (b : Bs) (σ : L2.St) (env : DEnv) (G H : Hp) (ds : List D) (env' : DEnv), Rep P b G H σ env → Fi env = some (ds, env') →
      ∀ R : It → Hp → Prop, (∀ J G' H', Gr P G H G' H' → Rep P b G' H' σ env' → Yields J G' ds → R J H') → wi σ H R)
    (g2 : ∀ (P : Addr → Prop) (b : Bs) (σ : L2.St) (env : DEnv) (G H : Hp) (v : V) (d : D) (env' : DEnv), Rep P b G H σ env → Rp G v d → B d env = some env' →
      ∀ Q : L2.St → Hp → Prop, (∀ σ' : L2.St, Rep P b G H σ' env' → σ'.length = σ.length → (∀ j : Nat, j ∉ ts → σ'[j]? = σ[j]?) → Q σ' H) → g v σ H Q)
    (t2 : ∀ (P : Addr → Prop) (b : Bs) (σ : L2.St) (env : DEnv) (G H : Hp) (d : Bool) (env' : DEnv), Rep P b G H σ env → Ft env = some (d, env') →
      ∀ Q : Bool → Hp → Prop, (∀ G' H', Gr P G H G' H' → Rep P b G' H' σ env' → Q d H') → tt σ H Q)
    (e2 : ∀ (P : Addr → Prop) (b : Bs) (σ : L2.St) (env : DEnv) (G H : Hp) (d : D) (env' : DEnv), Rep P b G H σ env → Fe env = some (d, env') →
      ∀ Q : VK, (∀ v G' H' N, Gr P G H G' H' → Rep (fun a => P a ∧ ¬ N a) b G' H' σ env' → Tree P G' H' N 1 v d → Q v H') → te σ H Q)
    (hts : ∀ j ∈ ts, j ∈ vs) {P : Addr → Prop} {b : Bs} {σ : L2.St} {env : DEnv} {G H : Hp} {out : List D} {env' : DEnv} (rr : Rep P b G H σ env) (h : mLc Fi B Ft Fe vs env = some (out, env')) (Q : VK)
    (q : ∀ p G' H' N, Gr P G H G' H' → Rep (fun a => P a ∧ ¬ N a) b G' H' σ env' → Tree P G' H' N 2 (.ref p) (.list out) → Q (.ref p) H') : tLc wi g tt te vs σ H Q := by
  unfold mLc at h
  cases w : Fi env with
  | none => rw [w] at h; cases h
  | some pr =>
    obtain ⟨ds, e1⟩ := pr
    simp only [w] at h
    split at h
    · rename_i hc
      rw [Bool.and_eq_true, decide_eq_true_eq] at hc
      obtain ⟨hlen, hok⟩ := hc
      cases w2 : lcGo B Ft Fe vs ds (wipeD e1 vs) with
      | none => simp only [w2] at h; cases h
      | some pr2 =>
        obtain ⟨ys, ef⟩ := pr2
        simp only [w2] at h
        cases h
        refine i2 P b σ env G H ds e1 rr w _ fun J G1 H1 gr1 r1 hy Dl hD => ?_
        have hPD : P Dl := r1.fresh Dl hD
        have hGD : G1 Dl = none := fresh_back r1.sub hD
        have start0 : Rep (fun a => P a ∧ ¬ a = Dl) b G1 (upd H1 Dl (.lst [])) (wipe σ vs) (wipeD e1 vs) := (r1.wipe vs).newH hD
        have gr0 : Gr P G1 H1 G1 (upd H1 Dl (.lst [])) := ⟨Ex.refl _, fun a o ha n => by
          rw [upd_ne (ne_of_none ha hD)]
          exact ha, fun _ _ n => n⟩
        refine ⟨fun i m H' => m = ds.length - i ∧ i ≤ ds.length ∧ ∃ e G' N accd zs, Gr P G1 H1 G' H' ∧ Rep (fun a => P a ∧ ¬ N a) b G' H' (wipe σ vs) e ∧ Tree P G' H' N 2 (.ref Dl) (.list accd) ∧ accd.length ≤ i ∧
          lcGo B Ft Fe vs (ds.drop i) e = some (zs, ef) ∧ accd ++ zs = out, ⟨_, rfl, Nat.zero_le _, _, G1, fun a => a = Dl, [], out, gr0, start0, Tree.nil2 hPD hGD upd_same, Nat.zero_le _, by rw [List.drop_zero]; exact w2, rfl⟩, ?_⟩
        rintro i m H' ⟨rfl, hi, e, G', N, accd, zs, gr, r', tr, hal, hf, hout⟩
        by_cases hlt : i < ds.length
        · have hdi : ds[i]? = some ds[i] := List.getElem?_eq_getElem hlt
          obtain ⟨go, yl⟩ := (hy i G' H' gr.g r'.sub).2 _ hdi
          refine .inr ⟨go, fun H2 => i + 1 ≤ ds.length ∧ ∃ e G' N accd zs, Gr P G1 H1 G' H2 ∧ Rep (fun a => P a ∧ ¬ N a) b G' H2 (wipe σ vs) e ∧ Tree P G' H2 N 2 (.ref Dl) (.list accd) ∧ accd.length ≤ i + 1 ∧
            lcGo B Ft Fe vs (ds.drop (i + 1)) e = some (zs, ef) ∧ accd ++ zs = out, fun H2 h2 => ⟨ds.length - (i + 1), by omega, rfl, h2⟩, fun x H2 y => ?_⟩
          obtain ⟨G2, pu, rx⟩ := yl x H2 y
          rw [List.drop_eq_getElem_cons hlt] at hf
          unfold lcGo at hf
          have r2 := r'.pu pu
          have wk : ∀ {Ga Ha Gb Hb : Hp}, Gr (fun a => P a ∧ ¬ N a) Ga Ha Gb Hb → Gr P Ga Ha Gb Hb := fun g => g.wk fun x h => h.1
          have gA := pu.gr r'.fresh
          have grA : Gr P G1 H1 G2 H2 := gr.trans (wk gA)
          have trA := tr.keep gA
          cases w3 : B ds[i] e with
          | none => simp only [w3] at hf; cases hf
          | some eb =>
            simp only [w3] at hf
            refine g2 _ b (wipe σ vs) e G2 H2 x _ eb r2 rx w3 _ fun σ2 r3 l3 o3 => ⟨wipe_eq l3 o3 hts, ?_⟩
            have ew : wipe σ2 vs = wipe σ vs := wipe_eq l3 o3 hts
            cases w4 : Ft eb with
            | none => simp only [w4] at hf; cases hf
            | some pr4 =>
              obtain ⟨k, et⟩ := pr4
              simp only [w4] at hf
              refine t2 _ b σ2 eb G2 H2 k et r3 w4 _ fun G3 H3 g3 r4 => ?_
              have trB := trA.keep g3
              cases k with
              | false =>
                simp only [if_neg (show ¬ (false = true) by decide)] at hf ⊢
                refine ⟨hlt, wipeD et vs, G3, N, accd, zs, grA.trans (wk g3), ?_, trB, Nat.le_succ_of_le hal, hf, hout⟩
                rw [← ew]
                exact r4.wipe vs
              | true =>
                simp only [if_pos (show true = true from rfl)] at hf ⊢
                cases w5 : Fe et with
                | none => simp only [w5] at hf; cases hf
                | some pr5 =>
                  obtain ⟨yd, ee⟩ := pr5
                  simp only [w5] at hf
                  cases w6 : lcGo B Ft Fe vs (ds.drop (i + 1)) (wipeD ee vs) with
                  | none => simp only [w6] at hf; cases hf
                  | some pr6 =>
                    obtain ⟨ys6, e6⟩ := pr6
                    simp only [w6] at hf
                    cases hf
                    refine e2 _ b σ2 et G3 H3 yd ee r4 w5 _ fun v G4 H4 N4 g4 r5 t4 => ?_
                    have trC := trB.keep g4
                    obtain ⟨a, acc, ea, hNa, hPa, hGa, hacc, hln, _⟩ := trC.list2 rfl
                    cases ea
                    have t4' : Tree P G4 H4 N4 1 v yd := t4.wk fun a z => z.1
                    have dis : ∀ c, N c → ¬ N4 c := fun c hc hc4 => (t4.n c hc4).1.2 hc
                    have tr5 := Tree.app2 trC t4' dis hacc
                    refine ⟨acc, hacc, line_lt (by omega), hlt, wipeD ee vs, G4, fun c => N c ∨ N4 c, accd ++ [yd], ys6, ?_, ?_, tr5, by rw [List.length_append]; simpa using hal, w6, by rw [List.append_assoc]; exact hout⟩
                    · have gg := (grA.trans (wk g3)).trans (wk g4)
                      exact ⟨gg.g, fun a o ha n => by
                        rw [upd_ne (show a ≠ Dl from fun z => n (by rw [z]; exact hPD))]
                        exact gg.h a o ha n, gg.n⟩
                    · rw [← ew]
                      have := (r5.wipe vs).updH (o := .lst (acc ++ [v])) (p := Dl) (fun z => z.1.2 hNa) hGa
                      exact this.wkP fun c z => ⟨z.1.1, fun n => n.elim z.1.2 z.2⟩
        · have e0 : i = ds.length := by omega
          subst e0
          rw [List.drop_length] at hf
          cases hf
          rw [List.append_nil] at hout
          subst hout
          exact .inl ⟨(hy _ G' H' gr.g r'.sub).1 (Nat.le_refl _), q Dl G' H' N (gr1.trans gr) (r1.back r' gr.g hok) tr⟩
    · cases h
def cN (F : Mo D) : TE := fun σ H Q => ∃ (P : Addr → Prop) (b : Bs) (env : DEnv) (G : Hp) (d : D) (env' : DEnv), Rep P b G H σ env ∧ F env = some (d, env') ∧ ∀ v G' H' N, Gr P G H G' H' → Rep (fun a => P a ∧ ¬ N a) b G' H' σ env' → Tree P G' H' N 1 v d → Q v H'
theorem DenN.pe {X : Cx} {e : Expr} {F : Mo D} (h : DenN X e 1 F) : PE X e (cN F) := by
  obtain ⟨t, h1, h2⟩ := h
  exact ⟨fun pins s σ H Q I ⟨P, b, env, G, d, env', r, hF, q⟩ => h1.run pins s σ H Q I (h2 P b σ env G H d env' r hF Q q)⟩
/-- a list of new lists -/
theorem denn_lc2 (own : List (Str × Nat)) {ts vs : List Nat} {Fi : Mo (List D)} {B : D → DEnv → Option DEnv} {Ft : Mo Bool} {Fe : Mo D} (hc : X.calm = true) (hN : X.N.Nodup) (hi : DenI X tg iter Fi) (ok : BlkOk X.N X.env.scope scope own)
    (hg : ∀ (s : Shared) (H : Hp) (C : Addr) (cl : List (Str × Addr)) (fp : List Addr), DenG (X.blk s H scope (compEnvC scope cl C X.env) fp) tg ts B)
    (ht : ∀ (s : Shared) (H : Hp) (C : Addr) (cl : List (Str × Addr)) (fp : List Addr), DenTs (X.blk s H scope (compEnvC scope cl C X.env) fp) ifs Ft)
    (he : ∀ (s : Shared) (H : Hp) (C : Addr) (cl : List (Str × Addr)) (fp : List Addr), DenN (X.blk s H scope (compEnvC scope cl C X.env) fp) elt 1 Fe)
    (hvs : own.map (·.2) = vs := by rfl) (hts : ∀ j ∈ ts, j ∈ vs := by decide) (hs : ∀ x, foldedSetIterable iter X.env x = pure x := by intro _; rfl) :
    DenN X (.ListComp elt [⟨tg, iter, ifs, 0⟩] scope pos) 2 (mMap (fun ds => some (.list ds)) (mLc Fi B Ft Fe vs)) := by
  obtain ⟨wi, i1, i2⟩ := hi
  subst hvs
  exact ⟨_, pe_lc hc hN i1 ok (fun s H C cl fp => (hg s H C cl fp).pe) (fun s H C cl fp => (ht s H C cl fp).pe) (fun s H C cl fp => (he s H C cl fp).pe) hs, fun P b σ env G H out env' rr h Q q => by
    obtain ⟨ds, hd, hz⟩ := mMap_some h
    cases hz
    exact lcN_run i2 (fun P b σ env G H v d env' r rv hB Q q => cG_run r rv hB Q q) (fun P b σ env G H d env' r hF Q q => cTs_run r hF Q q) (fun P b σ env G H d env' r hF Q q => ⟨P, b, env, G, d, env', r, hF, q⟩) hts rr hd Q fun p G' H' N g r t => q _ G' H' N g r t⟩

/-! ### [list(some) for some in x], x a list of lists of one's own -/
def listsOf : List D → Option (List D)
  | [] => some []
  | .list xs :: ds => (listsOf ds).map (.list xs :: ·)
  | _ :: _ => none
def mCopy2 (i j : Nat) : Mo D := fun env =>
  match own2At env i with
  | some (_, ds) => if ds.length ≤ 100000 ∧ j < env.length then (listsOf ds).map fun d => (.list d, env) else none
  | none => none
theorem listsOf_eq : ∀ {ds es : List D}, listsOf ds = some es → es = ds ∧ ∀ (j : Nat) (d : D), ds[j]? = some d → ∃ xs, d = .list xs
  | [], es, h => by cases h; exact ⟨rfl, fun j d hj => by simp at hj⟩
  | d :: ds, es, h => by
    cases d with
    | list xs =>
      simp only [listsOf] at h
      cases w : listsOf ds with
      | none => rw [w] at h; cases h
      | some fs =>
        rw [w] at h
        cases h
        obtain ⟨rfl, h2⟩ := listsOf_eq w
        refine ⟨rfl, fun j d hj => ?_⟩
        cases j with
        | zero => simp at hj; exact ⟨xs, hj.symm⟩
        | succ j => exact h2 j d (by simpa using hj)
    | _ => simp only [listsOf] at h; cases h
theorem den_copy2 (i j : Nat) {x y : Str} {p1 p2 p3 p4 p5 : Pos} (hc : X.calm = true) (hN : X.N.Nodup) (hi : X.N[i]? = some x) (hv : Vis X.env.scope x) (ok : BlkOk X.N X.env.scope scope [(y, j)])
    (hm : X.mg "list" = none)
    (hg : ∀ (s : Shared) (H : Hp) (C : Addr) (cl : List (Str × Addr)) (fp : List Addr), PG (X.blk s H scope (compEnvC scope cl C X.env) fp) (.Name y p1) (gName j))
    (he : ∀ (s : Shared) (H : Hp) (C : Addr) (cl : List (Str × Addr)) (fp : List Addr), PE (X.blk s H scope (compEnvC scope cl C X.env) fp) (.Call (.Name "list" p2) [.Name y p3] [] p4) (tCB (fun xs H Q => ∃ p ys, xs = [.ref p] ∧ (SqL X.K H p ys ∨ SqT X.K H p ys) ∧ ∀ l, H l = none → Q (.ref l) (upd H l (.lst ys))) (tCons (tVar j) tNil)))
    (hd : (x == ("__debug__" : Str)) = false := by decide) (hcd : (x == ("__classdict__" : Str)) = false := by decide) :
    DenE X (.ListComp (.Call (.Name "list" p2) [.Name y p3] [] p4) [⟨.Name y p1, .Name x p5, [], 0⟩] scope pos) (mCopy2 i j) := by
  refine ⟨_, pe_lc (own := [(y, j)]) (g := gName j) (tt := tYes) hc hN (pi_list (pe_var hi hv hd hcd)) ok hg (fun _ _ _ _ _ => pts_nil) he (by intro _; rfl), fun P b σ env G H d env' rr h Q q => ?_⟩
  unfold mCopy2 at h
  cases w0 : own2At env i with
  | none => simp only [w0] at h; cases h
  | some pr =>
    obtain ⟨io, ds⟩ := pr
    simp only [w0] at h
    split at h
    · rename_i hlen
      cases w1 : listsOf ds with
      | none => rw [w1] at h; cases h
      | some es =>
        rw [w1] at h
        cases h
        obtain ⟨rfl, hall⟩ := listsOf_eq w1
        obtain ⟨N, v0, hv0, tr, rt, hio⟩ := rr.take (own2At_some w0)
        obtain ⟨a, vs, rfl, hNa, hPa, hGa, ha, hln, inner⟩ := tr.list2 rfl
        have hln : vs.length = es.length := hln
        refine ⟨_, hv0, a, rfl, ⟨vs, .of ha⟩, fun Dl hD => ?_⟩
        have hPD : P Dl := rr.fresh Dl hD
        have hGD : G Dl = none := fresh_back rr.sub hD
        have hND : ¬ N Dl := fun z => (tr.n Dl z).2.2 hD
        -- what is kept: all of the own lists, what is known
        refine ⟨fun k m H' => m = es.length - k ∧ k ≤ es.length ∧ ∃ G' acc, Ex G G' ∧ Ex G' H' ∧ Ex H H' ∧ (∀ c, H c ≠ none → G c = none → G' c = none) ∧ G' Dl = none ∧ H' Dl = some (.lst acc) ∧ RpAll G' acc (es.take k),
          ⟨_, rfl, Nat.zero_le _, G, [], Ex.refl G, rr.sub.trans (Ex.new hD), Ex.new hD, fun _ _ n => n, hGD, upd_same, .nil⟩, ?_⟩
        rintro k m H' ⟨rfl, hk, G', acc, x1, x2, x3, x4, x5, x6, x7⟩
        have ha' : H' a = some (.lst vs) := x3 _ _ ha
        by_cases hlt : k < es.length
        · have hkv : k < vs.length := by omega
          obtain ⟨xs, hxs⟩ := hall k es[k] (List.getElem?_eq_getElem hlt)
          have hek : es[k]? = some (.list xs) := by rw [List.getElem?_eq_getElem hlt, hxs]
          obtain ⟨c, ws, hw, hNc, hPc, hca, hGc, hcl, rc⟩ := inner k vs[k] xs (List.getElem?_eq_getElem hkv) hek
          have hvk : vs[k]? = some (.ref c) := by rw [List.getElem?_eq_getElem hkv, hw]
          refine .inr ⟨⟨vs, _, .of ha', hvk⟩, fun H2 => k + 1 ≤ es.length ∧ ∃ G' acc, Ex G G' ∧ Ex G' H2 ∧ Ex H H2 ∧ (∀ c, H c ≠ none → G c = none → G' c = none) ∧ G' Dl = none ∧ H2 Dl = some (.lst acc) ∧ RpAll G' acc (es.take (k + 1)),
            fun H2 h2 => ⟨es.length - (k + 1), by omega, rfl, h2⟩, fun u H2 y => ?_⟩
          obtain ⟨rfl, y⟩ := y
          have := y vs (.of ha')
          rw [hvk] at this
          cases this
          have hjl : j < (wipe σ [j]).length := by
            rw [wipe_length, rr.len]
            exact hlen.2
          refine ⟨wipe_eq (ts := [j]) (by rw [List.length_set]) (fun m hm => List.getElem?_set_ne (fun e => hm (by simp [e]))) (fun _ h => h), ?_⟩
          refine ⟨.ref c, List.getElem?_set_self hjl, c, ws, rfl, .inl (.of (x3 _ _ hcl)), fun l hl => ?_⟩
          have hlD : l ≠ Dl := fun e => by subst e; rw [x6] at hl; cases hl
          have hGl : G' l = none := fresh_back x2 hl
          have exG : Ex G' (upd G' l (.lst ws)) := Ex.new hGl
          have ral : acc.length ≤ k := by rw [x7.length]; simp; omega
          have htk : es.take (k + 1) = es.take k ++ [.list xs] := by rw [List.take_succ, hek]; rfl
          refine ⟨acc, by rw [upd_ne (Ne.symm hlD)]; exact x6, line_lt (by omega), hlt, upd G' l (.lst ws), acc ++ [.ref l], x1.trans exG, ?_, ?_, fun z hz hn => ?_, by rw [upd_ne (Ne.symm hlD)]; exact x5, upd_same, ?_⟩
          · intro z o hz
            by_cases hzD : z = Dl
            · subst hzD
              rw [upd_ne (Ne.symm hlD), x5] at hz
              cases hz
            · rw [upd_ne hzD]
              by_cases hzl : z = l
              · subst hzl; rw [upd_same] at hz ⊢; exact hz
              · rw [upd_ne hzl] at hz ⊢; exact x2 z o hz
          · intro z o hz
            rw [upd_ne (ne_of_none hz hD), upd_ne (ne_of_none (x3 z o hz) hl)]
            exact x3 z o hz
          · rw [upd_ne (fun e => by subst e; exact absurd (fresh_back x3 hl) hz)]
            exact x4 z hz hn
          · rw [htk]
            exact (x7.mono exG).append (.cons (.lst upd_same ((rc.mono x1).mono exG)) .nil)
        · have e0 : k = es.length := by omega
          subst e0
          rw [List.take_length] at x7
          have exD : Ex G' (upd G' Dl (.lst acc)) := Ex.new x5
          refine .inl ⟨⟨vs, .of ha', by omega⟩, q (.ref Dl) (upd G' Dl (.lst acc)) H' ?_ ?_ (.lst upd_same (x7.mono exD))⟩
          · refine ⟨x1.trans exD, fun c o hc _ => x3 c o hc, fun c hc hn => ?_⟩
            rw [upd_ne (fun e => hc (by rw [e]; exact hPD))]
            exact x4 c (fun z => hc (rr.fresh c z)) hn
          · refine rr.pu ⟨x1.trans exD, x3, fun c o hc => ?_, fun c hc hn => ?_⟩
            · by_cases hcD : c = Dl
              · subst hcD; rw [upd_same] at hc; cases hc; exact x6
              · rw [upd_ne hcD] at hc; exact x2 c o hc
            · rw [upd_ne (fun e => by subst e; exact hc hD)]
              exact x4 c hc hn
    · cases h
end
end Dn

/-! V16: what the generated derivations lean on. -/
namespace Dn
open PySem PySem.Spec PyProof.Rows L2
open Evl (Ex fresh_back)

/-- the built-ins' names are the built-ins' -/
structure Blt (mg : Str → Option Value) : Prop where
  len_ : mg "len" = none
  sum_ : mg "sum" = none
  all_ : mg "all" = none
  any_ : mg "any" = none
  tuple_ : mg "tuple" = none
  list_ : mg "list" = none
  sorted_ : mg "sorted" = none
  max_ : mg "max" = none
  min_ : mg "min" = none
  range_ : mg "range" = none
  zip_ : mg "zip" = none
  enumerate_ : mg "enumerate" = none
  reversed_ : mg "reversed" = none
  set_ : mg "set" = none
  isinstance_ : mg "isinstance" = none
  int_ : mg "int" = none
  bool_ : mg "bool" = none
  str_ : mg "str" = none
/-- a def as it stands behind the top -/
structure Df (K : PySem.W.Frag) (mg : Str → Option Value) (x : Str) (st : Stmt) (ps : List Str) : Prop where
  ex : ∃ (f : Addr) (fd : FuncData), mg x = some (.ref f) ∧ Fun K x x st f fd ∧ Binds K fd ps []
section
variable {P : Program} {w : World} {K : PySem.W.Frag} {mg : Str → Option Value} {base : Heap}
theorem Fd.of {x : Str} {st : Stmt} {N ps : List Str} {k n : Nat} {B : So} (d : Df K mg x st ps) (S : FnScope N ps (defScope st)) (hn : ps.length = n)
    (body : ∀ (f : Addr) (cdv : Value) (A : Around) (outer : List Env) (s : Shared) (H : Hp) (E : XK), Room k (A.deeper (envOfC x (defScope st) s.heap.objs.size f cdv)) → DenSs (cxOf CX0 P w K mg base N x (defScope st) f cdv A outer s H E).nox (defBody st) B) :
    Fd P w K mg base x (k + 1) n (fun ds => outF (B (envOf N ds))) := by
  obtain ⟨f, fd, h1, h2, h3⟩ := d.ex
  subst hn
  exact Fd.mk' h2 S h1 h3 (body f)
theorem FdIO.of {x : Str} {st : Stmt} {N ps : List Str} {k : Nat} {ms : Ms} {B : So} (d : Df K mg x st ps) (S : FnScope N ps (defScope st)) (hn : ps.length = ms.length)
    (body : ∀ (f : Addr) (cdv : Value) (A : Around) (outer : List Env) (s : Shared) (H : Hp) (E : XK), Room k (A.deeper (envOfC x (defScope st) s.heap.objs.size f cdv)) → DenSs (cxOf CX0 P w K mg base N x (defScope st) f cdv A outer s H E).nox (defBody st) B) :
    FdIO P w K mg base x (k + 1) ms (fun ds => outIO ms (B (envIO N ms ds))) := by
  obtain ⟨f, fd, h1, h2, h3⟩ := d.ex
  exact FdIO.mk' h2 S h1 h3 hn (body f)
end
section
variable {X : Cx} {x : Str} {pos : Pos}
theorem dv (i : Nat) (hN : X.N[i]? = some x := by rfl) (hv : Vis X.env.scope x := by first | exact Or.inl rfl | exact Or.inr (Or.inl rfl) | exact Or.inr (Or.inr rfl)) (hd : (x == ("__debug__" : Str)) = false := by decide) (hcd : (x == ("__classdict__" : Str)) = false := by decide) :
    DenE X (.Name x pos) (mVar i) := den_var i hN hv hd hcd
theorem den_glob {u : Value} {i : Int} (hm : ∃ t, X.mg x = some (.int i t)) (hg : Gl X x) (hd : (x == ("__debug__" : Str)) = false := by decide) : DenE X (.Name x pos) (mRet (.int i)) := by
  obtain ⟨t, hm⟩ := hm
  exact den_const (v := .int i) (pe_glob hg hm ⟨t, rfl⟩ hd) fun _ => .int i
end
end Dn

/-! V17: zip, enumerate over lists and tuples in any mix; reversed ranges. -/
namespace Dn
open PySem PySem.Spec PyProof.Rows L2
open Evl (Ex fresh_back)

/-- a list or a tuple: what is tracked, its iterator -/
def hoS (kd : Bool) (xs : List V) : HO := if kd then .lst xs else .tup xs
def itO (kd : Bool) (a : Addr) : Obj := { cls := .type (if kd then "list_iterator" else "tuple_iterator"), data := .fields #[.ref a, .int 0 0] }
def ItAt (kd : Bool) (h : Heap) (it a : Addr) (i : Nat) : Prop := if kd then h.IsListIter it a i else h.IsTupleIter it a i
def SqAt (kd : Bool) (h : Heap) (a : Addr) (items : Array Value) : Prop := if kd then h.IsList a items else h.IsTuple a items
theorem ItAt.at {kd : Bool} {h h' : Heap} {it a : Addr} {i : Nat} (x : ItAt kd h it a i) (k : ∀ o, h.get? it = some o → h'.get? it = some o) : ItAt kd h' it a i := by
  cases kd with
  | true => exact Heap.IsListIter.at x k
  | false => exact Heap.IsTupleIter.at x k
theorem ItAt.live {kd : Bool} {h : Heap} {it a : Addr} {i : Nat} (x : ItAt kd h it a i) : ∃ o, h.get? it = some o ∧ ∀ v, o.data ≠ .cell v := by
  cases kd with
  | true => obtain ⟨o, e, _, d⟩ := x; exact ⟨o, e, fun v q => by rw [d] at q; cases q⟩
  | false => obtain ⟨o, e, _, d⟩ := x; exact ⟨o, e, fun v q => by rw [d] at q; cases q⟩
theorem draws_of {prog : Program} {w : World} {A : Around} (kd : Bool) (hh : A.handled = none) (it a : Addr) (hne : a ≠ it) (items : Array Value) :
    Draws prog w A it [it, a] items.size (fun i v => items[i]? = some v) fun i h => ItAt kd h it a i ∧ SqAt kd h a items := by
  cases kd with
  | true => exact Draws.list hh it a hne items
  | false => exact Draws.tuple hh it a hne items
theorem begins_of (kd : Bool) (a : Addr) (items : Array Value) : Begins (.ref a) (itO kd a) fun h => SqAt kd h a items := by
  cases kd with
  | true => exact begins_list a items
  | false => exact begins_tuple a items
theorem itO_at {kd : Bool} {h : Heap} {it a : Addr} (e : h.get? it = some (itO kd a)) : ItAt kd h it a 0 := by
  cases kd with
  | true => exact ⟨_, e, rfl, rfl⟩
  | false => exact ⟨_, e, rfl, rfl⟩
section
variable {X : Cx} {pins : List (Addr × Obj)} {σ : L2.St} {H : Hp} {s : Shared}
theorem src_at {kd : Bool} {a : Addr} {xs : List V} (I : Inv X pins σ H s) (h : H a = some (hoS kd xs)) : ∃ its : List Value, Vals xs its ∧ SqAt kd s.heap a its.toArray ∧ a < s.heap.objs.size := by
  cases kd with
  | true =>
    obtain ⟨its, r, p, _⟩ := I.list (.of h)
    exact ⟨its, r, p.isList, p.lt⟩
  | false =>
    obtain ⟨its, r, p, _⟩ := I.tuple (.of h)
    obtain ⟨o, ho, _⟩ := id p
    exact ⟨its, r, p, Heap.lt_size ho⟩
end
/-- an iterator of new tuples, over things that stand -/
theorem turn_gen {P : Program} {w : World} {K : PySem.W.Frag} {tg : Expr} {I : Addr} {cells wr : List Addr} {n : Nat} {Xs : Nat → List V} {C : Nat → Heap → Prop} {SH : Hp → Prop}
    (hI : I ∈ cells) (hobj : ∀ i h, C i h → ∀ b ∈ cells, ∃ o, h.get? b = some o ∧ ∀ v, o.data ≠ .cell v)
    (hkeep : ∀ i h h', C i h → (∀ b ∈ cells, ∀ o, h.get? b = some o → h'.get? b = some o) → C i h') (hle : ∀ i h, C i h → i ≤ n) (hwr : ∀ b ∈ wr, b ∈ cells) (hsz : ∀ i, (Xs i).length ≤ 3)
    (hgo : ∀ (X : Cx), X.prog = P → X.w = w → X.K = K → X.calm = true → ∀ (i : Nat) (pins : List (Addr × Obj)) (σ : L2.St) (H : Hp) (s : Shared), Inv X pins σ H s → (∀ b ∈ cells, FpOk X pins H b) → C i s.heap → SH H →
      ∃ (fp : List Addr) (Y : Nat → Heap → Value → Heap → Prop) (St : Nat → Heap → Prop), GoesN P w X.A tg I fp wr n Y St ∧ St i s.heap ∧ (∀ i h, i ≤ n → St i h → C i h) ∧ ∀ v h, Y i s.heap v h → ∃ (T : Addr) (us : List Value), v = .ref T ∧ s.heap.objs.size ≤ T ∧ h.IsTuple T us.toArray ∧ Vals (Xs i) us)
    (hself : ∀ (A : Around) (i : Nat) (s : Shared) (Q E : Value → Shared → Prop), C i s.heap → Q (.ref I) s → wpAny (model P w) A (pyIter (.ref I)) Q E s) :
    Turn P w K tg ⟨fun i H => SH H ∧ i < n, fun i H v H' => ∃ T, v = .ref T ∧ H T = none ∧ H' = upd H T (.tup (Xs i)), fun i H => SH H ∧ n ≤ i⟩ cells I C where
  mem := hI
  obj := hobj
  keep := hkeep
  item := by
    intro X hP hw hK hc i pins s σ H E I0 hf st hg
    obtain ⟨fp, Y, St, gn, st0, back, hy⟩ := hgo X hP hw hK hc i pins σ H s I0 hf st hg.1
    subst hP hw hK
    refine wpAny_mono (gn.goes i s (fun v s2 => ∃ x H', Inv X pins σ H' s2 ∧ RelV x v ∧ (∃ T, x = V.ref T ∧ H T = none ∧ H' = upd H T (.tup (Xs i))) ∧ C (i + 1) s2.heap ∧ ∀ b ∈ cells, H' b = none) E hg.2 st0 fun v h' tk hY st1 hk _ => ?_) (fun r s1 ⟨v, e, h⟩ => ⟨v, e, wpAny_mono h (fun _ _ q => q) fun _ _ z => z⟩) fun _ _ z => z
    obtain ⟨T, us, rfl, hT, ht, hv⟩ := hy v h' hY
    have new : ObjOk X.prog X.w (upd H T (.tup (Xs i))) h' T (.tup (Xs i)) := ⟨Nat.le_trans (hsz i) (by decide), us, hv, ht⟩
    have I1 : Inv X pins σ (upd H T (.tup (Xs i))) { s with heap := h', toks := tk } := I0.turnedNew (ch := cells) (fun b o hb e => hk b o (fun z => hb (hwr b z)) e) hf hT new
    refine ⟨.ref T, _, I1, rfl, ⟨T, rfl, I0.hok.fresh hT, rfl⟩, back _ _ hg.2 st1, fun b hb => ?_⟩
    obtain ⟨o, ho, _⟩ := hobj i s.heap st b hb
    rw [upd_ne (Nat.ne_of_lt (Nat.lt_of_lt_of_le (Heap.lt_size ho) hT))]
    exact (hf b hb).1
  done := by
    intro X hP hw hK hc i pins s σ H E I0 hf st hg
    obtain ⟨fp, Y, St, gn, st0, back, hy⟩ := hgo X hP hw hK hc i pins σ H s I0 hf st hg.1
    subst hP hw hK
    have e : i = n := Nat.le_antisymm (hle i _ st) hg.2
    subst e
    exact gn.stops s _ E st0 fun h' tk hk _ => I0.turnedL (t' := tk) (ch := cells) (fun b o hb e => hk b o (fun z => hb (hwr b z)) e) hf
  self := hself

def pairsD : List D → List D → List D
  | x :: xs, y :: ys => .tuple [x, y] :: pairsD xs ys
  | _, _ => []
theorem pairsD_len : ∀ (xs ys : List D), (pairsD xs ys).length = min xs.length ys.length
  | [], ys => by simp [pairsD]
  | x :: xs, [] => by simp [pairsD]
  | x :: xs, y :: ys => by
    simp only [pairsD, List.length_cons, pairsD_len xs ys]
    omega
theorem pairsD_get : ∀ (xs ys : List D) (i : Nat) (d : D), (pairsD xs ys)[i]? = some d → ∃ x y, xs[i]? = some x ∧ ys[i]? = some y ∧ d = .tuple [x, y]
  | x :: xs, y :: ys, 0, d, h => by cases h; exact ⟨x, y, rfl, rfl, rfl⟩
  | x :: xs, y :: ys, i + 1, d, h => pairsD_get xs ys i d h
  | [], ys, i, d, h => by simp [pairsD] at h
  | x :: xs, [], i, d, h => by simp [pairsD] at h
/-- the items of a list or a tuple, by what it is -/
theorem Rp.seq {G : Hp} {v : V} {d : D} {ds : List D} (r : Rp G v d) (h : gSeq d = some ds) : ∃ (kd : Bool) (a : Addr) (vs : List V), v = .ref a ∧ G a = some (hoS kd vs) ∧ RpAll G vs ds := by
  cases r with
  | lst ha ra => cases h; exact ⟨true, _, _, rfl, ha, ra⟩
  | tup ha ra => cases h; exact ⟨false, _, _, rfl, ha, ra⟩
  | _ => cases h
def zipJ2 (a b : Addr) (kd ke : Bool) (xs ys : List V) : It :=
  ⟨fun i H => (H a = some (hoS kd xs) ∧ H b = some (hoS ke ys)) ∧ i < min xs.length ys.length, fun i H v H' => ∃ T, v = .ref T ∧ H T = none ∧ H' = upd H T (.tup [xs.getD i .non, ys.getD i .non]), fun i H => (H a = some (hoS kd xs) ∧ H b = some (hoS ke ys)) ∧ min xs.length ys.length ≤ i⟩
theorem vals_getD {xs : List V} {its : List Value} (r : Vals xs its) {i : Nat} {u : Value} (h : its.toArray[i]? = some u) : RelV (xs.getD i .non) u := by
  have h' : its[i]? = some u := by simpa using h
  have hl : i < xs.length := by
    rw [r.length]
    exact (List.getElem?_eq_some_iff.mp h').1
  obtain ⟨u', hu, ru⟩ := r.get (List.getElem?_eq_getElem hl)
  rw [h'] at hu
  cases hu
  rw [List.getD_eq_getElem?_getD, List.getElem?_eq_getElem hl]
  exact ru
theorem turn_zip2 {P : Program} {w : World} {K : PySem.W.Frag} {elts : List Expr} {kk : Nat} {tpos : Pos} {a b N : Addr} {kd ke : Bool} {xs ys : List V} (ha : a < N) (hb : b < N) :
    Turn P w K (.Tuple elts kk tpos) (zipJ2 a b kd ke xs ys) [N + 4, N + 2, N + 3, N, N + 1] (N + 4)
      (fun i h => i ≤ min xs.length ys.length ∧ IsZip h (N + 4) (N + 2) (N + 3) .none ∧ IsTupOf2 h (N + 2) (.ref N) (.ref (N + 1)) ∧ (∃ x y, IsTupOf2 h (N + 3) x y) ∧ ItAt kd h N a i ∧ ItAt ke h (N + 1) b i) := by
  refine turn_gen (wr := [N + 4, N + 3, N, N + 1]) (by simp) (fun i h st c hc => ?_) (fun i h h' st k => ?_) (fun i h st => st.1) (fun c hc => ?_) (fun i => by simp) (fun X hP hw hK hc i pins σ H s I hf st sh => ?_) (fun A i s Q E st h => wpAny_pyIter_zip st.2.1 h)
  · obtain ⟨_, hz, hTI, ⟨x, y, hTO⟩, h1, h2⟩ := st
    have e' : c = N + 4 ∨ c = N + 2 ∨ c = N + 3 ∨ c = N ∨ c = N + 1 := by simpa using hc
    rcases e' with q | q | q | q | q
    · rw [q]; exact ⟨_, hz, fun v q => nomatch q⟩
    · rw [q]; exact ⟨_, hTI, fun v q => nomatch q⟩
    · rw [q]; exact ⟨_, hTO, fun v q => nomatch q⟩
    · rw [q]; exact h1.live
    · rw [q]; exact h2.live
  · obtain ⟨hi, hz, hTI, ⟨x, y, hTO⟩, h1, h2⟩ := st
    exact ⟨hi, k _ (by simp) _ hz, k _ (by simp) _ hTI, ⟨x, y, k _ (by simp) _ hTO⟩, h1.at fun o q => k _ (by simp) o q, h2.at fun o q => k _ (by simp) o q⟩
  · simp at hc ⊢
    rcases hc with q | q | q | q <;> simp [q]
  · subst hP hw hK
    obtain ⟨its, r1, p1, l1⟩ := src_at I sh.1
    obtain ⟨its2, r2, p2, l2⟩ := src_at I sh.2
    obtain ⟨hi, hz, hTI, hTO, h1, h2⟩ := st
    have sep : ZipSep2 (N + 4) (N + 2) (N + 3) N (N + 1) (N :: [a]) ((N + 1) :: [b]) := zip_sep2 (fun c hc => by simp at hc; rw [hc]; exact ha) (fun c hc => by simp at hc; rw [hc]; exact hb)
    have G := GoesN.zip2 (prog := X.prog) (w := X.w) (A := X.A) (elts := elts) (x1 := kk) (pos := tpos) sep (draws_of (A := X.A.in1) kd (show X.A.in1.handled = none from I.ok.hd hc) N a (Nat.ne_of_lt ha) its.toArray) (draws_of (A := X.A.in1) ke (show X.A.in1.handled = none from I.ok.hd hc) (N + 1) b (Nat.ne_of_lt (Nat.lt_succ_of_lt hb)) its2.toArray)
    have en : min its.toArray.size its2.toArray.size = min xs.length ys.length := by simp [r1.length, r2.length]
    rw [en] at G
    refine ⟨_, _, _, G, ⟨hz, hTI, hTO, ⟨h1, p1⟩, h2, p2⟩, fun j h hj st => ⟨hj, st.1, st.2.1, st.2.2.1, st.2.2.2.1.1, st.2.2.2.2.1⟩, fun v h hY => ?_⟩
    obtain ⟨T, x, y, rfl, hT, hx, hy, ht⟩ := hY
    exact ⟨T, [x, y], rfl, hT, ht, .cons (vals_getD r1 hx) (.cons (vals_getD r2 hy) .nil)⟩
theorem getD_rp {G : Hp} {vs : List V} {ds : List D} {i : Nat} {d : D} (r : RpAll G vs ds) (h : ds[i]? = some d) : Rp G (vs.getD i .non) d := by
  obtain ⟨v, hv, rv⟩ := r.get h
  rw [List.getD_eq_getElem?_getD, hv]
  exact rv
def gZip2 : List D → Option (List D)
  | [x, y] => (gSeq x).bind fun xs => (gSeq y).map fun ys => pairsD xs ys
  | _ => none
section
variable {X : Cx} {pos : Pos}
theorem deni_zip2 {e e2 : Expr} {p tpos : Pos} {elts : List Expr} {kk : Nat} {F : Mo (List D)} (hg : Gl X "zip") (hm : X.mg "zip" = none) (ha : DenA X [e, e2] F)
    (hs : starEach [e, e2] X.env = (false, eval e X.env) :: starEach [e2] X.env := by rfl) (hpl : (backTo pos (starEach [e2] X.env)).any (·.1) = false := by rfl) :
    DenI X (.Tuple elts kk tpos) (.Call (.Name "zip" p) [e, e2] [] pos) (mMap gZip2 F) := by
  obtain ⟨t, h1, h2⟩ := ha
  refine ⟨fun σ H R => t σ H fun vs H1 => ∃ a b kd ke xs ys, vs = [.ref a, .ref b] ∧ H1 a = some (hoS kd xs) ∧ H1 b = some (hoS ke ys) ∧ R (zipJ2 a b kd ke xs ys) H1, ⟨fun pins s σ H R I h => ?_⟩, fun P b σ env G H ds env' rr h R q => ?_⟩
  · refine Call_ (ld_blt I hg hm PyProof.Rows.boot_zip (PyProof.Rows.callWith_type1 (thn (h1.run pos pins s σ H _ I h) fun us s1 ⟨vs, H1, I1, r1, q1⟩ => ?_) hs hpl))
    obtain ⟨a, b, kd, ke, xs, ys, ex, hx, hy, q1⟩ := q1
    subst ex
    cases r1 with
    | cons r rr =>
      cases rr with
      | cons r' rr =>
        cases rr
        cases r
        cases r'
        obtain ⟨its, rv, p1, l1⟩ := src_at I1 hx
        obtain ⟨its2, rv2, p2, l2⟩ := src_at I1 hy
        refine zip_begins2 (begins_of kd a its.toArray) (begins_of ke b its2.toArray) p1 p2 fun h' hz hTI hTO o1 o2 hsz hk => wpAny_pyIter_zip hz ?_
        have I2 : Inv X pins σ H1 { s1 with heap := h' } := I1.kept (t' := s1.toks) hk
        have fresh5 : ∀ c, c ∈ [s1.heap.objs.size + 4, s1.heap.objs.size + 2, s1.heap.objs.size + 3, s1.heap.objs.size, s1.heap.objs.size + 1] → FpOk X pins H1 c := fun c hcm => by
          have e' : c = s1.heap.objs.size + 4 ∨ c = s1.heap.objs.size + 2 ∨ c = s1.heap.objs.size + 3 ∨ c = s1.heap.objs.size ∨ c = s1.heap.objs.size + 1 := by simpa using hcm
          have hle : s1.heap.objs.size ≤ c := by
            rcases e' with z | z | z | z | z
            · rw [z]; exact Nat.le_add_right _ _
            · rw [z]; exact Nat.le_add_right _ _
            · rw [z]; exact Nat.le_add_right _ _
            · rw [z]; exact Nat.le_refl _
            · rw [z]; exact Nat.le_add_right _ _
          exact I1.fpOk hle (I1.hok.fresh hle)
        exact ⟨_, _, _, _, H1, rfl, I2, turn_zip2 l1 l2, ⟨Nat.zero_le _, hz, hTI, ⟨_, _, hTO⟩, itO_at o1, itO_at o2⟩, fresh5, q1⟩
  · obtain ⟨z, hk, hz⟩ := mMap_some h
    refine h2 P b σ env G H z env' rr hk _ fun v G' H' g r pr => ?_
    unfold gZip2 at hz
    split at hz
    · rename_i dx dy
      cases w1 : gSeq dx with
      | none => rw [w1] at hz; cases hz
      | some xs =>
        cases w2 : gSeq dy with
        | none => rw [w1, w2] at hz; cases hz
        | some ys =>
          rw [w1, w2] at hz
          cases hz
          obtain ⟨v1, v2, rfl, p1, p2⟩ := pr.inv2
          obtain ⟨kd, a, vs, rfl, hx, rx⟩ := p1.seq w1
          obtain ⟨ke, c, ws, rfl, hy, ry⟩ := p2.seq w2
          refine ⟨a, c, kd, ke, vs, ws, rfl, r.sub _ _ hx, r.sub _ _ hy, q _ G' H' g r fun i G1 H1 e1 e2 => ⟨fun hi => ?_, fun d hd => ?_⟩⟩
          · rw [pairsD_len] at hi
            exact ⟨⟨e2 _ _ (e1 _ _ hx), e2 _ _ (e1 _ _ hy)⟩, by rw [rx.length, ry.length]; exact hi⟩
          · obtain ⟨x, y, hx', hy', rfl⟩ := pairsD_get xs ys i d hd
            have l1 : i < xs.length := (List.getElem?_eq_some_iff.mp hx').1
            have l2 : i < ys.length := (List.getElem?_eq_some_iff.mp hy').1
            refine ⟨⟨⟨e2 _ _ (e1 _ _ hx), e2 _ _ (e1 _ _ hy)⟩, by rw [rx.length, ry.length]; omega⟩, fun x' H' yl => ?_⟩
            obtain ⟨T, rfl, hT, rfl⟩ := yl
            have pu := Pu.new (o := .tup [vs.getD i .non, ws.getD i .non]) e2 hT
            exact ⟨_, pu, .tup upd_same (.cons (((getD_rp rx hx').mono e1).mono pu.g) (.cons (((getD_rp ry hy').mono e1).mono pu.g) .nil))⟩
    · cases hz
end
end Dn

/-! V18: enumerate, zip of three, reversed ranges. -/
namespace PySem
open Sem (wp)
set_option maxHeartbeats 2000000 in
theorem meets_enumerate_one {v : Value} {o : Obj} {H : Heap → Prop} (B : Begins v o H) :
    Meets (Builtin.«enumerate.__new__» ⟨[.type "enumerate", v], []⟩) (fun _ R s => H s.heap ∧
      R (.ok (.ret (.ref (s.heap.push o).objs.size))) { s with heap := (s.heap.push o).push { cls := .type "enumerate", data := .fields #[.none, .bool false, .ref s.heap.objs.size, rawInt 0, .none, .none] } }) :=
  .of_wp fun prog w A R s h => by
    obtain ⟨hp, g, d, tk, os⟩ := s; obtain ⟨h1, h⟩ := h
    have hsub := sub_enumerate
    have q1 : ∀ {A' : Around} {E : Value → Shared → Prop} {Q : Value → Shared → Prop}, Q (.ref hp.objs.size) ⟨hp.push o, g, d, tk, os⟩ → wpAny (model prog w) A' (pyIter v) Q E ⟨hp, g, d, tk, os⟩ :=
      fun q => B.iter prog w _ _ ⟨hp, g, d, tk, os⟩ _ h1 q
    wp_walk using q1
    refine wpAny_stack_any fun st => wpAny_pure ?_
    split
    · rename_i c _ _ _ _ _
      cases (c == Value.type "enumerate")
      · wp_walk using q1
        exact ⟨_, rfl, h⟩
      · wp_walk using q1
        exact ⟨_, rfl, h⟩
    · wp_walk using q1
      exact ⟨_, rfl, h⟩
theorem enum_begins_one {prog : Program} {w : World} {A : Around} {E : Value → Shared → Prop} {s : Shared} {v : Value} {o : Obj} {H : Heap → Prop} {Q : Value → Shared → Prop} (B : Begins v o H) (h1 : H s.heap)
    (h : ∀ h', IsEnum h' (s.heap.objs.size + 1) s.heap.objs.size 0 .none → h'.get? s.heap.objs.size = some o → h'.objs.size = s.heap.objs.size + 2 →
      (∀ b o, s.heap.get? b = some o → h'.get? b = some o) → Q (.ref (s.heap.objs.size + 1)) { s with heap := h' }) :
    wpAny (model prog w) A (call (.type "enumerate") [v]) Q E s := by
  refine callType_new F.called_enumerate (by decide) (F.typeCall_enumerate_1 _) (F.newCall_enumerate_1 _) (fun obj => F.args_object_init_2 obj _) F.entry_enumerate_new
    (meets_enumerate_one B) ⟨h1, ?_⟩
  have hz : (s.heap.push o).objs.size = s.heap.objs.size + 1 := Heap.size_push ..
  show _ ∧ _
  rw [hz]
  have he : IsEnum ((s.heap.push o).push { cls := .type "enumerate", data := .fields #[.none, .bool false, .ref s.heap.objs.size, rawInt 0, .none, .none] }) (s.heap.objs.size + 1) s.heap.objs.size 0 .none := by
    have := Heap.get?_push_size (s.heap.push o) (o := { cls := .type "enumerate", data := .fields #[.none, .bool false, .ref s.heap.objs.size, rawInt 0, .none, .none] }) rfl
    rw [hz] at this; exact this
  refine ⟨⟨_, he, rfl⟩, h _ he (Heap.get?_push_of_some _ (Heap.get?_push_size _ B.free)) (by rw [Heap.size_push, hz]) fun b o x => Heap.get?_push_of_some _ (Heap.get?_push_of_some _ x)⟩
end PySem
namespace Dn
open PySem PySem.Spec PyProof.Rows L2
open Evl (Ex fresh_back)

def enumD (k : Nat) : List D → List D
  | [] => []
  | x :: xs => .tuple [.int k, x] :: enumD (k + 1) xs
theorem enumD_len : ∀ (k : Nat) (xs : List D), (enumD k xs).length = xs.length
  | _, [] => rfl
  | k, x :: xs => by simp [enumD, enumD_len (k + 1) xs]
theorem enumD_get : ∀ (k : Nat) (xs : List D) (i : Nat) (d : D), (enumD k xs)[i]? = some d → ∃ x, xs[i]? = some x ∧ d = .tuple [.int ((k + i : Nat) : Int), x]
  | k, x :: xs, 0, d, h => by cases h; exact ⟨x, rfl, rfl⟩
  | k, x :: xs, i + 1, d, h => by
    obtain ⟨y, h1, h2⟩ := enumD_get (k + 1) xs i d h
    exact ⟨y, h1, by rw [h2, show k + 1 + i = k + (i + 1) by omega]⟩
  | k, [], i, d, h => by simp [enumD] at h
def enumJ (a : Addr) (kd : Bool) (xs : List V) : It :=
  ⟨fun i H => (H a = some (hoS kd xs)) ∧ i < xs.length, fun i H v H' => ∃ T, v = .ref T ∧ H T = none ∧ H' = upd H T (.tup [.int (i : Nat), xs.getD i .non]), fun i H => (H a = some (hoS kd xs)) ∧ xs.length ≤ i⟩
theorem turn_enumA {P : Program} {w : World} {K : PySem.W.Frag} {elts : List Expr} {kk : Nat} {tpos : Pos} {a N : Addr} {kd : Bool} {xs : List V} (ha : a < N) :
    Turn P w K (.Tuple elts kk tpos) (enumJ a kd xs) [N + 1, N] (N + 1) (fun i h => i ≤ xs.length ∧ (∃ old, IsEnum h (N + 1) N ((0 : Int) + (i : Int)) old) ∧ ItAt kd h N a i) := by
  refine turn_gen (wr := [N + 1, N]) (Xs := fun i => [.int (i : Nat), xs.getD i .non]) (by simp) (fun i h st c hc => ?_) (fun i h h' st k => ?_) (fun i h st => st.1) (fun c hc => hc) (fun i => by simp) (fun X hP hw hK hc i pins σ H s I hf st sh => ?_) (fun A i s Q E st h => ?_)
  · obtain ⟨_, ⟨old, he⟩, h1⟩ := st
    have e' : c = N + 1 ∨ c = N := by simpa using hc
    rcases e' with q | q
    · rw [q]; exact ⟨_, he, fun v q => nomatch q⟩
    · rw [q]; exact h1.live
  · obtain ⟨hi, ⟨old, he⟩, h1⟩ := st
    exact ⟨hi, ⟨old, k _ (by simp) _ he⟩, h1.at fun o q => k _ (by simp) o q⟩
  · subst hP hw hK
    obtain ⟨its, r1, p1, l1⟩ := src_at I sh
    obtain ⟨hi, he, h1⟩ := st
    have G := GoesN.enumFrom (prog := X.prog) (w := X.w) (A := X.A) (elts := elts) (x1 := kk) (pos := tpos) 0 (draws_of (A := X.A.in1) kd (show X.A.in1.handled = none from I.ok.hd hc) N a (Nat.ne_of_lt ha) its.toArray) (N + 1) (Nat.succ_ne_self N)
      (fun hm => by
        have hm : N + 1 = a := by simpa using hm
        exact absurd ha (by rw [← hm]; exact Nat.not_lt.mpr (Nat.le_succ N))) (by simp)
    have en : its.toArray.size = xs.length := by simp [r1.length]
    rw [en] at G
    refine ⟨_, _, _, G, ⟨he, h1, p1⟩, fun j h hj st => ⟨hj, st.1, st.2.1⟩, fun v h hY => ?_⟩
    obtain ⟨T, t, x, rfl, hT, hx, ht⟩ := hY
    exact ⟨T, [.int (0 + (i : Int)) t, x], rfl, hT, ht, .cons ⟨t, by rw [Int.zero_add]⟩ (.cons (vals_getD r1 hx) .nil)⟩
  · obtain ⟨_, ⟨old, he⟩, _⟩ := st
    exact wpAny_pyIter_enum he h
def gEnum : List D → Option (List D)
  | [x] => (gSeq x).map fun xs => enumD 0 xs
  | _ => none
section
variable {X : Cx} {pos : Pos}
theorem deni_enum {e : Expr} {p tpos : Pos} {elts : List Expr} {kk : Nat} {F : Mo (List D)} (hg : Gl X "enumerate") (hm : X.mg "enumerate" = none) (ha : DenA X [e] F) (hs : starEach [e] X.env = (false, eval e X.env) :: starEach [] X.env := by rfl) :
    DenI X (.Tuple elts kk tpos) (.Call (.Name "enumerate" p) [e] [] pos) (mMap gEnum F) := by
  obtain ⟨t, h1, h2⟩ := ha
  refine ⟨fun σ H R => t σ H fun vs H1 => ∃ a kd xs, vs = [.ref a] ∧ H1 a = some (hoS kd xs) ∧ R (enumJ a kd xs) H1, ⟨fun pins s σ H R I h => ?_⟩, fun P b σ env G H ds env' rr h R q => ?_⟩
  · refine Call_ (ld_blt I hg hm PyProof.Rows.boot_enumerate (PyProof.Rows.callWith_type1 (thn (h1.run pos pins s σ H _ I h) fun us s1 ⟨vs, H1, I1, r1, q1⟩ => ?_) hs rfl))
    obtain ⟨a, kd, xs, ex, hx, q1⟩ := q1
    subst ex
    cases r1 with
    | cons r rr =>
      cases rr
      cases r
      obtain ⟨its, rv, p1, l1⟩ := src_at I1 hx
      refine enum_begins_one (begins_of kd a its.toArray) p1 fun h' he o1 hsz hk => wpAny_pyIter_enum he ?_
      have I2 : Inv X pins σ H1 { s1 with heap := h' } := I1.kept (t' := s1.toks) hk
      have fresh2 : ∀ c, c ∈ [s1.heap.objs.size + 1, s1.heap.objs.size] → FpOk X pins H1 c := fun c hcm => by
        have e' : c = s1.heap.objs.size + 1 ∨ c = s1.heap.objs.size := by simpa using hcm
        have hle : s1.heap.objs.size ≤ c := by
          rcases e' with z | z
          · rw [z]; exact Nat.le_add_right _ _
          · rw [z]; exact Nat.le_refl _
        exact I1.fpOk hle (I1.hok.fresh hle)
      exact ⟨_, _, _, _, H1, rfl, I2, turn_enumA l1, ⟨Nat.zero_le _, ⟨_, by simpa using he⟩, itO_at o1⟩, fresh2, q1⟩
  · obtain ⟨z, hk, hz⟩ := mMap_some h
    refine h2 P b σ env G H z env' rr hk _ fun v G' H' g r pr => ?_
    unfold gEnum at hz
    split at hz
    · rename_i dx
      cases w1 : gSeq dx with
      | none => rw [w1] at hz; cases hz
      | some xs =>
        rw [w1] at hz
        cases hz
        obtain ⟨v1, rfl, p1⟩ := pr.inv1
        obtain ⟨kd, a, vs, rfl, hx, rx⟩ := p1.seq w1
        refine ⟨a, kd, vs, rfl, r.sub _ _ hx, q _ G' H' g r fun i G1 H1 e1 e2 => ⟨fun hi => ?_, fun d hd => ?_⟩⟩
        · rw [enumD_len] at hi
          exact ⟨e2 _ _ (e1 _ _ hx), by rw [rx.length]; exact hi⟩
        · obtain ⟨x, hx', rfl⟩ := enumD_get 0 xs i d hd
          have l1 : i < xs.length := (List.getElem?_eq_some_iff.mp hx').1
          refine ⟨⟨e2 _ _ (e1 _ _ hx), by rw [rx.length]; exact l1⟩, fun x' H' yl => ?_⟩
          obtain ⟨T, rfl, hT, rfl⟩ := yl
          have pu := Pu.new (o := .tup [.int (i : Nat), vs.getD i .non]) e2 hT
          refine ⟨_, pu, .tup upd_same (.cons ?_ (.cons (((getD_rp rx hx').mono e1).mono pu.g) .nil))⟩
          rw [Nat.zero_add]
          exact .int _
    · cases hz
/-- reversed(range(..)) -/
def revD (a : Int) (n : Nat) : List D := (List.range n).map fun (i : Nat) => PyData.int (a + n - 1 - i)
def gRev1 : List D → Option (List D)
  | [.int j] => if -(2 ^ 62) ≤ j ∧ j < 2 ^ 62 then some (revD 0 j.toNat) else none
  | _ => none
theorem revD_get {a : Int} {n i : Nat} {d : D} (h : (revD a n)[i]? = some d) : i < n ∧ d = .int (a + n - 1 - i) := by
  unfold revD at h
  rw [List.getElem?_map] at h
  by_cases hi : i < n
  · rw [List.getElem?_range hi] at h
    cases h
    exact ⟨hi, rfl⟩
  · rw [List.getElem?_eq_none (by simpa using hi)] at h
    cases h
theorem deni_revrange1 {tg a : Expr} {p p2 pos2 : Pos} {F : Mo D} (hg2 : Gl X "reversed") (hm2 : X.mg "reversed" = none) (hg : Gl X "range") (hm : X.mg "range" = none) (ha : DenE X a F)
    (na : starEach [a] X.env = (false, eval a X.env) :: starEach [] X.env := by rfl) (hs : starEach [.Call (.Name "range" p) [a] [] pos2] X.env = (false, eval (.Call (.Name "range" p) [a] [] pos2) X.env) :: starEach [] X.env := by rfl) :
    DenI X tg (.Call (.Name "reversed" p2) [.Call (.Name "range" p) [a] [] pos2] [] pos) (mMap (fun d => gRev1 [d]) F) := by
  obtain ⟨t, h1, h2⟩ := ha
  refine ⟨_, pi_revR hg2 hm2 (prg_1 hg hm h1 na) hs, fun P b σ env G H ds env' rr h R q => ?_⟩
  obtain ⟨z, hk, hz⟩ := mMap_some h
  refine h2 P b σ env G H z env' rr hk _ fun v G' H' g r pr => ?_
  unfold gRev1 at hz
  split at hz
  · rename_i j he
    cases he
    split at hz
    · rename_i hj
      cases hz
      refine ⟨j, pr.inv_int, by omega, by omega, hj.1, hj.2, q _ G' H' g r fun i G1 H1 e1 e2 => ⟨fun hi => ?_, fun d hd => ?_⟩⟩
      · have : (revD 0 j.toNat).length = j.toNat := by unfold revD; simp
        rw [this] at hi
        show (j - 0).toNat ≤ i
        rw [Int.sub_zero]
        exact hi
      · obtain ⟨hi, rfl⟩ := revD_get hd
        refine ⟨by show i < (j - 0).toNat; rw [Int.sub_zero]; exact hi, fun x H' yl => ?_⟩
        obtain ⟨rfl, rfl⟩ := yl
        refine ⟨G1, Pu.refl e2, ?_⟩
        have e : (0 : Int) + (((j - 0).toNat : Nat) : Int) - 1 + ((i : Nat) : Int) * (-1) = 0 + (j.toNat : Int) - 1 - (i : Int) := by
          rw [Int.sub_zero]; omega
        rw [e]
        exact .int _
    · cases hz
  · cases hz
end
end Dn

/-! W0: zip of any number of lists, tuples: made. -/
namespace Dn
open PySem PySem.Spec PyProof.Rows L2
open Evl (Ex fresh_back)

theorem zn_typeCall (args : List Value) : checkTypeCall "zip" ⟨args, []⟩ = pure () := by kernel_rfl
theorem zn_newCall0 : checkBuiltinCall "zip.__new__" ⟨[.type "zip"], []⟩ = pure () := by kernel_rfl
theorem zn_newCall1 (a : Value) (args : List Value) : checkBuiltinCall "zip.__new__" ⟨.type "zip" :: a :: args, []⟩ = pure () := by kernel_rfl
theorem zn_newCall : ∀ (args : List Value), checkBuiltinCall "zip.__new__" ⟨.type "zip" :: args, []⟩ = pure ()
  | [] => zn_newCall0
  | a :: args => zn_newCall1 a args
theorem zn_init (obj : Value) (args : List Value) : argsOk "object.__init__" ⟨obj :: args, []⟩ := by unfold argsOk; kernel_rfl

/-- what is walked: a list or a tuple, where it stands, what is in it -/
structure Src where
  kd : Bool
  a : Nat
  its : Array Value
abbrev srcV (S : Src) : Value := .ref S.a
def pushIts : Heap → List Src → Heap
  | h, [] => h
  | h, S :: r => pushIts (h.push (itO S.kd S.a)) r
theorem pushIts_size : ∀ (r : List Src) (h : Heap), (pushIts h r).objs.size = h.objs.size + r.length
  | [], h => rfl
  | S :: r, h => by
    rw [pushIts, pushIts_size r, Heap.size_push, List.length_cons]
    omega
theorem pushIts_keep : ∀ (r : List Src) (h : Heap) (b : Addr) (o : Obj), h.get? b = some o → (pushIts h r).get? b = some o
  | [], _, _, _, e => e
  | S :: r, h, b, o, e => pushIts_keep r _ b o (Heap.get?_push_of_some _ e)
theorem itO_free (kd : Bool) (a : Addr) : (itO kd a).isFreed = false := by cases kd <;> rfl
theorem pushIts_get : ∀ (r : List Src) (h : Heap) (j : Nat) (S : Src), r[j]? = some S → (pushIts h r).get? (h.objs.size + j) = some (itO S.kd S.a)
  | S :: r, h, 0, T, e => by
    simp at e
    subst e
    exact pushIts_keep r _ _ _ (Heap.get?_push_size _ (itO_free _ _))
  | S :: r, h, j + 1, T, e => by
    have := pushIts_get r (h.push (itO S.kd S.a)) j T (by simpa using e)
    rw [Heap.size_push] at this
    rw [pushIts, show h.objs.size + (j + 1) = h.objs.size + 1 + j by omega]
    exact this
  | [], h, j, S, e => by simp at e
theorem SqAt.keep {kd : Bool} {h h' : Heap} {a : Addr} {its : Array Value} (x : SqAt kd h a its) (k : ∀ b o, h.get? b = some o → h'.get? b = some o) : SqAt kd h' a its := by
  cases kd with
  | true => exact Heap.IsList.at x fun o e => k a o e
  | false => exact Heap.IsTuple.at x fun o e => k a o e
def itRefs (n : Nat) : List Src → List Value
  | [] => []
  | _ :: r => .ref n :: itRefs (n + 1) r
theorem itRefs_len : ∀ (r : List Src) (n : Nat), (itRefs n r).length = r.length
  | [], _ => rfl
  | _ :: r, n => congrArg (· + 1) (itRefs_len r (n + 1))
theorem itRefs_get : ∀ (r : List Src) (n j : Nat), j < r.length → (itRefs n r)[j]? = some (.ref (n + j))
  | S :: r, n, 0, _ => rfl
  | S :: r, n, j + 1, h => by
    have := itRefs_get r (n + 1) j (by simpa using h)
    rw [show n + (j + 1) = n + 1 + j by omega]
    exact this
  | [], _, _, h => by cases h
section
variable {prog : Program} {w : World} {A : Around} {E : Value → Shared → Prop} {s : Shared}
theorem iterAll_go {Q : Array Value → Shared → Prop} : ∀ (r : List Src) (acc : Array Value) (h : Heap), (∀ S ∈ r, SqAt S.kd h S.a S.its) → (∀ acc' : Array Value, acc'.toList = acc.toList ++ itRefs h.objs.size r → Q acc' { s with heap := pushIts h r }) →
    wpAny (model prog w) A (forIn (r.map srcV) acc fun x its => do
        let y ← holding its.toList (pyIter x)
        pure (ForInStep.yield (its.push y))) Q E { s with heap := h }
  | [], acc, h, _, hq => by
    simp only [List.map_nil, List.forIn_nil]
    exact wpAny_pure (hq acc (by simp [itRefs]))
  | S :: r, acc, h, hs, hq => by
    simp only [List.map_cons, List.forIn_cons]
    refine wpAny_bind (wpAny_bind (wpAny_holding ?_))
    refine (begins_of S.kd S.a S.its).iter prog w _ _ { s with heap := h } _ (hs S (by simp)) ?_
    refine wpAny_pure ?_
    refine iterAll_go (Q := Q) r (acc.push (.ref h.objs.size)) (h.push (itO S.kd S.a)) (fun T hT => (hs T (by simp [hT])).keep fun b o e => Heap.get?_push_of_some _ e) fun acc' he => hq acc' ?_
    rw [he, Heap.size_push, Array.toList_push, List.append_assoc]
    rfl
theorem wpAny_iterAll {r : List Src} {Q : List Value → Shared → Prop} (hs : ∀ S ∈ r, SqAt S.kd s.heap S.a S.its) (hq : Q (itRefs s.heap.objs.size r) { s with heap := pushIts s.heap r }) :
    wpAny (model prog w) A (Builtin.SmallTypes.iterAll (r.map srcV)) Q E s := by
  unfold Builtin.SmallTypes.iterAll
  refine wpAny_bind ?_
  refine iterAll_go r #[] s.heap hs fun acc' he => ?_
  refine wpAny_pure ?_
  rw [he]
  simpa using hq
def zT (h : Heap) (r : List Src) : Heap := (pushIts h r).push { cls := .type "tuple", data := .seq (itRefs h.objs.size r).toArray }
def zO (h : Heap) (r : List Src) : Heap := (zT h r).push { cls := .type "tuple", data := .seq ((itRefs h.objs.size r).map fun _ => Value.none).toArray }
def zZ (h : Heap) (r : List Src) : Heap := (zO h r).push { cls := .type "zip", data := .fields #[.none, .bool false, .bool false, .ref (pushIts h r).objs.size, .ref (zT h r).objs.size] }
theorem meets_zip_newN {r : List Src} (hl : r.length ≤ 1000) :
    Meets (Builtin.«zip.__new__» ⟨.type "zip" :: r.map srcV, []⟩) (fun _ R s => (∀ S ∈ r, SqAt S.kd s.heap S.a S.its) ∧
      R (.ok (.ret (.ref (zO s.heap r).objs.size))) { s with heap := zZ s.heap r }) :=
  .of_wp fun prog w A R s h => by
    obtain ⟨hp, g, d, tk, os⟩ := s
    obtain ⟨h1, h⟩ := h
    have hsub := sub_zip
    have q1 : ∀ {A' : Around} {E : Value → Shared → Prop} {Q : List Value → Shared → Prop}, Q (itRefs hp.objs.size r) ⟨pushIts hp r, g, d, tk, os⟩ → wpAny (model prog w) A' (Builtin.SmallTypes.iterAll (r.map srcV)) Q E ⟨hp, g, d, tk, os⟩ :=
      fun q => wpAny_iterAll h1 q
    have hz : sizeLine = 16777216 := sizeLine_eq
    have z1 : (itRefs hp.objs.size r).length ≤ sizeLine := by rw [itRefs_len]; omega
    have z2 : ((itRefs hp.objs.size r).map fun _ => Value.none).length ≤ sizeLine := by rw [List.length_map, itRefs_len]; omega
    have q2 : ∀ {A' : Around} {E : Value → Shared → Prop} {Q : Value → Shared → Prop}, Q (.ref (pushIts hp r).objs.size) ⟨zT hp r, g, d, tk, os⟩ → wpAny (model prog w) A' (newTuple (itRefs hp.objs.size r)) Q E ⟨pushIts hp r, g, d, tk, os⟩ :=
      fun q => wpAny_newTuple q z1
    have q3 : ∀ {A' : Around} {E : Value → Shared → Prop} {Q : Value → Shared → Prop}, Q (.ref (zT hp r).objs.size) ⟨zO hp r, g, d, tk, os⟩ → wpAny (model prog w) A' (newTuple ((itRefs hp.objs.size r).map fun _ => Value.none)) Q E ⟨zT hp r, g, d, tk, os⟩ :=
      fun q => wpAny_newTuple q z2
    wp_walk using q1, q2, q3
    exact ⟨_, rfl, h⟩
end
end Dn

/-! W1: zip of any number of lists, tuples: next. -/
namespace Dn
open PySem PySem.Spec PyProof.Rows L2
open Evl (Ex fresh_back)

/-- the i-th of each -/
def colAt (r : List Src) (i : Nat) : List Value := r.map fun S => S.its.getD i .none
/-- the iterators stand at i -/
def ItsAt (h : Heap) (n : Nat) (r : List Src) (i : Nat) : Prop := ∀ (j : Nat) (S : Src), r[j]? = some S → ItAt S.kd h (n + j) S.a i ∧ SqAt S.kd h S.a S.its
theorem SqAt.at {kd : Bool} {h h' : Heap} {a : Addr} {its : Array Value} (x : SqAt kd h a its) (k : ∀ o, h.get? a = some o → h'.get? a = some o) : SqAt kd h' a its := by
  cases kd with
  | true => exact Heap.IsList.at x fun o e => k o e
  | false => exact Heap.IsTuple.at x fun o e => k o e
theorem SqAt.lt {kd : Bool} {h : Heap} {a : Addr} {its : Array Value} (x : SqAt kd h a its) : a < h.objs.size := by
  cases kd with
  | true => obtain ⟨o, e, _⟩ := id x; exact Heap.lt_size e
  | false => obtain ⟨o, e, _⟩ := id x; exact Heap.lt_size e
theorem ItsAt.at {h h' : Heap} {n : Nat} {r : List Src} {i : Nat} (x : ItsAt h n r i) (lo : ∀ S ∈ r, S.a < n) (k : ∀ c o, (c < n ∨ (n ≤ c ∧ c < n + r.length)) → h.get? c = some o → h'.get? c = some o) : ItsAt h' n r i := fun j S e => by
  obtain ⟨h1, h2⟩ := x j S e
  have hj : j < r.length := (List.getElem?_eq_some_iff.mp e).1
  exact ⟨h1.at fun o q => k _ o (.inr ⟨by omega, by omega⟩) q, h2.at fun o q => k _ o (.inl (lo S (List.mem_of_getElem? e))) q⟩
section
variable {prog : Program} {w : World} {A : Around} {E : Value → Shared → Prop} {s : Shared}
/-- the draws of all, one after another: each gives one -/
theorem draw_loop (hh : A.handled = none) {f : Value → Option Fin × Array Value → Sem (ForInStep (Option Fin × Array Value))}
    (hf : ∀ (it : Value) (acc : Array Value) (s : Shared) (Q : ForInStep (Option Fin × Array Value) → Shared → Prop) (E : Value → Shared → Prop), wpAny (model prog w) A (Builtin.SmallTypes.nextOf it) (fun x s' => Q (.yield (none, acc.push x)) s') E s → wpAny (model prog w) A (f it (none, acc)) Q E s)
    (lo0 : Nat) (i : Nat) {Q : Option Fin × Array Value → Shared → Prop} : ∀ (r : List Src) (n : Nat) (acc : Array Value) (h : Heap) (tk : Nat), lo0 ≤ n → (∀ S ∈ r, S.a < lo0) → ItsAt h n r i → (∀ S ∈ r, i < S.its.size) →
      (∀ h' tk' acc', ItsAt h' n r (i + 1) → (∀ c o, (c < n ∨ n + r.length ≤ c) → h.get? c = some o → h'.get? c = some o) → h'.objs.size = h.objs.size → acc'.toList = acc.toList ++ colAt r i → Q (none, acc') { s with heap := h', toks := tk' }) →
      wpAny (model prog w) A (forIn (itRefs n r) (none, acc) f) Q E { s with heap := h, toks := tk }
  | [], n, acc, h, tk, _, _, st, _, hq => by
    simp only [itRefs, List.forIn_nil]
    exact wpAny_pure (hq h tk acc (fun j S e => by simp at e) (fun _ _ _ e => e) rfl (by simp [colAt]))
  | S :: r, n, acc, h, tk, hln, lo, st, hlt, hq => by
    simp only [itRefs, List.forIn_cons]
    obtain ⟨h1, h2⟩ := st 0 S rfl
    have hS : S.a < n := Nat.lt_of_lt_of_le (lo S (by simp)) hln
    have D := draws_of (prog := prog) (w := w) (A := A) S.kd hh n S.a (Nat.ne_of_lt hS) S.its
    refine wpAny_bind (hf _ _ _ _ _ (D.item i _ _ _ (hlt S (by simp)) ⟨by simpa using h1, h2⟩ fun x h' tk' hx st' hs' => ?_))
    replace hs' : Heap.SameBut n h h' := hs'
    have keep : ∀ c o, c ≠ n → h.get? c = some o → h'.get? c = some o := fun c o hc e => hs'.extBut c o hc e
    have str : ItsAt h' (n + 1) r i := fun j T e => by
      obtain ⟨k1, k2⟩ := st (j + 1) T (by simpa using e)
      have hT : T.a < lo0 := lo T (by simp [List.mem_of_getElem? e])
      rw [show n + (j + 1) = n + 1 + j by omega] at k1
      exact ⟨k1.at fun o q => keep _ o (by omega) q, k2.at fun o q => keep _ o (by omega) q⟩
    refine draw_loop hh hf lo0 i r (n + 1) (acc.push x) h' tk' (by omega) (fun T hT => lo T (by simp [hT])) str (fun T hT => hlt T (by simp [hT])) fun h2 tk2 acc2 st2 kp2 sz2 ha2 => ?_
    have kpn : ∀ o, h'.get? n = some o → h2.get? n = some o := fun o e => kp2 n o (.inl (by omega)) e
    refine hq h2 tk2 acc2 (fun j T e => ?_) (fun c o hc e => kp2 c o (by rw [List.length_cons] at hc; omega) (keep c o (by rw [List.length_cons] at hc; omega) e)) (by rw [sz2]; exact hs'.1) ?_
    · cases j with
      | zero =>
        simp at e
        subst e
        exact ⟨by simpa using st'.1.at fun o q => kpn o q, st'.2.at fun o q => kp2 _ o (.inl (by omega)) q⟩
      | succ j =>
        obtain ⟨k1, k2⟩ := st2 j T (by simpa using e)
        rw [show n + (j + 1) = n + 1 + j by omega]
        exact ⟨k1, k2⟩
    · rw [ha2, Array.toList_push, List.append_assoc]
      have : S.its.getD i .none = x := by simp [Array.getD_eq_getD_getElem?, hx]
      simp [colAt, hx]
/-- .. or one of them ends -/
theorem draw_end (hh : A.handled = none) {f : Value → Option Fin × Array Value → Sem (ForInStep (Option Fin × Array Value))}
    (hf : ∀ (it : Value) (acc : Array Value) (s : Shared) (Q : ForInStep (Option Fin × Array Value) → Shared → Prop) (E : Value → Shared → Prop), wpAny (model prog w) A (Builtin.SmallTypes.nextOf it) (fun x s' => Q (.yield (none, acc.push x)) s') E s → wpAny (model prog w) A (f it (none, acc)) Q E s)
    (lo0 : Nat) (i : Nat) {Q : Option Fin × Array Value → Shared → Prop} : ∀ (r : List Src) (n : Nat) (acc : Array Value) (h : Heap) (tk : Nat), lo0 ≤ n → (∀ S ∈ r, S.a < lo0) → ItsAt h n r i → (∀ S ∈ r, i ≤ S.its.size) → (∃ S ∈ r, i = S.its.size) →
      (∀ h' tk' e, (∀ c o, (c < n ∨ n + r.length ≤ c) → h.get? c = some o → h'.get? c = some o) → (∃ o, h'.get? e = some o ∧ o.cls = .type "StopIteration") → E (.ref e) { s with heap := h', toks := tk' }) →
      wpAny (model prog w) A (forIn (itRefs n r) (none, acc) f) Q E { s with heap := h, toks := tk }
  | [], n, acc, h, tk, _, _, st, _, ⟨S, hS, _⟩, hq => by simp at hS
  | S :: r, n, acc, h, tk, hln, lo, st, hle, hex, hq => by
    simp only [itRefs, List.forIn_cons]
    obtain ⟨h1, h2⟩ := st 0 S rfl
    have hS : S.a < n := Nat.lt_of_lt_of_le (lo S (by simp)) hln
    have D := draws_of (prog := prog) (w := w) (A := A) S.kd hh n S.a (Nat.ne_of_lt hS) S.its
    by_cases hi : i = S.its.size
    · refine wpAny_bind (hf _ _ _ _ _ (D.done _ _ _ (hi ▸ ⟨by simpa using h1, h2⟩) fun h' e hs' he => ?_))
      exact hq h' tk e (fun c o hc q => hs' c o (show c ≠ n by rw [List.length_cons] at hc; omega) q) he
    · have hlt : i < S.its.size := Nat.lt_of_le_of_ne (hle S (by simp)) hi
      refine wpAny_bind (hf _ _ _ _ _ (D.item i _ _ _ hlt ⟨by simpa using h1, h2⟩ fun x h' tk' hx st' hs' => ?_))
      replace hs' : Heap.SameBut n h h' := hs'
      have keep : ∀ c o, c ≠ n → h.get? c = some o → h'.get? c = some o := fun c o hc e => hs'.extBut c o hc e
      have str : ItsAt h' (n + 1) r i := fun j T e => by
        obtain ⟨k1, k2⟩ := st (j + 1) T (by simpa using e)
        have hT : T.a < lo0 := lo T (by simp [List.mem_of_getElem? e])
        rw [show n + (j + 1) = n + 1 + j by omega] at k1
        exact ⟨k1.at fun o q => keep _ o (by omega) q, k2.at fun o q => keep _ o (by omega) q⟩
      obtain ⟨T, hT, hTi⟩ := hex
      have hTr : T ∈ r := by
        rcases List.mem_cons.mp hT with e | e
        · subst e; exact absurd hTi hi
        · exact e
      refine draw_end hh hf lo0 i r (n + 1) (acc.push x) h' tk' (by omega) (fun T hT => lo T (by simp [hT])) str (fun T hT => hle T (by simp [hT])) ⟨T, hTr, hTi⟩ fun h2 tk2 e kp2 he => ?_
      exact hq h2 tk2 e (fun c o hc q => kp2 c o (by rw [List.length_cons] at hc; omega) (keep c o (by rw [List.length_cons] at hc; omega) q)) he
end
end Dn

/-! W2: zip of any number of lists, tuples: the first item, the others, the end. -/
namespace Dn
open PySem PySem.Spec PyProof.Rows L2
open Evl (Ex fresh_back)
section
variable {prog : Program} {w : World} {A : Around} {E : Value → Shared → Prop} {s : Shared}
def IsTupA (h : Heap) (a : Addr) (vs : Array Value) : Prop := h.get? a = some { cls := .type "tuple", data := .seq vs }
/-- the first draws: into the tuple that zip keeps -/
theorem draw_loop0 (hh : A.handled = none) {TO : Nat} {f : Value × Nat → Option Fin × PUnit → Sem (ForInStep (Option Fin × PUnit))}
    (hf : ∀ (it : Value) (k : Nat) (vs : Array Value) (s : Shared) (Q : ForInStep (Option Fin × PUnit) → Shared → Prop) (E : Value → Shared → Prop), vs.size ≤ 1000 →
      (∀ E', wpAny (model prog w) A (Builtin.SmallTypes.nextOf it) (fun x s' => IsTupA s'.heap TO vs ∧ ∀ h', IsTupA h' TO (vs.setIfInBounds k x) → Heap.SameBut TO s'.heap h' → Q (.yield (none, ())) { s' with heap := h' }) E' s) → wpAny (model prog w) A (f (it, k) (none, ())) Q E s)
    (lo0 : Nat) (i : Nat) {Q : Option Fin × PUnit → Shared → Prop} : ∀ (r : List Src) (n k : Nat) (vs : Array Value) (h : Heap) (tk : Nat), lo0 ≤ n → (∀ S ∈ r, S.a < lo0) → n + r.length ≤ TO → ItsAt h n r i → (∀ S ∈ r, i < S.its.size) → IsTupA h TO vs → vs.size = k + r.length → vs.size ≤ 1000 →
      (∀ h' tk' vs', ItsAt h' n r (i + 1) → (∀ c o, (c < n ∨ n + r.length ≤ c) → c ≠ TO → h.get? c = some o → h'.get? c = some o) → h'.objs.size = h.objs.size → IsTupA h' TO vs' → vs'.toList = vs.toList.take k ++ colAt r i → Q (none, ()) { s with heap := h', toks := tk' }) →
      wpAny (model prog w) A (forIn ((itRefs n r).zipIdx k) (none, ()) f) Q E { s with heap := h, toks := tk }
  | [], n, k, vs, h, tk, _, _, _, st, _, hT, hv, _, hq => by
    simp only [itRefs, List.zipIdx_nil, List.forIn_nil]
    refine wpAny_pure (hq h tk vs (fun j S e => by simp at e) (fun _ _ _ _ e => e) rfl hT ?_)
    rw [List.take_of_length_le (by simpa using hv ▸ Nat.le_refl _)]
    simp [colAt]
  | S :: r, n, k, vs, h, tk, hln, lo, hTO, st, hlt, hT, hv, hv2, hq => by
    simp only [itRefs, List.zipIdx_cons, List.forIn_cons]
    obtain ⟨h1, h2⟩ := st 0 S rfl
    rw [List.length_cons] at hTO
    have hS : S.a < n := Nat.lt_of_lt_of_le (lo S (by simp)) hln
    have D := draws_of (prog := prog) (w := w) (A := A) S.kd hh n S.a (Nat.ne_of_lt hS) S.its
    refine wpAny_bind (hf _ k vs _ _ _ hv2 fun E' => D.item i _ _ _ (hlt S (by simp)) ⟨by simpa using h1, h2⟩ fun x h' tk' hx st' hs' => ?_)
    replace hs' : Heap.SameBut n h h' := hs'
    have keep : ∀ c o, c ≠ n → h.get? c = some o → h'.get? c = some o := fun c o hc e => hs'.extBut c o hc e
    refine ⟨keep TO _ (by omega) hT, fun h3 hT3 hs3 => ?_⟩
    replace hs3 : Heap.SameBut TO h' h3 := hs3
    have keep3 : ∀ c o, c ≠ TO → h'.get? c = some o → h3.get? c = some o := fun c o hc e => hs3.extBut c o hc e
    have str : ItsAt h3 (n + 1) r i := fun j T e => by
      obtain ⟨k1, k2⟩ := st (j + 1) T (by simpa using e)
      have hT : T.a < lo0 := lo T (by simp [List.mem_of_getElem? e])
      have hj : j < r.length := (List.getElem?_eq_some_iff.mp e).1
      rw [show n + (j + 1) = n + 1 + j by omega] at k1
      exact ⟨k1.at fun o q => keep3 _ o (by omega) (keep _ o (by omega) q), k2.at fun o q => keep3 _ o (show T.a ≠ TO by omega) (keep _ o (show T.a ≠ n by omega) q)⟩
    refine draw_loop0 hh hf lo0 i r (n + 1) (k + 1) (vs.setIfInBounds k x) h3 tk' (by omega) (fun T hT => lo T (by simp [hT])) (by omega) str (fun T hT => hlt T (by simp [hT])) hT3 (by rw [Array.size_setIfInBounds, hv, List.length_cons]; omega) (by rw [Array.size_setIfInBounds]; exact hv2) fun h2 tk2 vs2 st2 kp2 sz2 hT2 ha2 => ?_
    have kpn : ∀ c o, c < n + 1 → c ≠ TO → h'.get? c = some o → h2.get? c = some o := fun c o hc hcT e => kp2 c o (.inl hc) hcT (keep3 c o hcT e)
    refine hq h2 tk2 vs2 (fun j T e => ?_) (fun c o hc hcT e => kp2 c o (by rw [List.length_cons] at hc; omega) hcT (keep3 c o hcT (keep c o (by rw [List.length_cons] at hc; omega) e))) (by rw [sz2, hs3.1]; exact hs'.1) hT2 ?_
    · cases j with
      | zero =>
        simp at e
        subst e
        exact ⟨by simpa using st'.1.at fun o q => kpn n o (by omega) (by omega) q, st'.2.at fun o q => kpn _ o (show S.a < n + 1 by omega) (show S.a ≠ TO by omega) q⟩
      | succ j =>
        obtain ⟨k1, k2⟩ := st2 j T (by simpa using e)
        rw [show n + (j + 1) = n + 1 + j by omega]
        exact ⟨k1, k2⟩
    · have hk : k < vs.size := by rw [hv, List.length_cons]; omega
      rw [ha2]
      have e1 : (vs.setIfInBounds k x).toList.take (k + 1) = vs.toList.take k ++ [x] := by
        rw [Array.toList_setIfInBounds]
        rw [List.take_succ, List.take_set_of_le (Nat.le_refl k)]
        rw [List.getElem?_set_self (by simpa using hk)]
        rfl
      rw [e1]
      simp [colAt, hx]
end
end Dn

/-! W3: zip of any number of lists, tuples: next. -/
namespace Dn
open PySem PySem.Spec PyProof.Rows L2
open Evl (Ex fresh_back)
section
variable {prog : Program} {w : World} {A : Around} {E : Value → Shared → Prop} {s : Shared}
/-- a zip at work: its cells from N on; i items given out -/
structure ZAt (h : Heap) (N : Nat) (r : List Src) (i : Nat) : Prop where
  z : (i = 0 ∧ IsZip h (N + r.length + 2) (N + r.length) (N + r.length + 1) .none) ∨ ∃ (T : Nat) (f : Bool) (oT : Obj), IsZipHeld h (N + r.length + 2) (N + r.length) (N + r.length + 1) T f ∧ h.get? T = some oT ∧ N + r.length + 2 < T
  ti : IsTupA h (N + r.length) (itRefs N r).toArray
  to : ∃ vs, IsTupA h (N + r.length + 1) vs ∧ vs.size = r.length
  its : ItsAt h N r i
theorem ZAt.at {h h' : Heap} {N : Nat} {r : List Src} {i : Nat} (x : ZAt h N r i) (lo : ∀ S ∈ r, S.a < N) (k : ∀ (c : Nat) o, c < N + r.length + 3 → h.get? c = some o → h'.get? c = some o) (kT : ∀ (T : Nat) oT, N + r.length + 2 < T → h.get? T = some oT → ∃ o, h'.get? T = some o) : ZAt h' N r i where
  z := by
    rcases x.z with ⟨h0, hz⟩ | ⟨T, f, oT, hz, hT, hN⟩
    · exact .inl ⟨h0, k _ _ (by omega) hz⟩
    · obtain ⟨o, ho⟩ := kT T oT hN hT
      exact .inr ⟨T, f, o, k _ _ (by omega) hz, ho, hN⟩
  ti := k _ _ (by omega) x.ti
  to := let ⟨vs, h1, h2⟩ := x.to; ⟨vs, k _ _ (by omega) h1, h2⟩
  its := x.its.at lo fun c o hc e => k c o (by omega) e
theorem itRefs_ne {r : List Src} {n : Nat} (h : r ≠ []) : (itRefs n r).toArray.isEmpty = false := by
  cases r with
  | nil => exact absurd rfl h
  | cons S r => simp [itRefs]
/-- the i-th item -/
theorem zipN_next_item {N : Nat} {r : List Src} {i : Nat} {Q : Value → Shared → Prop} (hh : A.handled = none) (hr : r ≠ []) (hl : r.length ≤ 1000) (lo : ∀ S ∈ r, S.a < N) (st : ZAt s.heap N r i) (hlt : ∀ S ∈ r, i < S.its.size)
    (hQ : ∀ h' tk' (T : Nat), ZAt h' N r (i + 1) → s.heap.objs.size ≤ T → IsTupA h' T (colAt r i).toArray → (∀ (c : Nat) o, (c < N ∨ N + r.length + 2 < c) → s.heap.get? c = some o → h'.get? c = some o) → Q (.ref T) { s with heap := h', toks := tk' }) :
    wpAny (model prog w) A (Builtin.«zip.__next__» ⟨[.ref (N + r.length + 2)], []⟩) (fun fin s' => ∃ v, fin = .done (.ret v) ∧ Q v s') E s := by
  obtain ⟨hp, g, d, tk, os⟩ := s
  have hsz : sizeLine = 16777216 := sizeLine_eq
  have hcl : (colAt r i).length = r.length := by simp [colAt]
  rcases st.z with ⟨h0, hz⟩ | ⟨T, f, oT, hz, hT, hNT⟩
  · show wpAny _ _ (field (.ref (N + r.length + 2)) 2 >>= _) _ _ _
    refine wpAny_bind (wpAny_field hz rfl (x := .bool false) rfl ?_)
    show wpAny _ _ (field (.ref (N + r.length + 2)) 3 >>= _) _ _ _
    refine wpAny_bind (wpAny_field hz rfl (x := .ref (N + r.length)) rfl ?_)
    refine wpAny_bind (wpAny_seqItems st.ti rfl ?_)
    simp only [itRefs_ne hr, Bool.false_eq_true, if_false]
    show wpAny _ _ (Builtin.SmallTypes.ownedTupleIsFree (.ref (N + r.length + 2)) >>= _) _ _ _
    refine wpAny_bind ?_
    unfold Builtin.SmallTypes.ownedTupleIsFree
    refine wpAny_bind (wpAny_field hz rfl (x := .none) rfl (wpAny_pure ?_))
    simp only [if_true]
    refine wpAny_bind (wpAny_rule ?_)
    refine wpAny_bind (wpAny_field hz rfl (x := .ref (N + r.length + 1)) rfl ?_)
    refine wpAny_bind (wpAny_setField_rec hz (by simp) fun g0 hz0 hs0 => ?_)
    replace hz0 : IsZip g0 (N + r.length + 2) (N + r.length) (N + r.length + 1) .ellipsis := hz0
    replace hs0 : Heap.SameBut (N + r.length + 2) hp g0 := hs0
    have k0 : ∀ (c : Nat) o, c ≠ N + r.length + 2 → hp.get? c = some o → g0.get? c = some o := fun c o hc e => hs0.extBut c o hc e
    obtain ⟨vs, hvs, hvl⟩ := st.to
    refine wpAny_bind ?_
    refine draw_loop0 (A := A) (s := ⟨g0, g, d, tk, os⟩) hh (TO := N + r.length + 1) (fun it k vs s Q E hvl hw => ?_) N i r N 0 vs g0 tk (Nat.le_refl _) lo (by omega) (st.its.at lo fun c o hc e => k0 c o (by omega) e) hlt (k0 _ _ (by omega) hvs) (by omega) (by omega) fun h' tk' vs' st' kp' sz' hT' ha' => ?_
    · refine wpAny_bind (wpAny_onRaise ?_)
      show wpAny _ _ (Builtin.SmallTypes.nextOf it >>= _) _ _ _
      refine wpAny_bind (wpAny_mono (hw _) (fun x s' hx => wpAny_pure ?_) fun _ _ z => z)
      obtain ⟨hU, hx⟩ := hx
      refine wpAny_bind (wpAny_seqItems (s := s') hU rfl ?_)
      refine wpAny_bind (wpAny_updateSeq hU rfl ?_ (by omega) (by rw [Array.size_setIfInBounds]; omega))
      refine wpAny_bind (wpAny_letGo (wpAny_pure ?_))
      refine hx _ ?_ (Heap.SameBut.update ..)
      show Heap.get? _ _ = _
      rw [Heap.get?_update_self _ hU rfl]
      simp [Obj.mapSeq]
    · refine wpAny_bind (wpAny_seqItems (s := ⟨h', g, d, tk', os⟩) hT' rfl ?_)
      have ha' : vs'.toList = colAt r i := by simpa using ha'
      have hvs' : vs' = (colAt r i).toArray := by rw [← ha']
      subst hvs'
      refine wpAny_bind (wpAny_newTuple ?_ (by rw [List.toList_toArray, hcl]; omega))
      rw [List.toList_toArray]
      have hz1 : IsZip h' (N + r.length + 2) (N + r.length) (N + r.length + 1) .ellipsis := kp' _ _ (by omega) (by omega) hz0
      have hz2 : IsZip (h'.push { cls := .type "tuple", data := .seq (colAt r i).toArray }) (N + r.length + 2) (N + r.length) (N + r.length + 1) .ellipsis := Heap.get?_push_of_some _ hz1
      have hzlt : N + r.length + 2 < h'.objs.size := Heap.lt_size hz1
      have hszh : h'.objs.size = hp.objs.size := by rw [sz']; exact hs0.1
      show wpAny _ _ (Builtin.SmallTypes.ownedTupleHandOut (.ref (N + r.length + 2)) (.ref h'.objs.size) >>= _) _ _ ⟨h'.push { cls := .type "tuple", data := .seq (colAt r i).toArray }, g, d, tk', os⟩
      refine wpAny_bind ?_
      unfold Builtin.SmallTypes.ownedTupleHandOut
      refine wpAny_bind (wpAny_setField_rec hz2 (by simp) fun h₇ hz₇ hs₇ => ?_)
      replace hz₇ : IsZip h₇ (N + r.length + 2) (N + r.length) (N + r.length + 1) (rawInt h'.objs.size) := hz₇
      refine wpAny_setField_rec hz₇ (by simp) fun h₈ hz₈ hs₈ => ?_
      replace hz₈ : IsZipHeld h₈ (N + r.length + 2) (N + r.length) (N + r.length + 1) h'.objs.size false := hz₈
      replace hs₇ : Heap.SameBut (N + r.length + 2) (h'.push { cls := .type "tuple", data := .seq (colAt r i).toArray }) h₇ := hs₇
      replace hs₈ : Heap.SameBut (N + r.length + 2) h₇ h₈ := hs₈
      have up : ∀ (c : Nat) o, c ≠ N + r.length + 2 → (h'.push { cls := .type "tuple", data := .seq (colAt r i).toArray }).get? c = some o → h₈.get? c = some o := fun c o c1 e => hs₈.extBut _ _ c1 (hs₇.extBut _ _ c1 e)
      have hT8 : IsTupA h₈ h'.objs.size (colAt r i).toArray := up _ _ (by omega) (Heap.get?_push_size _ rfl)
      refine wpAny_pure ⟨_, rfl, hQ h₈ tk' h'.objs.size ⟨.inr ⟨h'.objs.size, false, _, hz₈, hT8, hzlt⟩, ?_, ⟨_, up _ _ (by omega) (Heap.get?_push_of_some _ hT'), by simp [hcl]⟩, ?_⟩ (by show hp.objs.size ≤ _; omega) hT8 fun c o hc e => ?_⟩
      · exact up _ _ (by omega) (Heap.get?_push_of_some _ (kp' _ _ (by omega) (by omega) (k0 _ _ (by omega) st.ti)))
      · exact st'.at lo fun c o hc e => up c o (by omega) (Heap.get?_push_of_some _ e)
      · exact up c o (by omega) (Heap.get?_push_of_some _ (kp' c o (by omega) (by omega) (k0 c o (by omega) e)))
  · show wpAny _ _ (field (.ref (N + r.length + 2)) 2 >>= _) _ _ _
    refine wpAny_bind (wpAny_field hz rfl (x := .bool false) rfl ?_)
    show wpAny _ _ (field (.ref (N + r.length + 2)) 3 >>= _) _ _ _
    refine wpAny_bind (wpAny_field hz rfl (x := .ref (N + r.length)) rfl ?_)
    refine wpAny_bind (wpAny_seqItems st.ti rfl ?_)
    simp only [itRefs_ne hr, Bool.false_eq_true, if_false]
    show wpAny _ _ (Builtin.SmallTypes.ownedTupleIsFree (.ref (N + r.length + 2)) >>= _) _ _ _
    refine wpAny_bind (wpAny_tupleHeld_zip hz hT fun g0 hz0 hs0 => ?_)
    replace hs0 : Heap.SameBut (N + r.length + 2) hp g0 := hs0
    have k0 : ∀ (c : Nat) o, c ≠ N + r.length + 2 → hp.get? c = some o → g0.get? c = some o := fun c o hc e => hs0.extBut c o hc e
    simp only [Bool.false_eq_true, if_false]
    refine wpAny_bind ?_
    rw [← Array.forIn_toList, List.toList_toArray]
    refine draw_loop (A := A) (s := ⟨g0, g, d, tk, os⟩) hh (fun it acc s Q E hw => ?_) N i r N #[] g0 tk (Nat.le_refl _) lo (st.its.at lo fun c o hc e => k0 c o (by omega) e) hlt fun h' tk' acc' st' kp' sz' ha' => ?_
    · refine wpAny_bind (wpAny_holding ?_)
      show wpAny _ _ (Builtin.SmallTypes.nextOf it >>= _) _ _ _
      exact wpAny_bind (wpAny_mono hw (fun x s' hx => wpAny_pure (wpAny_pure hx)) fun _ _ z => z)
    · have ha' : acc'.toList = colAt r i := by simpa using ha'
      rw [ha']
      refine wpAny_bind (wpAny_newTuple ?_ (by rw [hcl]; omega))
      have hz1 : IsZipHeld h' (N + r.length + 2) (N + r.length) (N + r.length + 1) T true := kp' _ _ (by omega) hz0
      have hzlt : N + r.length + 2 < h'.objs.size := Heap.lt_size hz1
      have hszh : h'.objs.size = hp.objs.size := by rw [sz']; exact hs0.1
      have up : ∀ (c : Nat) o, h'.get? c = some o → (h'.push { cls := .type "tuple", data := .seq (colAt r i).toArray }).get? c = some o := fun c o e => Heap.get?_push_of_some _ e
      obtain ⟨vs, hvs, hvl⟩ := st.to
      refine wpAny_pure ⟨_, rfl, hQ _ tk' h'.objs.size ⟨.inr ⟨T, true, oT, up _ _ hz1, up _ _ (kp' _ _ (by omega) (k0 _ _ (by omega) hT)), hNT⟩, up _ _ (kp' _ _ (by omega) (k0 _ _ (by omega) st.ti)), ⟨vs, up _ _ (kp' _ _ (by omega) (k0 _ _ (by omega) hvs)), hvl⟩, st'.at lo fun c o hc e => up c o e⟩ (by show hp.objs.size ≤ _; omega) (Heap.get?_push_size _ rfl) fun c o hc e => up c o (kp' c o (by omega) (k0 c o (by omega) e))⟩
/-- the end, behind an item -/
theorem zipN_next_end {N : Nat} {r : List Src} {i : Nat} {Q : Fin → Shared → Prop} (hh : A.handled = none) (hr : r ≠ []) (lo : ∀ S ∈ r, S.a < N) (st : ZAt s.heap N r i) (hi : 0 < i) (hle : ∀ S ∈ r, i ≤ S.its.size) (hex : ∃ S ∈ r, i = S.its.size)
    (hE : ∀ h' tk' e, (∀ (c : Nat) o, (c < N ∨ N + r.length + 2 < c) → s.heap.get? c = some o → h'.get? c = some o) → (∃ o, h'.get? e = some o ∧ o.cls = .type "StopIteration") → E (.ref e) { s with heap := h', toks := tk' }) :
    wpAny (model prog w) A (Builtin.«zip.__next__» ⟨[.ref (N + r.length + 2)], []⟩) Q E s := by
  obtain ⟨hp, g, d, tk, os⟩ := s
  rcases st.z with ⟨h0, hz⟩ | ⟨T, f, oT, hz, hT, hNT⟩
  · omega
  · show wpAny _ _ (field (.ref (N + r.length + 2)) 2 >>= _) _ _ _
    refine wpAny_bind (wpAny_field hz rfl (x := .bool false) rfl ?_)
    show wpAny _ _ (field (.ref (N + r.length + 2)) 3 >>= _) _ _ _
    refine wpAny_bind (wpAny_field hz rfl (x := .ref (N + r.length)) rfl ?_)
    refine wpAny_bind (wpAny_seqItems st.ti rfl ?_)
    simp only [itRefs_ne hr, Bool.false_eq_true, if_false]
    show wpAny _ _ (Builtin.SmallTypes.ownedTupleIsFree (.ref (N + r.length + 2)) >>= _) _ _ _
    refine wpAny_bind (wpAny_tupleHeld_zip hz hT fun g0 hz0 hs0 => ?_)
    replace hs0 : Heap.SameBut (N + r.length + 2) hp g0 := hs0
    have k0 : ∀ (c : Nat) o, c ≠ N + r.length + 2 → hp.get? c = some o → g0.get? c = some o := fun c o hc e => hs0.extBut c o hc e
    simp only [Bool.false_eq_true, if_false]
    refine wpAny_bind ?_
    rw [← Array.forIn_toList, List.toList_toArray]
    refine draw_end (A := A) (s := ⟨g0, g, d, tk, os⟩) hh (fun it acc s Q E hw => ?_) N i r N #[] g0 tk (Nat.le_refl _) lo (st.its.at lo fun c o hc e => k0 c o (by omega) e) hle hex fun h' tk' e kp' he => ?_
    · refine wpAny_bind (wpAny_holding ?_)
      show wpAny _ _ (Builtin.SmallTypes.nextOf it >>= _) _ _ _
      exact wpAny_bind (wpAny_mono hw (fun x s' hx => wpAny_pure (wpAny_pure hx)) fun _ _ z => z)
    · exact hE h' tk' e (fun c o hc q => kp' c o (by omega) (k0 c o (by omega) q)) he
theorem zipN_pyNext_item {N : Nat} {r : List Src} {i : Nat} {Q : Option Value → Shared → Prop} (hh : A.handled = none) (hr : r ≠ []) (hl : r.length ≤ 1000) (lo : ∀ S ∈ r, S.a < N) (st : ZAt s.heap N r i) (hlt : ∀ S ∈ r, i < S.its.size)
    (hQ : ∀ h' tk' (T : Nat), ZAt h' N r (i + 1) → s.heap.objs.size ≤ T → IsTupA h' T (colAt r i).toArray → (∀ (c : Nat) o, (c < N ∨ N + r.length + 2 < c) → s.heap.get? c = some o → h'.get? c = some o) → Q (some (.ref T)) { s with heap := h', toks := tk' }) :
    wpAny (model prog w) A (pyNext (.ref (N + r.length + 2))) Q E s := by
  have hTy : s.TypeIs (.ref (N + r.length + 2)) "zip" := by
    rcases st.z with ⟨_, hz⟩ | ⟨_, _, _, hz, _⟩ <;> exact ⟨_, hz, rfl⟩
  unfold pyNext
  exact wpAny_bind (wpAny_attempt (wpAny_callSpecial?_slot (name := Str.ofString "__next__") hTy F.slot_zip_next
    (wpAny_call_entry F.slot_zip_next hTy F.entry_zip_next
      (zipN_next_item hh hr hl lo st hlt fun h' tk' T a1 a2 a3 a4 => wpAny_pure (hQ h' tk' T a1 a2 a3 a4)) (F.args_zip_next_1 _))))
theorem zipN_pyNext_end {N : Nat} {r : List Src} {i : Nat} {Q : Option Value → Shared → Prop} (hh : A.handled = none) (hr : r ≠ []) (lo : ∀ S ∈ r, S.a < N) (st : ZAt s.heap N r i) (hi : 0 < i) (hle : ∀ S ∈ r, i ≤ S.its.size) (hex : ∃ S ∈ r, i = S.its.size)
    (hQ : ∀ h' tk', (∀ (c : Nat) o, (c < N ∨ N + r.length + 2 < c) → s.heap.get? c = some o → h'.get? c = some o) → Q none { s with heap := h', toks := tk' }) :
    wpAny (model prog w) A (pyNext (.ref (N + r.length + 2))) Q E s := by
  have hTy : s.TypeIs (.ref (N + r.length + 2)) "zip" := by
    rcases st.z with ⟨_, hz⟩ | ⟨_, _, _, hz, _⟩ <;> exact ⟨_, hz, rfl⟩
  unfold pyNext
  refine wpAny_bind (wpAny_attempt (wpAny_callSpecial?_slot (name := Str.ofString "__next__") hTy F.slot_zip_next
    (wpAny_call_entry F.slot_zip_next hTy F.entry_zip_next (zipN_next_end hh hr lo st hi hle hex fun h' tk' e hk he => ?_) (F.args_zip_next_1 _))))
  obtain ⟨o, ho, hc⟩ := he
  refine wpAny_bind (wpAny_isInstance (T := "StopIteration") (b := true) ⟨o, ho, hc⟩ isSubtype_stop ?_)
  exact wpAny_pure (hQ _ _ hk)
end
end Dn

/-! W4: list(of an iterator), in general. -/
namespace Dn
open PySem PySem.Spec PyProof.Rows L2
open Evl (Ex fresh_back)

theorem zip_no_len : typeLookup (.type "zip") "__len__" = pure none := am_miss_of_fast (by decide +kernel)
theorem zip_no_hint : typeLookup (.type "zip") "__length_hint__" = pure none := am_miss_of_fast (by decide +kernel)
section
variable {prog : Program} {w : World} {A : Around} {s : Shared} {R : Result → Shared → Prop}
/-- an iterator that gives n items: where it stands is told by St, with what it gave -/
structure Drw (prog : Program) (w : World) (A : Around) (s : Shared) (S I : Addr) (n : Nat) (St : Nat → Heap → List Value → Prop) (Fn : Heap → List Value → Prop) : Prop where
  keep : ∀ i h h' acc, St i h acc → (∀ b o, b ≠ S → h.get? b = some o → h'.get? b = some o) → (∀ o, h.get? S = some o → ∃ o', h'.get? S = some o') → St i h' acc
  item : ∀ (i : Nat) (h : Heap) (tk : Nat) (acc : List Value) (oS : Obj) (Q : Option Value → Shared → Prop) (E : Value → Shared → Prop), i < n → St i h acc → h.get? S = some oS →
    (∀ v h' tk', St (i + 1) h' (acc ++ [v]) → h'.get? S = some oS → Q (some v) { s with heap := h', toks := tk' }) → wpAny (model prog w) A (pyNext (.ref I)) Q E { s with heap := h, toks := tk }
  done : ∀ (h : Heap) (tk : Nat) (acc : List Value) (oS : Obj) (Q : Option Value → Shared → Prop) (E : Value → Shared → Prop), St n h acc → h.get? S = some oS →
    (∀ h' tk', Fn h' acc → h'.get? S = some oS → Q none { s with heap := h', toks := tk' }) → wpAny (model prog w) A (pyNext (.ref I)) Q E { s with heap := h, toks := tk }
theorem drw_loop {S I : Addr} {n : Nat} {St : Nat → Heap → List Value → Prop} {Fn : Heap → List Value → Prop} (D : Drw prog w A.in1 s S I n St Fn) (hn : n ≤ sizeLine) (res : Value)
    (hR : ∀ h' tk acc c, Fn h' acc → acc.length = n → h'.get? S = some { cls := .type "list", dict := none, data := .seq acc.toArray c, slots := #[] } → R (.ok (.ret res)) { s with heap := h', toks := tk }) :
    ∀ (k i : Nat) (h : Heap) (tk c : Nat) (acc : List Value), n - i = k → i ≤ n → St i h acc → acc.length = i → h.get? S = some { cls := .type "list", dict := none, data := .seq acc.toArray c, slots := #[] } →
      codeAny (model prog w) A (.builtin "list.extend.loop" ⟨[.ref S, .ref I, res], []⟩) R { s with heap := h, toks := tk } := by
  intro k
  induction k with
  | zero =>
    intro i h tk c acc hk hi st hl hS
    have hin : i = n := by omega
    subst hin
    refine codeAny_builtin PySem.F.entry_extend_loop ?_
    rw [Around.under_plainId PySem.F.plain_extend_loop _]
    show wpAny _ A.in1 (pyNext (.ref I) >>= _) _ _ _
    refine wpAny_bind (D.done h tk acc _ _ _ st hS fun h' tk' st' hS' => ?_)
    exact wpAny_pure (hR h' tk' acc c st' hl hS')
  | succ k ih =>
    intro i h tk c acc hk hi st hl hS
    refine codeAny_builtin PySem.F.entry_extend_loop ?_
    rw [Around.under_plainId PySem.F.plain_extend_loop _]
    show wpAny _ A.in1 (pyNext (.ref I) >>= _) _ _ _
    refine wpAny_bind (D.item i h tk acc _ _ _ (by omega) st hS fun v h' tk' st' hS' => ?_)
    dsimp only
    show wpAny _ A.in1 (updateSeq S (·.push v) >>= _) _ _ _
    refine wpAny_bind ?_
    have eS := Heap.get?_update_self (Obj.mapSeq (·.push v)) hS' rfl
    simp only [Obj.mapSeq, List.push_toArray] at eS
    refine wpAny_updateSeq hS' rfl (wpAny_pure ⟨plainId_quiet PySem.F.plain_extend_loop _, ih (i + 1) _ _ _ (acc ++ [v]) (by omega) (by omega) (D.keep _ _ _ _ st' (fun b o hb e => (Heap.get?_update_other _ _ (Ne.symm hb)).trans e) fun o e => ⟨_, eS⟩) (by rw [List.length_append, hl]; rfl) eS⟩) (by rw [List.size_toArray]; omega) (by show (acc.toArray.push v).size ≤ _; rw [Array.size_push, List.size_toArray]; omega)
theorem drw_hint {E : Value → Shared → Prop} {r : Addr} {T : String} (hT : s.TypeIs (.ref r) T) (h1 : typeLookup (.type T) "__len__" = pure none) (h2 : typeLookup (.type T) "__length_hint__" = pure none) {Q : Bool → Shared → Prop} (h : Q true s) :
    wpAny (model prog w) A (Builtin.List.listLengthHint (.ref r)) Q E s := by
  unfold Builtin.List.listLengthHint
  refine wpAny_bind (wpAny_specialOf hT h1 ?_)
  refine wpAny_bind (wpAny_specialOf hT h2 ?_)
  exact wpAny_pure h
theorem drw_extend {S I : Addr} {T : String} {n : Nat} {St : Nat → Heap → List Value → Prop} {Fn : Heap → List Value → Prop} (hT : s.TypeIs (.ref I) T) (hSI : S ≠ I) (h1 : typeLookup (.type T) "__len__" = pure none) (h2 : typeLookup (.type T) "__length_hint__" = pure none)
    (t1 : (Value.type T == Value.type "list") = false) (t2 : (Value.type T == Value.type "tuple") = false) (hself : ∀ (Q : Value → Shared → Prop) (E : Value → Shared → Prop), Q (.ref I) s → wpAny (model prog w) A.in1 (pyIter (.ref I)) Q E s)
    (D : Drw prog w A.in1 s S I n St Fn) (hn : n ≤ sizeLine) (st : St 0 s.heap []) (res : Value) (c₀ : Nat) (hS : s.heap.get? S = some { cls := .type "list", data := .seq #[] c₀ })
    (hR : ∀ h' tk acc c, Fn h' acc → acc.length = n → h'.get? S = some { cls := .type "list", dict := none, data := .seq acc.toArray c, slots := #[] } → R (.ok (.ret res)) { s with heap := h', toks := tk }) :
    wpAny (model prog w) A.in1 (Builtin.List.listExtendWith (.ref S) (.ref I) res)
      (fun fin s' => match fin with | .done f => R (.ok f) s' | .again c' => c'.quiet = true ∧ codeAny (model prog w) A c' R s') (fun e s' => R (.error e) s') s := by
  have key : ∀ (h : Heap) (c₁ tk : Nat), (∀ b o, b ≠ S → s.heap.get? b = some o → h.get? b = some o) →
      h.get? S = some { cls := .type "list", data := .seq #[] c₁ } → codeAny (model prog w) A (.builtin "list.extend.loop" ⟨[.ref S, .ref I, res], []⟩) R { s with heap := h, toks := tk } := fun h c₁ tk hk hS₁ =>
    drw_loop D hn res hR n 0 h tk c₁ [] (Nat.sub_zero _) (Nat.zero_le _) (D.keep _ _ _ _ st hk fun o e => ⟨_, hS₁⟩) rfl hS₁
  unfold Builtin.List.listExtendWith
  refine wpAny_bind (wpAny_typeOf (T := T) hT ?_)
  have h0 : Builtin.List.listSameRef (.ref S) (.ref I) = false := by simp [Builtin.List.listSameRef, hSI]
  simp only [h0, t1, t2, Bool.or_false, Bool.false_eq_true, if_false]
  refine wpAny_bind (hself _ _ ?_)
  refine wpAny_bind (wpAny_holding (drw_hint hT h1 h2 ?_))
  simp only [Bool.true_or, if_true]
  refine wpAny_bind (wpAny_rule ?_)
  refine wpAny_bind ?_
  show wpAny _ _ (updateSeq S (·.push .none) >>= fun _ => updateSeq S (·.pop)) _ _ _
  refine wpAny_bind (wpAny_updateSeq hS rfl ?_)
  have hS₂ := Heap.get?_update_self (Obj.mapSeq (·.push Value.none)) hS rfl
  refine wpAny_updateSeq (hz := by seq_fits) hS₂ rfl ?_
  have hS₃ := Heap.get?_update_self (Obj.mapSeq (·.pop)) hS₂ rfl
  refine wpAny_pure ⟨plainId_quiet PySem.F.plain_extend_loop _, key _ _ _ (fun b o hb e => ?_) hS₃⟩
  exact (Heap.get?_update_other _ _ (Ne.symm hb)).trans ((Heap.get?_update_other _ _ (Ne.symm hb)).trans e)
theorem drw_init {S I : Addr} {T : String} {n : Nat} {St : Nat → Heap → List Value → Prop} {Fn : Heap → List Value → Prop} (hT : s.TypeIs (.ref I) T) (hSI : S ≠ I) (h1 : typeLookup (.type T) "__len__" = pure none) (h2 : typeLookup (.type T) "__length_hint__" = pure none)
    (t1 : (Value.type T == Value.type "list") = false) (t2 : (Value.type T == Value.type "tuple") = false)
    (hself : ∀ (h' : Heap) (Q : Value → Shared → Prop) (E : Value → Shared → Prop), (∀ b o, b ≠ S → s.heap.get? b = some o → h'.get? b = some o) → Q (.ref I) { s with heap := h' } → wpAny (model prog w) A.in1 (pyIter (.ref I)) Q E { s with heap := h' })
    (D : Drw prog w A.in1 s S I n St Fn) (hn : n ≤ sizeLine) (st : St 0 s.heap []) (hS : s.heap.get? S = some { cls := .type "list", data := .seq #[] })
    (hR : ∀ h' tk acc c, Fn h' acc → acc.length = n → h'.get? S = some { cls := .type "list", dict := none, data := .seq acc.toArray c, slots := #[] } → R (.ok (.ret .none)) { s with heap := h', toks := tk }) :
    wpAny (model prog w) A.in1 (Builtin.«list.__init__» ⟨[.ref S, .ref I], []⟩)
      (fun fin s' => match fin with | .done f => R (.ok f) s' | .again c' => c'.quiet = true ∧ codeAny (model prog w) A c' R s') (fun e s' => R (.error e) s') s := by
  show wpAny _ _ (do let old ← Builtin.List.listItems (.ref S); Builtin.List.listUpdate (.ref S) (fun _ => #[]); letGo old.toList.reverse; Builtin.List.listExtendWith (.ref S) (.ref I) .none) _ _ s
  refine wpAny_bind ?_
  unfold Builtin.List.listItems
  refine wpAny_bind (wpAny_seqItems hS rfl (wpAny_pure ?_))
  show wpAny _ _ (updateSeq S (fun _ => #[]) >>= fun _ => letGo (#[] : Array Value).toList.reverse >>= fun _ => Builtin.List.listExtendWith (.ref S) (.ref I) .none) _ _ s
  refine wpAny_bind (wpAny_updateSeq hS rfl ?_)
  have hS₂ := Heap.get?_update_self (Obj.mapSeq (fun _ => (#[] : Array Value))) hS rfl
  have oth : ∀ b o, b ≠ S → s.heap.get? b = some o → (s.heap.update S (Obj.mapSeq (fun _ => (#[] : Array Value)))).get? b = some o :=
    fun b o hb e => (Heap.get?_update_other _ _ (Ne.symm hb)).trans e
  refine wpAny_bind (wpAny_letGo ?_)
  refine drw_extend (T := T) (s := { s with heap := s.heap.update S (Obj.mapSeq (fun _ => (#[] : Array Value))) }) (let ⟨o, ho, x⟩ := hT; ⟨o, oth I o hSI.symm ho, x⟩) hSI h1 h2 t1 t2 (fun Q E q => hself _ Q E oth q) ⟨D.keep, D.item, D.done⟩ hn (D.keep _ _ _ _ st oth fun o e => ⟨_, hS₂⟩) .none _ hS₂ hR
theorem drw_call {E : Value → Shared → Prop} {I : Addr} {T : String} {n : Nat} {St : Nat → Heap → List Value → Prop} {Fn : Heap → List Value → Prop} {Q : Value → Shared → Prop} (hT : s.TypeIs (.ref I) T) (h1 : typeLookup (.type T) "__len__" = pure none) (h2 : typeLookup (.type T) "__length_hint__" = pure none)
    (t1 : (Value.type T == Value.type "list") = false) (t2 : (Value.type T == Value.type "tuple") = false)
    (hself : ∀ (A' : Around) (h' : Heap) (Q : Value → Shared → Prop) (E : Value → Shared → Prop), (∀ b o, s.heap.get? b = some o → h'.get? b = some o) → Q (.ref I) { s with heap := h' } → wpAny (model prog w) A' (pyIter (.ref I)) Q E { s with heap := h' })
    (D : Drw prog w A.in1.in1 s s.heap.objs.size I n St Fn) (hn : n ≤ sizeLine) (st : St 0 s.heap [])
    (hQ : ∀ h' tk acc c, Fn h' acc → acc.length = n → h'.get? s.heap.objs.size = some { cls := .type "list", dict := none, data := .seq acc.toArray c, slots := #[] } → Q (.ref s.heap.objs.size) { s with heap := h', toks := tk }) :
    wpAny (model prog w) A (call (.type "list") [.ref I]) Q E s := by
  refine callType_codes (Q₁ := fun obj s₁ => obj = .ref s.heap.objs.size ∧ s₁ = { s with heap := s.heap.push { cls := .type "list", data := .seq #[] } }) PySem.F.called_list (PySem.F.typeCall_list_1 _) PySem.F.entry_list_init
    (code_list_new _ ⟨rfl, rfl⟩) fun obj s₁ h₁ => ?_
  obtain ⟨rfl, rfl⟩ := h₁
  have hS : (s.heap.push { cls := .type "list", data := .seq #[] }).get? s.heap.objs.size = some { cls := .type "list", data := .seq #[] } := Heap.get?_push_size _ rfl
  have hI : I < s.heap.objs.size := let ⟨_, ho, _⟩ := hT; Heap.lt_size ho
  have up : ∀ b o, s.heap.get? b = some o → (s.heap.push { cls := .type "list", data := .seq #[] }).get? b = some o := fun b o e => Heap.get?_push_of_some _ e
  refine ⟨⟨_, hS, rfl⟩, PySem.F.args_list_init_2 _ _, drw_init (A := A.in1) (T := T) (s := { s with heap := s.heap.push { cls := .type "list", data := .seq #[] } }) (let ⟨o, ho, x⟩ := hT; ⟨o, up _ _ ho, x⟩) (Nat.ne_of_gt hI) h1 h2 t1 t2
    (fun h' Q E hk q => hself _ h' Q E (fun b o e => hk b o (Nat.ne_of_lt (Heap.lt_size e)) (up b o e)) q) ⟨D.keep, D.item, D.done⟩ hn (D.keep _ _ _ _ st (fun b o _ e => up b o e) fun o e => ⟨_, hS⟩) hS (fun h' tk acc c st' hl hS' => ?_)⟩
  exact ⟨rfl, hQ h' tk acc c st' hl hS'⟩
end
end Dn

/-! W5: list(zip(*x)). -/
namespace Dn
open PySem PySem.Spec PyProof.Rows L2
open Evl (Ex fresh_back)
section
variable {M : Model} {A : Around} {E : Value → Shared → Prop} {s : Shared} {env : Env} {pos p : Pos} {e : Expr}
/-- T(*e) -/
theorem callWith_tyS {T : String} {Q : Value → Shared → Prop} (h : wpAny M A (eval e env) (fun v s₁ => PySem.W.StarOf M A E v (fun vs s₂ => wpAny M A (call (.type T) vs) Q E s₂) s₁) E s)
    (he : starEach [.Starred e p] env = [(true, eval e env)] := by rfl) : wpAny M A (callWith pos (.type T) [] (backTo pos (starEach [.Starred e p] env)) []) Q E s := by
  rw [he]
  exact PySem.W.ks_call (P := fun _ => True) rfl (fun h _ => ⟨.machine, .inr (.inl rfl), PySem.W.Looks.of_pure rfl⟩) (PySem.W.ks_lone (wpAny_mono h (fun v s1 h1 => by
    unfold PySem.W.StarOf at h1 ⊢
    exact wpAny_mono h1 (fun b s2 h2 => ⟨h2.1, wpAny_mono h2.2 (fun vs s3 h3 => ⟨trivial, h3⟩) fun _ _ z => z⟩) fun _ _ z => z) fun _ _ z => z))
end
section
variable {prog : Program} {w : World} {A : Around} {E : Value → Shared → Prop} {s : Shared}
theorem zZ_at {h : Heap} {r : List Src} (hs : ∀ S ∈ r, SqAt S.kd h S.a S.its) : ZAt (zZ h r) h.objs.size r 0 := by
  have z1 : (pushIts h r).objs.size = h.objs.size + r.length := pushIts_size r h
  have z2 : (zT h r).objs.size = h.objs.size + r.length + 1 := by unfold zT; rw [Heap.size_push, z1]
  have z3 : (zO h r).objs.size = h.objs.size + r.length + 2 := by unfold zO; rw [Heap.size_push, z2]
  have k1 : ∀ b o, (pushIts h r).get? b = some o → (zZ h r).get? b = some o := fun b o e => Heap.get?_push_of_some _ (Heap.get?_push_of_some _ (Heap.get?_push_of_some _ e))
  refine ⟨.inl ⟨rfl, ?_⟩, ?_, ⟨((itRefs h.objs.size r).map fun _ => Value.none).toArray, ?_, by rw [List.size_toArray, List.length_map, itRefs_len]⟩, fun j S e => ⟨?_, ?_⟩⟩
  · have : (zZ h r).get? (zO h r).objs.size = some { cls := .type "zip", data := .fields #[.none, .bool false, .bool false, .ref (pushIts h r).objs.size, .ref (zT h r).objs.size] } := Heap.get?_push_size _ rfl
    rw [z3, z1, z2] at this
    exact this
  · have : (zZ h r).get? (pushIts h r).objs.size = _ := Heap.get?_push_of_some _ (Heap.get?_push_of_some _ (Heap.get?_push_size _ rfl))
    rw [z1] at this
    exact this
  · have : (zZ h r).get? (zT h r).objs.size = _ := Heap.get?_push_of_some _ (Heap.get?_push_size _ rfl)
    rw [z2] at this
    exact this
  · have := k1 _ _ (pushIts_get r h j S e)
    exact itO_at this
  · exact (hs S (List.mem_of_getElem? e)).keep fun b o q => k1 _ _ (pushIts_keep r h b o q)
theorem zZ_size {h : Heap} {r : List Src} : (zZ h r).objs.size = h.objs.size + r.length + 3 := by
  unfold zZ zO zT
  rw [Heap.size_push, Heap.size_push, Heap.size_push, pushIts_size]
theorem zZ_keep {h : Heap} {r : List Src} (b : Addr) (o : Obj) (e : h.get? b = some o) : (zZ h r).get? b = some o :=
  Heap.get?_push_of_some _ (Heap.get?_push_of_some _ (Heap.get?_push_of_some _ (pushIts_keep r h b o e)))
theorem zip_callN {r : List Src} {Q : Value → Shared → Prop} (hl : r.length ≤ 1000) (hs : ∀ S ∈ r, SqAt S.kd s.heap S.a S.its) (hQ : Q (.ref (s.heap.objs.size + r.length + 2)) { s with heap := zZ s.heap r }) :
    wpAny (model prog w) A (call (.type "zip") (r.map srcV)) Q E s := by
  have z3 : (zO s.heap r).objs.size = s.heap.objs.size + r.length + 2 := by unfold zO zT; rw [Heap.size_push, Heap.size_push, pushIts_size]
  refine callType_new F.called_zip (by decide) (zn_typeCall _) (zn_newCall _) (fun obj => zn_init obj _) F.entry_zip_new (meets_zip_newN hl) ⟨hs, ?_⟩
  rw [z3]
  have e : (zZ s.heap r).get? (zO s.heap r).objs.size = some { cls := .type "zip", data := .fields #[.none, .bool false, .bool false, .ref (pushIts s.heap r).objs.size, .ref (zT s.heap r).objs.size] } := Heap.get?_push_size _ rfl
  rw [z3] at e
  exact ⟨⟨_, e, rfl⟩, hQ⟩
/-- the tuples given so far -/
structure ZG (r : List Src) (lo : Addr) (h : Heap) (as : List Addr) : Prop where
  rise : as.Pairwise (· < ·)
  above : ∀ a ∈ as, lo < a
  tup : ∀ (j : Nat) (a : Addr), as[j]? = some a → IsTupA h a (colAt r j).toArray
theorem ZG.at {r : List Src} {lo : Addr} {h h' : Heap} {as : List Addr} (g : ZG r lo h as) (k : ∀ (b : Nat) o, lo < b → h.get? b = some o → h'.get? b = some o) : ZG r lo h' as :=
  ⟨g.rise, g.above, fun j a e => k _ _ (g.above a (List.mem_of_getElem? e)) (g.tup j a e)⟩
theorem ZG.there {r : List Src} {lo : Addr} {h : Heap} {as : List Addr} (g : ZG r lo h as) {a : Addr} (ha : a ∈ as) : a < h.objs.size := by
  obtain ⟨j, hj⟩ := List.mem_iff_getElem?.mp ha
  exact Heap.lt_size (g.tup j a hj)
theorem ZG.snoc {r : List Src} {lo : Addr} {h h' : Heap} {as : List Addr} {T i : Nat} (g : ZG r lo h as) (hi : as.length = i) (hT : h.objs.size ≤ T) (hlo : lo < h.objs.size) (k : ∀ (b : Nat) o, lo < b → h.get? b = some o → h'.get? b = some o) (ht : IsTupA h' T (colAt r i).toArray) : ZG r lo h' (as ++ [T]) := by
  refine ⟨List.pairwise_append.mpr ⟨g.rise, List.pairwise_singleton _ _, fun a ha b hb => ?_⟩, fun a ha => ?_, fun j a e => ?_⟩
  · rw [List.mem_singleton.mp hb]
    exact Nat.lt_of_lt_of_le (g.there ha) hT
  · rcases List.mem_append.mp ha with ha | ha
    · exact g.above a ha
    · rw [List.mem_singleton.mp ha]
      exact Nat.lt_of_lt_of_le hlo hT
  · rcases Nat.lt_trichotomy j as.length with h1 | h1 | h1
    · rw [List.getElem?_append_left h1] at e
      exact (g.at k).tup j a e
    · subst h1
      have : T = a := by simpa using e
      subst this
      rw [hi]
      exact ht
    · have : (as ++ [T])[j]? = none := List.getElem?_eq_none (by rw [List.length_append, List.length_singleton]; omega)
      rw [this] at e
      cases e
/-- zip's draws -/
theorem zip_drw {h0 : Heap} {r : List Src} {m : Nat} (hh : A.handled = none) (hr : r ≠ []) (hl : r.length ≤ 1000) (lo : ∀ S ∈ r, S.a < h0.objs.size) (hm : ∀ S ∈ r, S.its.size = m) (h1m : 1 ≤ m) :
    Drw prog w A s (h0.objs.size + r.length + 3) (h0.objs.size + r.length + 2) m (fun i h acc => ZAt h h0.objs.size r i ∧ i ≤ m ∧ (∀ b o, h0.get? b = some o → h.get? b = some o) ∧ (i = 0 ∨ h0.objs.size + r.length + 3 < h.objs.size) ∧ ∃ as : List Addr, acc = as.map Value.ref ∧ as.length = i ∧ ZG r (h0.objs.size + r.length + 3) h as)
      (fun h acc => (∀ b o, h0.get? b = some o → h.get? b = some o) ∧ ∃ as : List Addr, acc = as.map Value.ref ∧ as.length = m ∧ ZG r (h0.objs.size + r.length + 3) h as) where
  keep := by
    intro i h h' acc ⟨st, hi, k0, hsz, as, e1, e2, g⟩ hk hS
    have kx : ∀ (c : Nat) o, c ≠ h0.objs.size + r.length + 3 → h.get? c = some o → h'.get? c = some o := fun c o hc e => hk c o hc e
    refine ⟨st.at lo (fun c o hc e => kx c o (by omega) e) fun T oT hT e => ?_, hi, fun b o e => kx b o (Nat.ne_of_lt (Nat.lt_of_lt_of_le (Heap.lt_size e) (Nat.le_add_right_of_le (Nat.le_add_right _ _)))) (k0 b o e), ?_, as, e1, e2, g.at fun b o hb e => kx b o (Nat.ne_of_gt hb) e⟩
    · by_cases hT' : T = h0.objs.size + r.length + 3
      · subst hT'
        exact hS _ e
      · exact ⟨_, kx T oT hT' e⟩
    · cases as with
      | nil => exact .inl (by rw [← e2]; rfl)
      | cons a as => exact .inr (Nat.lt_trans (g.above a (by simp)) (Heap.lt_size (kx a _ (Nat.ne_of_gt (g.above a (by simp))) (g.tup 0 a rfl))))
  item := by
    intro i h tk acc oS Q E hlt ⟨st, hi, k0, hsz, as, e1, e2, g⟩ hS hQ
    refine zipN_pyNext_item (s := { s with heap := h, toks := tk }) hh hr hl lo st (fun S hS => by rw [hm S hS]; exact hlt) fun h' tk' T st' hT ht hk => ?_
    have hSl : h0.objs.size + r.length + 3 < h.objs.size := Heap.lt_size hS
    have hT' : h.objs.size ≤ T := hT
    refine hQ _ h' tk' ⟨st', hlt, fun b o e => hk b o (.inl (Heap.lt_size e)) (k0 b o e), .inr ?_, as ++ [T], by rw [e1, List.map_append]; rfl, by rw [List.length_append, e2]; rfl, g.snoc e2 hT' hSl (fun b o hb e => hk b o (.inr (Nat.lt_trans (Nat.lt_succ_self _) hb)) e) ht⟩ (hk _ _ (.inr (Nat.lt_succ_self _)) hS)
    exact Nat.lt_of_lt_of_le hSl (Nat.le_of_lt (Nat.lt_of_le_of_lt hT' (Heap.lt_size ht)))
  done := by
    intro h tk acc oS Q E ⟨st, hi, k0, hsz, as, e1, e2, g⟩ hS hQ
    obtain ⟨S0, hS0⟩ : ∃ S, S ∈ r := by
      cases r with
      | nil => exact absurd rfl hr
      | cons S r => exact ⟨S, by simp⟩
    refine zipN_pyNext_end (s := { s with heap := h, toks := tk }) hh hr lo st h1m (fun S hS => by rw [hm S hS]; exact Nat.le_refl _) ⟨S0, hS0, (hm S0 hS0).symm⟩ fun h' tk' hk => ?_
    exact hQ h' tk' ⟨fun b o e => hk b o (.inl (Heap.lt_size e)) (k0 b o e), as, e1, e2, g.at fun b o hb e => hk b o (.inr (Nat.lt_trans (Nat.lt_succ_self _) hb)) e⟩ (hk _ _ (.inr (Nat.lt_succ_self _)) hS)
end
end Dn

/-! W6: list(zip(*x)) over data. -/
namespace Dn
open PySem PySem.Spec PyProof.Rows L2
open Evl (Ex fresh_back)
/-- new tuples -/
def putTs : Hp → List Addr → List (List V) → Hp
  | H, a :: as, l :: ls => putTs (upd H a (.tup l)) as ls
  | H, _, _ => H
theorem putTs_off {b : Addr} : ∀ (as : List Addr) (ls : List (List V)) (H : Hp), b ∉ as → putTs H as ls b = H b
  | [], _, _, _ => rfl
  | _ :: _, [], _, _ => rfl
  | a :: as, l :: ls, H, h => by
    show putTs (upd H a (.tup l)) as ls b = H b
    rw [putTs_off as ls _ (fun z => h (List.mem_cons_of_mem _ z)), upd_ne (fun z => h (by rw [z]; exact List.mem_cons_self))]
theorem putTs_at : ∀ (as : List Addr) (ls : List (List V)) (H : Hp), as.Nodup → ∀ (j : Nat) a l, as[j]? = some a → ls[j]? = some l → putTs H as ls a = some (.tup l)
  | [], _, _, _, j, a, l, e, _ => by simp at e
  | _ :: _, [], _, _, j, a, l, _, e => by simp at e
  | a :: as, l :: ls, H, hn, 0, a', l', e1, e2 => by
    cases e1
    cases e2
    have hn' := List.nodup_cons.mp hn
    show putTs (upd H a (.tup l)) as ls a = _
    rw [putTs_off as ls _ hn'.1, upd_same]
  | a :: as, l :: ls, H, hn, j + 1, a', l', e1, e2 => putTs_at as ls _ (List.nodup_cons.mp hn).2 j a' l' e1 e2
theorem putTs_ex {G H : Hp} (e : Ex G H) : ∀ (as : List Addr) (ls : List (List V)), (∀ a ∈ as, H a = none) → as.Nodup → Pu G H (putTs G as ls) (putTs H as ls) := by
  intro as
  induction as generalizing G H with
  | nil => intro ls _ _; cases ls <;> exact Pu.refl e
  | cons a as ih =>
    intro ls hf hn
    cases ls with
    | nil => exact Pu.refl e
    | cons l ls =>
      have hn' := List.nodup_cons.mp hn
      have p1 : Pu G H (upd G a (.tup l)) (upd H a (.tup l)) := Pu.new e (hf a (by simp))
      refine p1.trans (ih p1.s ls (fun b hb => ?_) hn'.2)
      rw [upd_ne (fun z => hn'.1 (by rw [← z]; exact hb))]
      exact hf b (by simp [hb])
section
variable {X : Cx} {e : Expr} {te : TE} {p p2 sp_ cpos pos : Pos}
theorem tups_laid {pins : List (Addr × Obj)} {σ : L2.St} {H : Hp} {s : Shared} {h' : Heap} {tk : Nat} {ls : List (List V)} {acc : Array Value} {c : Nat} {S : Addr} {as : List Addr} (I : Inv X pins σ H s) (hz : ls.length ≤ sizeLine) (hz2 : ∀ l ∈ ls, l.length ≤ sizeLine)
    (hk : ∀ b o, s.heap.get? b = some o → h'.get? b = some o) (hSl : s.heap.objs.size ≤ S) (hS : h'.get? S = some { cls := .type "list", dict := none, data := .seq acc c, slots := #[] }) (hl : as.length = ls.length) (rise : as.Pairwise (· < ·)) (above : ∀ a ∈ as, S < a)
    (hT : ∀ (j : Nat) a l, as[j]? = some a → ls[j]? = some l → ∃ us : List Value, Vals l us ∧ IsTupA h' a us.toArray) (hacc : acc.toList = as.map Value.ref) :
    H S = none ∧ (∀ a ∈ as, H a = none) ∧ S ∉ as ∧ as.Nodup ∧ Inv X pins σ (putTs (upd H S (.lst (as.map V.ref))) as ls) { s with heap := h', toks := tk } := by
  have hSn : S ∉ as := fun z => Nat.lt_irrefl _ (above _ z)
  have nd : as.Nodup := List.Pairwise.imp (fun {a b} (h : a < b) => Nat.ne_of_lt h) rise
  have new : ∀ t ∈ as, H t = none := fun t ht => I.hok.fresh (Nat.le_trans hSl (Nat.le_of_lt (above t ht)))
  have newS : H S = none := I.hok.fresh hSl
  have off : ∀ b, b ∉ as → b ≠ S → putTs (upd H S (.lst (as.map V.ref))) as ls b = H b := fun b h1 h2 => by rw [putTs_off as ls _ h1, upd_ne h2]
  have low : ∀ b o, s.heap.get? b = some o → b ∉ as ∧ b ≠ S := fun b o e => ⟨fun z => absurd (Heap.lt_size e) (Nat.not_lt.mpr (Nat.le_trans hSl (Nat.le_of_lt (above b z)))), Nat.ne_of_lt (Nat.lt_of_lt_of_le (Heap.lt_size e) hSl)⟩
  have kp : ∀ b u, H b = some u → (putTs (upd H S (.lst (as.map V.ref))) as ls) b = some u := fun b u e => by
    rw [off b (fun z => by rw [new b z] at e; cases e) (fun z => by rw [z, newS] at e; cases e)]
    exact e
  have eS : putTs (upd H S (.lst (as.map V.ref))) as ls S = some (.lst (as.map V.ref)) := by rw [putTs_off as ls _ hSn, upd_same]
  refine ⟨newS, new, hSn, nd, I.call' (ch := []) rfl ⟨fun b o q _ _ _ => hk b o q, fun b o q _ _ _ => ⟨o.slots, hk b o q⟩, fun b o q n _ => ?_, fun b o q _ => ⟨o, hk b o q⟩, fun b xs q => kp b _ q, fun b o u q => kp b _ q, fun b ps q => ⟨#[], by rw [kp b _ q]; simp⟩⟩ (fun b u q => ?_) I.bare fun b z => by simp at z⟩
  · obtain ⟨z1, z2⟩ := low b o q
    rw [off b z1 z2]
    exact n
  · by_cases hb : b ∈ as
    · obtain ⟨j, hj⟩ := List.mem_iff_getElem?.mp hb
      have hjl : j < ls.length := by rw [← hl]; exact (List.getElem?_eq_some_iff.mp hj).1
      obtain ⟨l, e2⟩ : ∃ l, ls[j]? = some l := ⟨ls[j], List.getElem?_eq_getElem hjl⟩
      rw [putTs_at as ls _ nd j b l hj e2] at q
      cases q
      obtain ⟨us, rv, ht⟩ := hT j b l hj e2
      exact ⟨hz2 l (List.mem_of_getElem? e2), us, rv, ⟨_, ht, rfl, _, rfl⟩⟩
    · by_cases hb2 : b = S
      · rw [hb2] at q ⊢
        rw [eS] at q
        cases q
        refine ⟨by rw [List.length_map]; omega, acc.toList, c, by rw [hacc]; exact LiI.vals_refs as, ?_⟩
        rw [Array.toArray_toList]
        exact hS
      · rw [off b hb hb2] at q
        exact (I.hok b u q).stay (fun d v _ y => hk d v y) (fun d y => kp d _ y) fun d xs y => kp d _ y
/-- kind, place, items of each -/
abbrev Seqs := List (Bool × Addr × List V)
def colV (rs : Seqs) (m : Nat) : List (List V) := (List.range m).map fun j => rs.map fun q => q.2.2.getD j .non
def rZipL : List V → Hp → VK → Prop := fun xs H Q => ∃ (rs : Seqs) (m : Nat), xs = rs.map (fun q => V.ref q.2.1) ∧ rs ≠ [] ∧ rs.length ≤ 1000 ∧ 1 ≤ m ∧ (∀ q ∈ rs, H q.2.1 = some (hoS q.1 q.2.2) ∧ q.2.2.length = m) ∧
  ∀ (S : Addr) (as : List Addr), H S = none → (∀ a ∈ as, H a = none) → S ∉ as → as.Nodup → as.length = m → Q (.ref S) (putTs (upd H S (.lst (as.map V.ref))) as (colV rs m))
theorem vals_refs_inv : ∀ {rs : Seqs} {us : List Value}, Vals (rs.map fun q => V.ref q.2.1) us → us = rs.map fun q => Value.ref q.2.1
  | [], _, .nil => rfl
  | q :: rs, _, .cons h t => by
    have h' : _ = Value.ref q.2.1 := h
    rw [h', vals_refs_inv t]
    rfl
/-- what stands in the heap -/
theorem srcs_of {pins : List (Addr × Obj)} {σ : L2.St} {H : Hp} {s : Shared} (I : Inv X pins σ H s) : ∀ {rs : Seqs}, (∀ q ∈ rs, H q.2.1 = some (hoS q.1 q.2.2)) →
    ∃ r : List Src, r.map (·.a) = rs.map (·.2.1) ∧ (∀ S ∈ r, SqAt S.kd s.heap S.a S.its ∧ S.a < s.heap.objs.size) ∧ ∀ (j : Nat) S q, r[j]? = some S → rs[j]? = some q → Vals q.2.2 S.its.toList
  | [], _ => ⟨[], rfl, fun S h => by simp at h, fun j S q e _ => by simp at e⟩
  | q :: rs, h => by
    obtain ⟨r, e1, e2, e3⟩ := srcs_of I (rs := rs) fun q hq => h q (by simp [hq])
    obtain ⟨its, rv, sq, lt⟩ := src_at I (h q (by simp))
    refine ⟨⟨q.1, q.2.1, its.toArray⟩ :: r, by simp [e1], fun S hS => ?_, fun j S q' k1 k2 => ?_⟩
    · rcases List.mem_cons.mp hS with z | z
      · subst z; exact ⟨sq, lt⟩
      · exact e2 S z
    · cases j with
      | zero => cases k1; cases k2; simpa using rv
      | succ j => exact e3 j S q' k1 k2
theorem vals_getDD : ∀ {xs : List V} {us : List Value} (j : Nat), Vals xs us → RelV (xs.getD j .non) (us.getD j .none)
  | _, _, _, .nil => rfl
  | _, _, 0, .cons h _ => h
  | _, _, j + 1, .cons _ t => vals_getDD j t
theorem col_vals {j : Nat} : ∀ {rs : Seqs} {r : List Src}, rs.length = r.length → (∀ (i : Nat) S q, r[i]? = some S → rs[i]? = some q → Vals q.2.2 S.its.toList) → Vals (rs.map fun q => q.2.2.getD j .non) (colAt r j)
  | [], [], _, _ => .nil
  | [], _ :: _, h, _ => by cases h
  | _ :: _, [], h, _ => by cases h
  | q :: rs, S :: r, h, k => by
    refine .cons ?_ (col_vals (by simpa using h) fun i S q e1 e2 => k (i + 1) S q e1 e2)
    have := vals_getDD j (k 0 S q rfl rfl)
    show RelV (q.2.2.getD j .non) (S.its.getD j .none)
    rw [show S.its.getD j .none = S.its.toList.getD j .none by simp [Array.getD_eq_getD_getElem?]]
    exact this
/-- list(zip(*e)) -/
theorem pe_listZipS (hc : X.calm = true) (he : PE X e te) (hg : Gl X "list") (hm : X.mg "list" = none) (hv : bootBuiltins "list" = some (.type "list")) (hg2 : Gl X "zip") (hm2 : X.mg "zip" = none) (hv2 : bootBuiltins "zip" = some (.type "zip"))
    (hs : starEach [.Call (.Name "zip" p2) [.Starred e sp_] [] cpos] X.env = (false, eval (.Call (.Name "zip" p2) [.Starred e sp_] [] cpos) X.env) :: starEach [] X.env := by rfl)
    (hst : starEach [.Starred e sp_] X.env = [(true, eval e X.env)] := by rfl) :
    PE X (.Call (.Name "list" p) [.Call (.Name "zip" p2) [.Starred e sp_] [] cpos] [] pos) (fun σ H Q => te σ H fun y H1 => ∃ a xs, y = V.ref a ∧ (SqT X.K H1 a xs ∨ SqL X.K H1 a xs) ∧ rZipL xs H1 Q) := by
  refine ⟨fun pins s σ H Q I hq => ?_⟩
  refine wpAny_Call_Name_kw (ld_blt I hg hm hv ?_)
  refine PyProof.Rows.callWith_type1 ?_ hs rfl
  rw [hs]
  show wpAny _ _ (spliced ((false, eval (.Call (.Name "zip" p2) [.Starred e sp_] [] cpos) X.env) :: backTo pos (starEach [] X.env))) _ _ s
  refine Calls.spliced_cons ?_
  refine wpAny_Call_Name_kw (ld_blt I hg2 hm2 hv2 ?_)
  refine callWith_tyS (thn (he.run pins s σ H _ I hq) fun v s1 ⟨y, H1, I1, ry, a, xs, ey, hx, q⟩ => ?_) hst
  subst ey
  obtain rfl : v = Value.ref a := ry
  refine StX.star_any I1 hx fun us s2 I2 rv => ?_
  obtain ⟨rs, m, exs, hne, hl, h1m, hH, hQ⟩ := q
  subst exs
  have eus := vals_refs_inv rv
  subst eus
  obtain ⟨r, e1, e2, e3⟩ := srcs_of I2 (rs := rs) fun q hq => (hH q hq).1
  have hlen : r.length = rs.length := by have := congrArg List.length e1; simpa using this
  have eargs : (rs.map fun q => Value.ref q.2.1) = r.map srcV := by
    have := congrArg (List.map Value.ref) e1
    simpa [Function.comp_def] using this.symm
  rw [eargs]
  have hrne : r ≠ [] := fun z => hne (List.eq_nil_of_length_eq_zero (by rw [← hlen, z]; rfl))
  have hms : ∀ S ∈ r, S.its.size = m := fun S hS => by
    obtain ⟨j, hj⟩ := List.mem_iff_getElem?.mp hS
    have hjl : j < rs.length := by rw [← hlen]; exact (List.getElem?_eq_some_iff.mp hj).1
    have := (e3 j S rs[j] hj (List.getElem?_eq_getElem hjl)).length
    rw [Array.length_toList] at this
    rw [← this]
    exact (hH _ (List.getElem_mem hjl)).2
  refine zip_callN (by omega) (fun S hS => (e2 S hS).1) ?_
  refine Calls.spliced_nil ?_
  have hAh : X.A.handled = none := I2.ok.hd hc
  have hmz : m ≤ sizeLine := by
    obtain ⟨q0, hq0⟩ : ∃ q, q ∈ rs := List.exists_mem_of_ne_nil _ hne
    obtain ⟨hA, hB⟩ := hH q0 hq0
    have ok := I2.hok _ _ hA
    rw [← hB]
    generalize q0.1 = kd at ok
    cases kd with
    | true => exact ok.1
    | false => exact ok.1
  have D := zip_drw (prog := X.prog) (w := X.w) (A := X.A.in1.in1) (s := { s2 with heap := zZ s2.heap r }) (h0 := s2.heap) (r := r) (m := m) hAh hrne (by omega) (fun S hS => (e2 S hS).2) hms h1m
  have st0 := zZ_at fun S hS => (e2 S hS).1
  have hz0 : IsZip (zZ s2.heap r) (s2.heap.objs.size + r.length + 2) (s2.heap.objs.size + r.length) (s2.heap.objs.size + r.length + 1) .none := by
    rcases st0.z with ⟨_, z⟩ | ⟨T, f, oT, z, hT, hN⟩
    · exact z
    · exact absurd (Heap.lt_size hT) (by rw [zZ_size]; exact Nat.not_lt.mpr hN)
  rw [← zZ_size (h := s2.heap)] at D
  refine drw_call (T := "zip") (s := { s2 with heap := zZ s2.heap r }) ⟨_, hz0, rfl⟩ zip_no_len zip_no_hint (by decide) (by decide) (fun A' h' Q' E' hk q => ?_) D hmz ⟨st0, Nat.zero_le _, zZ_keep, .inl rfl, [], rfl, rfl, .nil, (fun a h => by cases h), (fun j a h => by simp at h)⟩ ?_
  · exact wpAny_pyIter_zip (s := { s2 with heap := h' }) (hk _ _ hz0) q
  · intro h' tk acc c ⟨hk, as, ea, hal, g⟩ hal2 hS
    dsimp only at hS ⊢
    have hcl : ∀ (j : Nat) l, (colV rs m)[j]? = some l → j < m ∧ l = rs.map fun q => q.2.2.getD j .non := fun j l e => by
      unfold colV at e
      rw [List.getElem?_map] at e
      have hj : j < m := by
        by_cases hj : j < m
        · exact hj
        · rw [List.getElem?_eq_none (by simpa using hj)] at e; cases e
      rw [List.getElem?_range hj] at e
      cases e
      exact ⟨hj, rfl⟩
    obtain ⟨k1, k2, k3, k4, J⟩ := tups_laid (tk := tk) (ls := colV rs m) (S := (zZ s2.heap r).objs.size) I2 (by simpa [colV] using hmz) (fun l hl' => by
      obtain ⟨j, hj⟩ := List.mem_iff_getElem?.mp hl'
      rw [(hcl j l hj).2, List.length_map]
      have := sizeLine_eq
      omega) hk (by rw [zZ_size]; exact Nat.le_add_right_of_le (Nat.le_add_right _ _)) hS (by rw [hal]; simp [colV]) g.rise g.above (fun j a l e4 e5 => by
      rw [(hcl j l e5).2]
      exact ⟨_, col_vals hlen.symm e3, g.tup j a e4⟩) (by rw [List.toList_toArray, ea])
    exact ⟨.ref _, _, J, rfl, hQ _ as k1 k2 k3 k4 hal⟩
end
end Dn

/-! W7: itertools.accumulate(a list of ints): made, next. -/
namespace Dn
open PySem PySem.Spec PyProof.Rows L2
open Evl (Ex fresh_back)
open CpRep (StopE)

theorem mro_acc : mroOf (.type "itertools.accumulate") = pure [.type "itertools.accumulate", .type "object"] := by rw [mroOf_type]; kernel_rfl
theorem lookup_acc_new : typeLookup (.type "itertools.accumulate") "__new__" = pure (some (.builtin "itertools.accumulate.__new__")) := by rw [typeLookup_type, builtinLookup_eq_fast]; kernel_rfl
theorem slot_acc_init : Slot "itertools.accumulate" "__init__" "object.__init__" :=
  .of (owner := "object") (n := "__init__") (by rw [typeLookup_type, builtinLookup_eq_fast]; kernel_rfl) (by decide +kernel) (by decide +kernel) (by decide +kernel)
    (by first | exact .inl (by decide +kernel) | exact .inr (by decide +kernel)) (by rw [isSubtype_type]; kernel_rfl)
theorem sub_acc : isSubtype (.type "itertools.accumulate") (.type "itertools.accumulate") = pure true := by rw [isSubtype_type]; kernel_rfl
theorem called_acc : TypeCalled "itertools.accumulate" "itertools.accumulate.__new__" "object.__init__" :=
  ⟨by decide +kernel, by decide +kernel, ⟨_, _, mro_acc⟩, madeBy_type mro_acc lookup_acc_new (by decide +kernel), by decide +kernel, sub_acc, slot_acc_init⟩
theorem typeCall_acc (a : Value) : checkTypeCall "itertools.accumulate" ⟨[a], []⟩ = pure () := by kernel_rfl
theorem newCall_acc (a : Value) : checkBuiltinCall "itertools.accumulate.__new__" ⟨[.type "itertools.accumulate", a], []⟩ = pure () := by kernel_rfl
theorem init_acc (obj a : Value) : argsOk "object.__init__" ⟨[obj, a], []⟩ := by unfold argsOk; kernel_rfl
theorem entry_acc_new : entryFor table "itertools.accumulate.__new__" = some Builtin.«itertools.accumulate.__new__» := entryFor_of_tree (by kernel_rfl)
theorem slot_acc_iter : Slot "itertools.accumulate" "__iter__" "itertools.accumulate.__iter__" :=
  .of (owner := "itertools.accumulate") (n := "__iter__") (by rw [typeLookup_type, builtinLookup_eq_fast]; kernel_rfl) (by decide +kernel) (by decide +kernel) (by decide +kernel)
    (by first | exact .inl (by decide +kernel) | exact .inr (by decide +kernel)) sub_acc
theorem slot_acc_next : Slot "itertools.accumulate" "__next__" "itertools.accumulate.__next__" :=
  .of (owner := "itertools.accumulate") (n := "__next__") (by rw [typeLookup_type, builtinLookup_eq_fast]; kernel_rfl) (by decide +kernel) (by decide +kernel) (by decide +kernel)
    (by first | exact .inl (by decide +kernel) | exact .inr (by decide +kernel)) sub_acc
theorem entry_acc_iter : entryFor table "itertools.accumulate.__iter__" = some Builtin.«dict_keyiterator.__iter__» :=
  entryFor_alias (id' := "dict_keyiterator.__iter__") (by kernel_rfl) (by first | rfl | decide +kernel | (unfold String.splitOn; simp +decide [String.splitOnAux])) (by decide +kernel) (by kernel_rfl)
theorem entry_acc_next : entryFor table "itertools.accumulate.__next__" = some Builtin.«itertools.accumulate.__next__» := entryFor_of_tree (by kernel_rfl)
theorem args_acc_iter (a : Value) : argsOk "itertools.accumulate.__iter__" ⟨[a], []⟩ := by unfold argsOk; kernel_rfl
theorem args_acc_next (a : Value) : argsOk "itertools.accumulate.__next__" ⟨[a], []⟩ := by unfold argsOk; kernel_rfl
theorem noDict_acc : typeHasDict (.type "itertools.accumulate") = false := by decide +kernel
theorem acc_no_len : typeLookup (.type "itertools.accumulate") "__len__" = pure none := am_miss_of_fast (by decide +kernel)
theorem acc_no_hint : typeLookup (.type "itertools.accumulate") "__length_hint__" = pure none := am_miss_of_fast (by decide +kernel)

end Dn

set_option maxHeartbeats 1000000
/-! W8: itertools.accumulate(a list of ints). -/
namespace Dn
open PySem PySem.Spec PyProof.Rows L2
open Evl (Ex fresh_back)
open CpRep (StopE)
abbrev IsAcc (h : Heap) (a it : Addr) (tot : Value) : Prop := h.get? a = some { cls := .type "itertools.accumulate", dict := none, data := .fields #[.ref it, .none, tot, .none], slots := #[] }
def accH (h : Heap) (l : Addr) : Heap := (h.push (itO true l)).push { cls := .type "itertools.accumulate", dict := none, data := .fields #[.ref h.objs.size, .none, .int 0 0, .none], slots := #[] }
theorem bind_acc (v : Value) : Builtin.Itertools.itBindNamed "accumulate" ["iterable", "func", "initial"] 1 2 [v] [] = pure [some v, none, none] := by kernel_rfl
theorem cls_acc (v : Value) : Builtin.Itertools.itClassAndRest "accumulate" ⟨[.type "itertools.accumulate", v], []⟩ = pure (.type "itertools.accumulate", [v]) := by kernel_rfl
theorem meets_acc_new (l : Addr) (its : Array Value) : Meets (Builtin.«itertools.accumulate.__new__» ⟨[.type "itertools.accumulate", .ref l], []⟩)
    (fun _ R s => s.heap.IsList l its ∧ R (.ok (.ret (.ref (s.heap.objs.size + 1)))) { s with heap := accH s.heap l }) :=
  .of_wp fun prog w A R s h => by
    obtain ⟨hp, g, dd, tk, os⟩ := s
    obtain ⟨hl, h⟩ := h
    have hd := noDict_acc
    have e : (hp.push (itO true l)).objs.size = hp.objs.size + 1 := Heap.size_push _ _
    unfold Builtin.«itertools.accumulate.__new__»
    refine wpAny_bind (wpAny_of_eq (cls_acc _) ?_)
    refine wpAny_bind (wpAny_of_eq (bind_acc _) ?_)
    refine wpAny_bind ((begins_of true l its).iter prog w _ _ ⟨hp, g, dd, tk, os⟩ _ hl ?_)
    unfold Builtin.Itertools.itNewRecord
    rw [hd]
    refine wpAny_bind ?_
    show wpAny _ _ (newObj (.type "itertools.accumulate") (.fields #[.ref hp.objs.size, .none, .int 0 0, .none])) _ _ _
    refine wpAny_newObj_type ?_ (by size_fits)
    refine wpAny_pure ⟨_, rfl, ?_⟩
    rw [e]
    exact h
section
variable {prog : Program} {w : World} {A : Around} {E : Value → Shared → Prop} {s : Shared}
theorem acc_call {l : Addr} {its : Array Value} {Q : Value → Shared → Prop} (hl : s.heap.IsList l its) (hQ : Q (.ref (s.heap.objs.size + 1)) { s with heap := accH s.heap l }) :
    wpAny (model prog w) A (call (.type "itertools.accumulate") [.ref l]) Q E s := by
  refine callType_new called_acc (by decide +kernel) (typeCall_acc _) (newCall_acc _) (fun obj => init_acc obj _) entry_acc_new (meets_acc_new l its) ⟨hl, ?_⟩
  have e : (accH s.heap l).get? (s.heap.push (itO true l)).objs.size = some { cls := .type "itertools.accumulate", dict := none, data := .fields #[.ref s.heap.objs.size, .none, .int 0 0, .none], slots := #[] } := Heap.get?_push_size _ rfl
  rw [Heap.size_push] at e
  exact ⟨⟨_, e, rfl⟩, hQ⟩
theorem acc_iter {it a : Addr} {tot : Value} {Q : Value → Shared → Prop} (hit : IsAcc s.heap it a tot) (h : Q (.ref it) s) : wpAny (model prog w) A (pyIter (.ref it)) Q E s := by
  have hT : s.TypeIs (.ref it) "itertools.accumulate" := ⟨_, hit, rfl⟩
  refine wpAny_pyIter_slot hT slot_acc_iter (wpAny_call_entry slot_acc_iter hT entry_acc_iter ?_ (args_acc_iter _))
  show wpAny _ _ (ret (.ref it)) _ _ s
  exact wpAny_pure ⟨_, rfl, "itertools.accumulate", _, hT, slot_acc_next.lookup, h⟩
theorem itRaw_item {it l : Addr} {i : Nat} {items} {x : Value} {Q : Value → Shared → Prop} (hit : s.heap.IsListIter it l i)
    (hl : s.heap.IsList l items) (hx : items[i]? = some x)
    (hQ : ∀ h', h'.IsListIter it l (i + 1) → Heap.SameBut it s.heap h' → Q x { s with heap := h' }) :
    wpAny (model prog w) A (Builtin.Itertools.itRawNext (.ref it)) Q E s := by
  obtain ⟨o, ho, hc, hd⟩ := id hit
  obtain ⟨ol, hol, _, nl, hdl⟩ := hl
  unfold Builtin.Itertools.itRawNext
  refine wpAny_bind (wpAny_callSpecial?_slot (name := Str.ofString "__next__") hit.typeIs slot_listiter_next
    (wpAny_call_entry slot_listiter_next hit.typeIs entry_listiter_next ?_ (args_listiter_next _)))
  show wpAny _ _ (field (.ref it) 0 >>= _) _ _ s
  refine wpAny_bind (wpAny_field ho hd (x := .ref l) rfl ?_)
  show wpAny _ _ (if (Value.ref l == Value.none) = true then _ else _) _ _ s
  rw [if_neg (show ¬ ((Value.ref l == Value.none) = true) from Bool.false_ne_true)]
  show wpAny _ _ (field (.ref it) 1 >>= _) _ _ s
  refine wpAny_bind (wpAny_field ho hd (x := .int i 0) rfl ?_)
  show wpAny _ _ (seqItems? (.ref l) >>= _) _ _ s
  refine wpAny_bind (wpAny_seqItems hol hdl ?_)
  simp only [Int.toNat_natCast, hx]
  refine wpAny_bind (wpAny_setField ho hd (by simp) (wpAny_pure ⟨x, rfl, wpAny_pure (hQ _ ?_ (Heap.SameBut.update ..))⟩))
  exact ⟨_, Heap.get?_update_self _ ho (Obj.isFreed_of_fields (Obj.data_mapFields hd _)), (Obj.cls_mapFields ..).trans hc, by
    rw [Obj.data_mapFields hd]; simp [rawInt]⟩
theorem itRaw_end {it l : Addr} {i : Nat} {items} {Q : Value → Shared → Prop} (hh : A.handled = none)
    (hit : s.heap.IsListIter it l i) (hl : s.heap.IsList l items) (hx : items[i]? = none)
    (hE : ∀ h' e, Heap.ExtBut it s.heap h' → (∃ o, h'.get? e = some o ∧ o.cls = .type "StopIteration") → E (.ref e) { s with heap := h' }) :
    wpAny (model prog w) A (Builtin.Itertools.itRawNext (.ref it)) Q E s := by
  obtain ⟨o, ho, hc, hd⟩ := id hit
  obtain ⟨ol, hol, _, nl, hdl⟩ := hl
  unfold Builtin.Itertools.itRawNext
  refine wpAny_bind (wpAny_callSpecial?_slot (name := Str.ofString "__next__") hit.typeIs slot_listiter_next
    (wpAny_call_entry slot_listiter_next hit.typeIs entry_listiter_next ?_ (args_listiter_next _)))
  show wpAny _ _ (field (.ref it) 0 >>= _) _ _ s
  refine wpAny_bind (wpAny_field ho hd (x := .ref l) rfl ?_)
  show wpAny _ _ (if (Value.ref l == Value.none) = true then _ else _) _ _ s
  rw [if_neg (show ¬ ((Value.ref l == Value.none) = true) from Bool.false_ne_true)]
  show wpAny _ _ (field (.ref it) 1 >>= _) _ _ s
  refine wpAny_bind (wpAny_field ho hd (x := .int i 0) rfl ?_)
  show wpAny _ _ (seqItems? (.ref l) >>= _) _ _ s
  refine wpAny_bind (wpAny_seqItems hol hdl ?_)
  simp only [Int.toNat_natCast, hx]
  refine wpAny_bind (wpAny_rule (wpAny_bind (wpAny_setField ho hd (by simp) ?_)))
  show wpAny _ _ (newExc (.type "StopIteration") [] >>= _) _ _ _
  refine wpAny_bind ?_
  simp only [newExc, newTuple]
  refine wpAny_bind (wpAny_newObj_type ?_ (by size_fits))
  refine wpAny_bind (m := firstArgMember _ _) (wpAny_of_eq (a := Value.none) (by first | rfl | (simp only [firstArgMember]; rfl)) ?_)
  refine wpAny_newObj_type ?_ (by size_fits)
  simp only [raiseNew]
  refine wpAny_bind (wpAny_handled ?_)
  first | rw [show A.in1.handled = none from hh] | rw [hh]
  refine wpAny_bind (wpAny_pure (wpAny_throw ?_))
  exact hE _ _ (((Heap.SameBut.update ..).extBut.push _).push _) ⟨_, Heap.get?_push_size _ rfl, rfl⟩
/-- the next sum -/
theorem acc_next {a it l : Addr} {i : Nat} {items : Array Value} {x t : Int} {u v : Tok} {Q : Value → Shared → Prop} (ha : IsAcc s.heap a it (.int t u)) (hit : s.heap.IsListIter it l i) (hl : s.heap.IsList l items) (hne : a ≠ it) (hla : l ≠ a) (hx : items[i]? = some (.int x v))
    (hQ : ∀ h' tk' u', IsAcc h' a it (.int (t + x) u') → h'.IsListIter it l (i + 1) → (∀ b o, b ≠ a → b ≠ it → s.heap.get? b = some o → h'.get? b = some o) → Q (.int (t + x) u') { s with heap := h', toks := tk' }) :
    wpAny (model prog w) A (Builtin.«itertools.accumulate.__next__» ⟨[.ref a], []⟩) (fun fin s' => ∃ v, fin = .done (.ret v) ∧ Q v s') E s := by
  obtain ⟨hp, g, d, tk, os⟩ := s
  show wpAny _ _ (field (.ref a) 3 >>= _) _ _ _
  refine wpAny_bind (wpAny_field ha rfl (x := .none) rfl ?_)
  show wpAny _ _ (field (.ref a) 0 >>= _) _ _ _
  refine wpAny_bind (wpAny_field ha rfl (x := .ref it) rfl ?_)
  refine wpAny_bind (itRaw_item hit hl hx fun h1 hit1 hs1 => ?_)
  replace hs1 : Heap.SameBut it hp h1 := hs1
  have k1 : ∀ (c : Nat) o, c ≠ it → hp.get? c = some o → h1.get? c = some o := fun c o hc e => hs1.extBut c o hc e
  have ha1 : IsAcc h1 a it (.int t u) := k1 _ _ hne ha
  show wpAny _ _ (field (.ref a) 2 >>= _) _ _ ⟨h1, g, d, tk, os⟩
  refine wpAny_bind (wpAny_field ha1 rfl (x := .int t u) rfl ?_)
  have fin : ∀ (tk' : Tok) (u' : Tok) (h2 : Heap), IsAcc h2 a it (.int (t + x) u') → (∀ (c : Nat) o, c ≠ a → h1.get? c = some o → h2.get? c = some o) → Q (.int (t + x) u') ⟨h2, g, d, tk', os⟩ := fun tk' u' h2 e k => by
    refine hQ h2 tk' u' e (Heap.IsListIter.at hit1 fun o q => k it o (Ne.symm hne) q) fun b o h1' h2' q => k b o h1' (k1 b o h2' q)
  by_cases h0 : (Value.int t u == Builtin.Itertools.itNothing) = true
  · rw [if_pos h0]
    have ht : t = 0 := by
      simp [Builtin.Itertools.itNothing, rawInt] at h0
      exact h0.1
    subst ht
    refine wpAny_bind (wpAny_rule ?_)
    refine wpAny_bind (wpAny_setField ha1 rfl (by simp) ?_)
    have ha2 : IsAcc (h1.update a (Obj.mapFields fun y => y.setIfInBounds 2 (.int x v))) a it (.int x v) := Heap.get?_update_self _ ha1 rfl
    refine wpAny_pure ⟨_, rfl, ?_⟩
    have := fin tk v _ (by rw [Int.zero_add]; exact ha2) fun c o hc e => (Heap.get?_update_other _ _ (Ne.symm hc)).trans e
    rw [Int.zero_add] at this
    exact this
  · rw [if_neg h0]
    show wpAny _ _ (field (.ref a) 1 >>= _) _ _ ⟨h1, g, d, tk, os⟩
    refine wpAny_bind (wpAny_field ha1 rfl (x := .none) rfl ?_)
    refine wpAny_bind (wpAny_holding ?_)
    show wpAny _ _ (binaryOp .Add (.int t u) (.int x v)) _ _ ⟨h1, g, d, tk, os⟩
    refine wpAny_add_int ?_
    dsimp only
    refine wpAny_bind (wpAny_setField ha1 rfl (by simp) ?_)
    have ha2 : IsAcc (h1.update a (Obj.mapFields fun y => y.setIfInBounds 2 (.int (t + x) tk))) a it (.int (t + x) tk) := Heap.get?_update_self _ ha1 rfl
    refine wpAny_bind (wpAny_letGo (wpAny_pure ⟨_, rfl, ?_⟩))
    exact fin (tk + 1) tk _ ha2 fun c o hc e => (Heap.get?_update_other _ _ (Ne.symm hc)).trans e
end
end Dn

set_option maxHeartbeats 1000000
/-! W9: list(accumulate(a list of ints)), list(zip(*x)) over data. -/
namespace Dn
open PySem PySem.Spec PyProof.Rows L2
open Evl (Ex fresh_back)
/-- sums of the first -/
def psums : Int → List Int → List Int
  | _, [] => []
  | t, x :: xs => (t + x) :: psums (t + x) xs
theorem psums_len : ∀ (xs : List Int) (t : Int), (psums t xs).length = xs.length
  | [], _ => rfl
  | x :: xs, t => congrArg (· + 1) (psums_len xs (t + x))
def tot : Int → List Int → Nat → Int
  | t, _, 0 => t
  | t, [], _ + 1 => t
  | t, x :: xs, i + 1 => tot (t + x) xs i
theorem tot_succ : ∀ (xs : List Int) (t : Int) (i : Nat) (x : Int), xs[i]? = some x → tot t xs (i + 1) = tot t xs i + x
  | y :: ys, t, 0, x, e => by
    cases e
    cases ys <;> rfl
  | y :: ys, t, i + 1, x, e => by
    show tot (t + y) ys (i + 1) = tot (t + y) ys i + x
    exact tot_succ ys (t + y) i x e
  | [], _, _, _, e => by simp at e
theorem psums_get : ∀ (xs : List Int) (t : Int) (i : Nat), i < xs.length → (psums t xs)[i]? = some (tot t xs (i + 1))
  | y :: ys, t, 0, _ => by
    cases ys <;> rfl
  | y :: ys, t, i + 1, h => psums_get ys (t + y) i (by simpa using h)
  | [], _, _, h => by simp at h
theorem ints_at : ∀ {xs : List Int} {us : List Value} {i : Nat} {x : Int}, Vals (xs.map V.int) us → xs[i]? = some x → ∃ t, us[i]? = some (.int x t)
  | y :: ys, _, 0, x, .cons h _, e => by
    obtain ⟨t, ht⟩ := h
    cases e
    exact ⟨t, by rw [ht]; rfl⟩
  | y :: ys, _, i + 1, x, .cons _ t, e => ints_at (i := i) t e
  | [], _, _, _, _, e => by simp at e
theorem vals_of_at {xs : List Int} {us : List Value} (hl : us.length = xs.length) (h : ∀ (i : Nat) x, xs[i]? = some x → ∃ t, us[i]? = some (.int x t)) : Vals (xs.map V.int) us := by
  induction xs generalizing us with
  | nil => cases us with
    | nil => exact .nil
    | cons u us => cases hl
  | cons x xs ih => cases us with
    | nil => cases hl
    | cons u us =>
      obtain ⟨t, ht⟩ := h 0 x rfl
      cases ht
      exact .cons ⟨t, rfl⟩ (ih (by simpa using hl) fun i y e => h (i + 1) y e)
section
variable {prog : Program} {w : World} {A : Around} {E : Value → Shared → Prop} {s : Shared}
theorem acc_drw {h0 : Heap} {l S : Addr} {xs : List Int} {its : List Value} (hh : A.handled = none) (hl0 : l < h0.objs.size) (hS : h0.objs.size + 1 < S) (hv : Vals (xs.map V.int) its) :
    Drw prog w A s S (h0.objs.size + 1) xs.length (fun i h acc => i ≤ xs.length ∧ (∃ u, IsAcc h (h0.objs.size + 1) h0.objs.size (.int (tot 0 xs i) u)) ∧ h.IsListIter h0.objs.size l i ∧ h.IsList l its.toArray ∧ (∀ b o, h0.get? b = some o → h.get? b = some o) ∧ acc.length = i ∧ ∀ (j : Nat), j < i → ∃ u, acc[j]? = some (.int (tot 0 xs (j + 1)) u))
      (fun h acc => (∀ b o, h0.get? b = some o → h.get? b = some o) ∧ Vals ((psums 0 xs).map V.int) acc) where
  keep := by
    intro i h h' acc ⟨hi, ⟨u, ha⟩, hit, hl, k0, e1, e2⟩ hk _
    have kx : ∀ (c : Nat) o, c < h0.objs.size + 2 → h.get? c = some o → h'.get? c = some o := fun c o hc e => hk c o (Nat.ne_of_lt (Nat.lt_of_lt_of_le hc hS)) e
    exact ⟨hi, ⟨u, kx _ _ (Nat.lt_succ_self _) ha⟩, hit.at fun o e => kx _ o (Nat.lt_succ_of_lt (Nat.lt_succ_self _)) e, hl.at fun o e => kx _ o (Nat.lt_of_lt_of_le hl0 (Nat.le_add_right _ 2)) e, fun b o e => kx b o (Nat.lt_of_lt_of_le (Heap.lt_size e) (Nat.le_add_right _ 2)) (k0 b o e), e1, e2⟩
  item := by
    intro i h tk acc oS Q E hlt ⟨hi, ⟨u, ha⟩, hit, hl, k0, e1, e2⟩ hS' hQ
    obtain ⟨x, hx⟩ : ∃ x, xs[i]? = some x := ⟨xs[i], List.getElem?_eq_getElem hlt⟩
    obtain ⟨t, ht⟩ := ints_at hv hx
    have hT : ({ s with heap := h, toks := tk } : Shared).TypeIs (.ref (h0.objs.size + 1)) "itertools.accumulate" := ⟨_, ha, rfl⟩
    unfold pyNext
    refine wpAny_bind (wpAny_attempt (wpAny_callSpecial?_slot (name := Str.ofString "__next__") hT slot_acc_next
      (wpAny_call_entry slot_acc_next hT entry_acc_next (acc_next (s := { s with heap := h, toks := tk }) ha hit hl (Nat.succ_ne_self _) (Nat.ne_of_lt (Nat.lt_succ_of_lt hl0)) (by simpa using ht) fun h' tk' u' ha' hit' hk' => ?_) (args_acc_next _))))
    refine wpAny_pure (hQ _ h' tk' ⟨hlt, ⟨u', by rw [tot_succ xs 0 i x hx]; exact ha'⟩, hit', hl.at fun o e => hk' l o (Nat.ne_of_lt (Nat.lt_succ_of_lt hl0)) (Nat.ne_of_lt hl0) e, fun b o e => hk' b o (Nat.ne_of_lt (Nat.lt_succ_of_lt (Heap.lt_size e))) (Nat.ne_of_lt (Heap.lt_size e)) (k0 b o e), by rw [List.length_append, e1]; rfl, fun j hj => ?_⟩ (hk' _ _ (Nat.ne_of_gt hS) (Nat.ne_of_gt (Nat.lt_trans (Nat.lt_succ_self _) hS)) hS'))
    by_cases hji : j < i
    · obtain ⟨u2, h2⟩ := e2 j hji
      exact ⟨u2, by rw [List.getElem?_append_left (by rw [e1]; exact hji)]; exact h2⟩
    · have : j = i := by omega
      subst this
      refine ⟨u', ?_⟩
      rw [List.getElem?_append_right (by omega), e1, Nat.sub_self, tot_succ xs 0 j x hx]
      rfl
  done := by
    intro h tk acc oS Q E ⟨hi, ⟨u, ha⟩, hit, hl, k0, e1, e2⟩ hS' hQ
    have hT : ({ s with heap := h, toks := tk } : Shared).TypeIs (.ref (h0.objs.size + 1)) "itertools.accumulate" := ⟨_, ha, rfl⟩
    unfold pyNext
    refine wpAny_bind (wpAny_attempt (wpAny_callSpecial?_slot (name := Str.ofString "__next__") hT slot_acc_next
      (wpAny_call_entry slot_acc_next hT entry_acc_next ?_ (args_acc_next _))))
    show wpAny _ _ (field (.ref (h0.objs.size + 1)) 3 >>= _) _ _ _
    refine wpAny_bind (wpAny_field ha rfl (x := .none) rfl ?_)
    show wpAny _ _ (field (.ref (h0.objs.size + 1)) 0 >>= _) _ _ _
    refine wpAny_bind (wpAny_field ha rfl (x := .ref h0.objs.size) rfl ?_)
    refine wpAny_bind (itRaw_end (s := { s with heap := h, toks := tk }) hh hit hl (by have := hv.length; simp at this; simp [← this]) fun h' e hs' he => ?_)
    obtain ⟨o, ho, hc⟩ := he
    refine wpAny_bind (wpAny_isInstance (T := "StopIteration") (b := true) ⟨o, ho, hc⟩ isSubtype_stop ?_)
    refine wpAny_pure (hQ h' tk ⟨fun b o e => hs' b o (Nat.ne_of_lt (Heap.lt_size e)) (k0 b o e), vals_of_at (by rw [e1, psums_len]) fun j x hx => ?_⟩ (hs' S _ (Nat.ne_of_gt (Nat.lt_trans (Nat.lt_succ_self _) hS)) hS'))
    have hj : j < xs.length := by rw [← psums_len xs 0]; exact (List.getElem?_eq_some_iff.mp hx).1
    rw [psums_get xs 0 j hj] at hx
    cases hx
    exact e2 j hj
end
section
variable {X : Cx} {e : Expr} {te : TE} {p p2 sp_ cpos pos : Pos}
/-- list(accumulate(e)) -/
theorem pe_listAcc {x : Str} (hc : X.calm = true) (he : PE X e te) (hg : Gl X "list") (hm : X.mg "list" = none) (hv : bootBuiltins "list" = some (.type "list")) (hg2 : Gl X x) (hm2 : X.mg x = some (.type "itertools.accumulate")) (hd2 : (x == ("__debug__" : Str)) = false := by decide)
    (hs : starEach [.Call (.Name x p2) [e] [] cpos] X.env = (false, eval (.Call (.Name x p2) [e] [] cpos) X.env) :: starEach [] X.env := by rfl)
    (hst : starEach [e] X.env = (false, eval e X.env) :: starEach [] X.env := by rfl) :
    PE X (.Call (.Name "list" p) [.Call (.Name x p2) [e] [] cpos] [] pos) (fun σ H Q => te σ H fun y H1 => ∃ a xs, y = V.ref a ∧ H1 a = some (.lst (xs.map V.int)) ∧ ∀ S, H1 S = none → Q (.ref S) (upd H1 S (.lst ((psums 0 xs).map V.int)))) := by
  refine ⟨fun pins s σ H Q I hq => ?_⟩
  refine wpAny_Call_Name_kw (ld_blt I hg hm hv ?_)
  refine PyProof.Rows.callWith_type1 ?_ hs rfl
  rw [hs]
  show wpAny _ _ (spliced ((false, eval (.Call (.Name x p2) [e] [] cpos) X.env) :: backTo pos (starEach [] X.env))) _ _ s
  refine Calls.spliced_cons ?_
  refine wpAny_Call_Name_kw (ld_glob I hg2 hm2 ?_ hd2)
  refine PyProof.Rows.callWith_type1 ?_ hst rfl
  rw [hst]
  refine Calls.spliced_cons ?_
  refine thn (he.run pins s σ H _ I hq) fun v s1 ⟨y, H1, I1, ry, a, xs, ey, hx, q⟩ => ?_
  subst ey
  obtain rfl : v = Value.ref a := ry
  refine Calls.spliced_nil ?_
  obtain ⟨its, rv, pl, hz⟩ := I1.list (.of hx)
  have hl := pl.isList
  have hal : a < s1.heap.objs.size := pl.lt
  refine acc_call hl ?_
  refine Calls.spliced_nil ?_
  have hAh : X.A.handled = none := I1.ok.hd hc
  have hsz : (accH s1.heap a).objs.size = s1.heap.objs.size + 2 := by unfold accH; rw [Heap.size_push, Heap.size_push]
  have kk : ∀ b o, s1.heap.get? b = some o → (accH s1.heap a).get? b = some o := fun b o e => Heap.get?_push_of_some _ (Heap.get?_push_of_some _ e)
  have ha0 : IsAcc (accH s1.heap a) (s1.heap.objs.size + 1) s1.heap.objs.size (.int 0 0) := by
    have : (accH s1.heap a).get? (s1.heap.push (itO true a)).objs.size = some { cls := .type "itertools.accumulate", dict := none, data := .fields #[.ref s1.heap.objs.size, .none, .int 0 0, .none], slots := #[] } := Heap.get?_push_size _ rfl
    rw [Heap.size_push] at this
    exact this
  have hi0 : (accH s1.heap a).IsListIter s1.heap.objs.size a 0 := itO_at (kd := true) (Heap.get?_push_of_some _ (Heap.get?_push_size _ rfl))
  have hxl : xs.length ≤ sizeLine := by have h1 := hz; have h2 := rv.length; rw [List.length_map] at h2; simp at h1; omega
  have D := acc_drw (prog := X.prog) (w := X.w) (A := X.A.in1.in1) (s := { s1 with heap := accH s1.heap a }) (h0 := s1.heap) (l := a) (S := s1.heap.objs.size + 2) (xs := xs) (its := its) hAh hal (Nat.lt_succ_self _) rv
  rw [← hsz] at D
  refine drw_call (T := "itertools.accumulate") (s := { s1 with heap := accH s1.heap a }) ⟨_, ha0, rfl⟩ acc_no_len acc_no_hint (by decide) (by decide) (fun A' h' Q' E' hk q => acc_iter (s := { s1 with heap := h' }) (hk _ _ ha0) q) D hxl
    ⟨Nat.zero_le _, ⟨0, by cases xs <;> exact ha0⟩, hi0, hl.at fun o e => kk _ o e, kk, rfl, fun j hj => absurd hj (Nat.not_lt_zero j)⟩ ?_
  intro h' tk acc c ⟨hk, hvv⟩ hal2 hS
  dsimp only at hS ⊢
  have hSn : s1.heap.objs.size ≤ (accH s1.heap a).objs.size := by rw [hsz]; exact Nat.le_add_right _ _
  have new : ObjOk X.prog X.w (upd H1 (accH s1.heap a).objs.size (.lst ((psums 0 xs).map V.int))) h' (accH s1.heap a).objs.size (.lst ((psums 0 xs).map V.int)) := ⟨by rw [List.length_map, psums_len]; exact hxl, acc, c, hvv, hS⟩
  exact ⟨.ref _, _, I1.turnedNew (ch := []) (fun b o _ e => hk b o e) (fun b hb => by cases hb) hSn new, rfl, q _ (I1.hok.fresh hSn)⟩
end
end Dn

set_option maxHeartbeats 1000000
/-! W10: list(accumulate(..)), list(zip(*x)) over data. -/
namespace Dn
open PySem PySem.Spec PyProof.Rows L2
open Evl (Ex fresh_back)
section
variable {X : Cx} {e : Expr} {p p2 sp_ cpos pos : Pos}
def gAcc : D → Option D
  | .list ds => (intsOf ds).map fun ns => .list ((psums 0 ns).map PyData.int)
  | _ => none
theorem den_listAcc {x : Str} {F : Mo D} (he : DenE X e F) (hc : X.calm = true) (hg : Gl X "list") (hm : X.mg "list" = none) (hg2 : Gl X x) (hm2 : X.mg x = some (.type "itertools.accumulate")) (hd2 : (x == ("__debug__" : Str)) = false := by decide)
    (hs : starEach [.Call (.Name x p2) [e] [] cpos] X.env = (false, eval (.Call (.Name x p2) [e] [] cpos) X.env) :: starEach [] X.env := by rfl)
    (hst : starEach [e] X.env = (false, eval e X.env) :: starEach [] X.env := by rfl) :
    DenE X (.Call (.Name "list" p) [.Call (.Name x p2) [e] [] cpos] [] pos) (mMap gAcc F) := by
  obtain ⟨t, h1, h2⟩ := he
  refine ⟨_, pe_listAcc hc h1 hg hm (by rfl) hg2 hm2 hd2 hs hst, fun P b σ env G H d env' rr h Q q => ?_⟩
  obtain ⟨z, hk, hz⟩ := mMap_some h
  refine h2 P b σ env G H _ _ rr hk _ fun v G1 H1 g r rp => ?_
  unfold gAcc at hz
  split at hz
  · rename_i ds
    cases hi : intsOf ds with
    | none => rw [hi] at hz; cases hz
    | some ns =>
      rw [hi] at hz
      cases hz
      have e1 := intsOf_some hi
      subst e1
      obtain ⟨a, xs, rfl, hG, ra⟩ := rp.inv_list
      rw [ra.ints] at hG
      refine ⟨a, ns, rfl, r.sub _ _ hG, fun S hS => ?_⟩
      have pu := Pu.new (o := .lst ((psums 0 ns).map V.int)) r.sub hS
      exact q _ _ _ (g.trans (pu.gr r.fresh)) (r.pu pu) (.lst upd_same (RpAll.ofInts _))
  · cases hz
def seqsOf : List D → Option (List (List D))
  | [] => some []
  | d :: ds => match gSeq d, seqsOf ds with
    | some r, some rs => some (r :: rs)
    | _, _ => none
def colD (rs : List (List D)) (m : Nat) : List D := (List.range m).map fun j => .tuple (rs.map fun r => r.getD j .none)
def gZipS (x : D) : Option D :=
  match gSeq x with
  | none => none
  | some ds => match seqsOf ds with
    | some (r :: rs) => if 1 ≤ r.length ∧ rs.length < 1000 ∧ (rs.all fun q => q.length == r.length) = true then some (.list (colD (r :: rs) r.length)) else none
    | _ => none
theorem seqs_rp {G : Hp} : ∀ {ds : List D} {vs : List V} {qs : List (List D)}, RpAll G vs ds → seqsOf ds = some qs → ∃ rs : Seqs, vs = rs.map (fun q => V.ref q.2.1) ∧ rs.length = qs.length ∧ (∀ q ∈ rs, G q.2.1 = some (hoS q.1 q.2.2)) ∧
    ∀ (j : Nat) q r, rs[j]? = some q → qs[j]? = some r → RpAll G q.2.2 r
  | [], _, _, .nil, h => by
    cases h
    exact ⟨[], rfl, rfl, (fun q hq => by cases hq), (fun j q r e _ => by simp at e)⟩
  | d :: ds, _, qs, .cons ra rb, h => by
    unfold seqsOf at h
    split at h
    · rename_i r rs h1 h2
      cases h
      obtain ⟨kd, a, vs, e1, e2, e3⟩ := ra.seq h1
      obtain ⟨rs', f1, f2, f3, f4⟩ := seqs_rp rb h2
      subst e1
      refine ⟨(kd, a, vs) :: rs', by rw [f1]; rfl, by simp [f2], fun q hq => ?_, fun j q r' k1 k2 => ?_⟩
      · rcases List.mem_cons.mp hq with z | z
        · subst z; exact e2
        · exact f3 q z
      · cases j with
        | zero => cases k1; cases k2; exact e3
        | succ j => exact f4 j q r' k1 k2
    · cases h
theorem getD_rpD {G : Hp} : ∀ {vs : List V} {ds : List D} (j : Nat), RpAll G vs ds → Rp G (vs.getD j .non) (ds.getD j .none)
  | _, _, _, .nil => .non
  | _, _, 0, .cons h _ => h
  | _, _, j + 1, .cons _ t => getD_rpD j t
theorem col_rp {G : Hp} {j : Nat} : ∀ {rs : Seqs} {qs : List (List D)}, rs.length = qs.length → (∀ (i : Nat) q r, rs[i]? = some q → qs[i]? = some r → RpAll G q.2.2 r) → RpAll G (rs.map fun q => q.2.2.getD j .non) (qs.map fun r => r.getD j .none)
  | [], [], _, _ => .nil
  | [], _ :: _, h, _ => by cases h
  | _ :: _, [], h, _ => by cases h
  | q :: rs, r :: qs, h, k => .cons (getD_rpD j (k 0 q r rfl rfl)) (col_rp (by simpa using h) fun i q' r' e1 e2 => k (i + 1) q' r' e1 e2)
theorem den_listZipS {F : Mo D} (he : DenE X e F) (hc : X.calm = true) (hg : Gl X "list") (hm : X.mg "list" = none) (hg2 : Gl X "zip") (hm2 : X.mg "zip" = none)
    (hs : starEach [.Call (.Name "zip" p2) [.Starred e sp_] [] cpos] X.env = (false, eval (.Call (.Name "zip" p2) [.Starred e sp_] [] cpos) X.env) :: starEach [] X.env := by rfl)
    (hst : starEach [.Starred e sp_] X.env = [(true, eval e X.env)] := by rfl) :
    DenE X (.Call (.Name "list" p) [.Call (.Name "zip" p2) [.Starred e sp_] [] cpos] [] pos) (mMap gZipS F) := by
  obtain ⟨t, h1, h2⟩ := he
  refine ⟨_, pe_listZipS hc h1 hg hm (by rfl) hg2 hm2 (by rfl) hs hst, fun P b σ env G H d env' rr h Q q => ?_⟩
  obtain ⟨z, hk, hz⟩ := mMap_some h
  refine h2 P b σ env G H _ _ rr hk _ fun v G1 H1 g r rp => ?_
  unfold gZipS at hz
  split at hz
  · cases hz
  · rename_i ds hds
    split at hz
    · rename_i r0 rs0 hq
      split at hz
      · rename_i hcond
        cases hz
        obtain ⟨h1m, hlen, hall⟩ := hcond
        obtain ⟨kd, a, vs, e1, e2, e3⟩ := rp.seq hds
        subst e1
        obtain ⟨rs, f1, f2, f3, f4⟩ := seqs_rp e3 hq
        have hm : ∀ q ∈ rs, q.2.2.length = r0.length := fun q' hq' => by
          obtain ⟨j, hj⟩ := List.mem_iff_getElem?.mp hq'
          have hjl : j < (r0 :: rs0).length := by rw [← f2]; exact (List.getElem?_eq_some_iff.mp hj).1
          have e4 : (r0 :: rs0)[j]? = some ((r0 :: rs0)[j]) := List.getElem?_eq_getElem hjl
          rw [(f4 j q' _ hj e4).length]
          have : (r0 :: rs0)[j] ∈ r0 :: rs0 := List.getElem_mem hjl
          rcases List.mem_cons.mp this with z | z
          · rw [z]
          · have := List.all_eq_true.mp hall _ z
            simpa using this
        have hsq : SqT X.K H1 a vs ∨ SqL X.K H1 a vs := by
          cases kd with
          | true => exact .inr (.of (r.sub _ _ e2))
          | false => exact .inl (.of (r.sub _ _ e2))
        refine ⟨a, vs, rfl, hsq, rs, r0.length, f1, (fun z => by rw [z] at f2; cases f2), by rw [f2, List.length_cons]; omega, h1m, fun q' hq' => ⟨r.sub _ _ (f3 q' hq'), hm q' hq'⟩, fun S as hS has hSn hnd hal => ?_⟩
        have p1 := Pu.new (o := .lst (as.map V.ref)) r.sub hS
        have p2 := putTs_ex p1.s as (colV rs r0.length) (fun a' ha' => by rw [upd_ne (fun z => hSn (by rw [← z]; exact ha'))]; exact has a' ha') hnd
        have pu := p1.trans p2
        refine q _ _ _ (g.trans (pu.gr r.fresh)) (r.pu pu) ?_
        refine .lst (xs := as.map V.ref) ?_ ?_
        · rw [putTs_off as _ _ hSn, upd_same]
        · refine RpAll.of_get (by simp [hal, colD]) fun j v d' k1 k2 => ?_
          rw [List.getElem?_map] at k1
          unfold colD at k2
          rw [List.getElem?_map] at k2
          cases ea : as[j]? with
          | none => rw [ea] at k1; cases k1
          | some a' =>
            rw [ea] at k1
            cases k1
            have hj : j < r0.length := by rw [← hal]; exact (List.getElem?_eq_some_iff.mp ea).1
            rw [List.getElem?_range hj] at k2
            cases k2
            have ec : (colV rs r0.length)[j]? = some (rs.map fun q => q.2.2.getD j .non) := by
              unfold colV
              rw [List.getElem?_map, List.getElem?_range hj]
              rfl
            exact .tup (putTs_at as _ _ hnd j a' _ ea ec) ((col_rp f2 f4).mono pu.g)
      · cases hz
    · cases hz
end
end Dn

set_option maxHeartbeats 1000000
/-! W11: stars in displays, isinstance, type(x) is not int, xs[::-1], reversed lists. -/
namespace Dn
open PySem PySem.Spec PyProof.Rows L2
open Evl (Ex fresh_back)
section
variable {X : Cx} {e : Expr} {p p2 sp_ cpos pos : Pos}
def mStar (m : Mo D) (n : Mo (List D)) : Mo (List D) := mBind (mMap gSeq m) fun x => mBind n fun xs => mRet (x ++ xs)
theorem dena_star {es : List Expr} {F : Mo D} {F' : Mo (List D)} (h : DenE X e F) (hr : DenA X es F') (hs : starEach (.Starred e p :: es) X.env = (true, eval e X.env) :: starEach es X.env := by rfl) : DenA X (.Starred e p :: es) (mStar F F') := by
  obtain ⟨t, h1, h2⟩ := h
  obtain ⟨u, k1, k2⟩ := hr
  refine ⟨_, StX.pa_star h1 k1 hs, fun P b σ env G H d env' rr h Q q => ?_⟩
  obtain ⟨x, e1, hx, hA⟩ := mBind_some h
  obtain ⟨y, e2, hy, hB⟩ := mBind_some hA
  obtain ⟨rfl, rfl⟩ := mRet_some hB
  obtain ⟨z, hz, hg⟩ := mMap_some hx
  refine h2 P b σ env G H z e1 rr hz _ fun v G1 H1 g1 r1 p1 => ?_
  obtain ⟨kd, a, vs, rfl, ha, ra⟩ := p1.seq hg
  have hsq : SqT X.K H1 a vs ∨ SqL X.K H1 a vs := by
    cases kd with
    | true => exact .inr (.of (r1.sub _ _ ha))
    | false => exact .inl (.of (r1.sub _ _ ha))
  exact ⟨a, vs, rfl, hsq, k2 P b σ e1 G1 H1 y _ r1 hy _ fun ws G2 H2 g2 r2 p2 => q _ G2 H2 (g1.trans g2) r2 ((ra.mono g2.g).append p2)⟩

/-! ### kinds -/
def tyD : D → Option String
  | .none => some "NoneType"
  | .bool _ => some "bool"
  | .int _ => some "int"
  | .str _ => some "str"
  | .list _ => some "list"
  | .tuple _ => some "tuple"
  | _ => none
theorem Rp.tyX {K : PySem.W.Frag} {G H : Hp} {v : V} {d : D} {T : String} (s : Ex G H) (r : Rp G v d) (h : tyD d = some T) : TyX K H v (.type T) := by
  cases r with
  | non => cases h; exact .base .non
  | bl b => cases h; exact .base (.bl b)
  | int i => cases h; exact .base (.int i)
  | str x => cases h; exact .base (.str x)
  | lst ha ra => cases h; exact .base (.lst (s _ _ ha))
  | tup ha ra => cases h; exact .base (.tup (s _ _ ha))
  | dK ha hl ra => cases h
  | dT ha hl ra => cases h
  | scr ha ra => cases h
theorem Rp.tyB {K : PySem.W.Frag} {G H : Hp} {v : V} {d : D} {T : String} (s : Ex G H) (r : Rp G v d) (h : tyD d = some T) : TyB K H v T := by
  cases r with
  | non => cases h; exact .non
  | bl b => cases h; exact .bl b
  | int i => cases h; exact .int i
  | str x => cases h; exact .str x
  | lst ha ra => cases h; exact .lst (.of (s _ _ ha))
  | tup ha ra => cases h; exact .tup (.of (s _ _ ha))
  | dK ha hl ra => cases h
  | dT ha hl ra => cases h
  | scr ha ra => cases h
/-- isinstance(x, T) -/
structure IsiD (T : String) (g : D → Option D) : Prop where
  r : ∀ d z, g d = some z → ∃ U b, tyD d = some U ∧ z = .bool b ∧ kitB U T = some b
  name : (T : Str) ≠ "__name__"
  dbg : ((T : Str) == ("__debug__" : Str)) = false
def gIsInt : D → Option D
  | .int _ => some (.bool true)
  | .bool _ => some (.bool true)
  | .none => some (.bool false)
  | .str _ => some (.bool false)
  | .list _ => some (.bool false)
  | .tuple _ => some (.bool false)
  | _ => none
def gIsBool : D → Option D
  | .bool _ => some (.bool true)
  | .int _ => some (.bool false)
  | .none => some (.bool false)
  | .str _ => some (.bool false)
  | .list _ => some (.bool false)
  | .tuple _ => some (.bool false)
  | _ => none
def gIsTuple : D → Option D
  | .tuple _ => some (.bool true)
  | .int _ => some (.bool false)
  | .bool _ => some (.bool false)
  | .none => some (.bool false)
  | .str _ => some (.bool false)
  | .list _ => some (.bool false)
  | _ => none
theorem isi_int : IsiD "int" gIsInt := ⟨fun d z h => by
  cases d <;> cases h <;> exact ⟨_, _, rfl, rfl, by decide +kernel⟩, by decide, by decide⟩
theorem isi_bool : IsiD "bool" gIsBool := ⟨fun d z h => by
  cases d <;> cases h <;> exact ⟨_, _, rfl, rfl, by decide +kernel⟩, by decide, by decide⟩
theorem isi_tuple : IsiD "tuple" gIsTuple := ⟨fun d z h => by
  cases d <;> cases h <;> exact ⟨_, _, rfl, rfl, by decide +kernel⟩, by decide, by decide⟩
theorem den_isi {T : String} {g : D → Option D} {F : Mo D} (k : IsiD T g) (h : DenE X e F) (hg : Gl X "isinstance") (hm : X.mg "isinstance" = none) (hgT : Gl X T) (hmT : X.mg T = none) (hvT : bootBuiltins T = some (.type T))
    (hs : starEach [e, .Name T p2] X.env = (false, eval e X.env) :: starEach [.Name T p2] X.env := by rfl) (hs2 : starEach [.Name T p2] X.env = (false, eval (.Name T p2) X.env) :: starEach [] X.env := by rfl)
    (hpl : (backTo pos (starEach [.Name T p2] X.env)).any (·.1) = false := by rfl) :
    DenE X (.Call (.Name "isinstance" p) [e, .Name T p2] [] pos) (mMap g F) := by
  obtain ⟨t, h1, h2⟩ := h
  refine ⟨_, pe_callB call_isi hg hm rfl (pa_cons h1 (pa_cons (pe_bltn (v := .ty T) hgT hmT hvT rfl k.name k.dbg) pa_nil hs2) hs) (by decide) (by decide) hs hpl, fun P b σ env G H d env' rr h Q q => ?_⟩
  obtain ⟨z, hk, hz⟩ := mMap_some h
  obtain ⟨U, bb, e1, e2, e3⟩ := k.r z d hz
  subst e2
  refine h2 P b σ env G H z env' rr hk _ fun v G1 H1 g1 r1 p1 => ?_
  exact ⟨v, .ty T, _, _, bb, rfl, .ty T, p1.tyX r1.sub e1, kit_ty e3, q _ G1 H1 g1 r1 (.bl bb)⟩
/-- type(x) is not int -/
def gTyNotInt : D → Option D := fun d => (tyD d).map fun T => .bool (!decide (T = "int"))
theorem opD_dummy : True := trivial
theorem tyNot {F : Mo D} (h : DenE X e F) (hg : Gl X "type") (hm : X.mg "type" = none) (hgT : Gl X "int") (hmT : X.mg "int" = none)
    (hs : starEach [e] X.env = (false, eval e X.env) :: starEach [] X.env := by rfl) :
    (∃ t : TE, PE X (.Call (.Name "type" p) [e] [] cpos) t ∧ ∀ (P : Addr → Prop) (b : Bs) (σ : L2.St) (env : DEnv) (G H : Hp) (T : String) (d : D) (env' : DEnv), Rep P b G H σ env → F env = some (d, env') → tyD d = some T →
      ∀ Q : VK, (∀ G' H', Gr P G H G' H' → Rep P b G' H' σ env' → Q (.ty T) H') → t σ H Q) := by
  obtain ⟨t, h1, h2⟩ := h
  refine ⟨_, pe_callTy call_type1 hg hm (by decide +kernel) (pa_cons h1 pa_nil hs) (by decide) (by decide) hs rfl, fun P b σ env G H T d env' rr hF hT Q q => ?_⟩
  exact h2 P b σ env G H d env' rr hF _ fun v G1 H1 g1 r1 p1 => ⟨v, T, rfl, p1.tyB r1.sub hT, q G1 H1 g1 r1⟩
theorem dene_tyNotInt {F : Mo D} (h : DenE X e F) (hg : Gl X "type") (hm : X.mg "type" = none) (hgT : Gl X "int") (hmT : X.mg "int" = none)
    (hs : starEach [e] X.env = (false, eval e X.env) :: starEach [] X.env := by rfl) (hmk : behindInMarks .IsNot (.Name "int" p2) = false := by rfl) :
    DenE X (.Compare (.Call (.Name "type" p) [e] [] cpos) [.IsNot] [.Name "int" p2] pos) (mMap gTyNotInt F) := by
  obtain ⟨t, h1, h2⟩ := tyNot (p := p) (cpos := cpos) h hg hm hgT hmT hs
  refine ⟨_, pe_cmpR op_notTyB h1 (pe_bltn (v := .ty "int") hgT hmT rfl rfl (by decide) (by decide)) hmk, fun P b σ env G H d env' rr h Q q => ?_⟩
  obtain ⟨z, hk, hz⟩ := mMap_some h
  unfold gTyNotInt at hz
  cases hT : tyD z with
  | none => rw [hT] at hz; cases hz
  | some T =>
    rw [hT] at hz
    cases hz
    exact h2 P b σ env G H T z env' rr hk hT _ fun G1 H1 g1 r1 => ⟨T, "int", rfl, rfl, q _ G1 H1 g1 r1 (.bl _)⟩
theorem dent_tyNotInt {F : Mo D} (h : DenE X e F) (hg : Gl X "type") (hm : X.mg "type" = none) (hgT : Gl X "int") (hmT : X.mg "int" = none)
    (hs : starEach [e] X.env = (false, eval e X.env) :: starEach [] X.env := by rfl) (hmk : behindInMarks .IsNot (.Name "int" p2) = false := by rfl) :
    DenT X (.Compare (.Call (.Name "type" p) [e] [] cpos) [.IsNot] [.Name "int" p2] pos) (mMap gB (mMap gTyNotInt F)) := by
  obtain ⟨t, h1, h2⟩ := tyNot (p := p) (cpos := cpos) h hg hm hgT hmT hs
  refine ⟨_, pt_cmpR op_notTyB h1 (pe_bltn (v := .ty "int") hgT hmT rfl rfl (by decide) (by decide)) hmk, fun P b σ env G H d env' rr h Q q => ?_⟩
  obtain ⟨z0, h, hz0⟩ := mMap_some h
  obtain ⟨z, hk, hz⟩ := mMap_some h
  unfold gTyNotInt at hz
  cases hT : tyD z with
  | none => rw [hT] at hz; cases hz
  | some T =>
    rw [hT] at hz
    cases hz
    cases hz0
    exact h2 P b σ env G H T z env' rr hk hT _ fun G1 H1 g1 r1 => ⟨T, "int", rfl, rfl, _, rfl, q G1 H1 g1 r1⟩

/-! ### xs[::-1], reversed(xs) -/
def gRevL : D → Option D
  | .list ds => some (.list ds.reverse)
  | _ => none
theorem den_revL {F : Mo D} {k : Nat} {p1 p2 p3 : Pos} (h : DenE X e F) : DenE X (.Subscript e (.Slice none none (some (.UnaryOp .USub (.Constant (.int 1) k p1) p2)) p3) pos) (mMap gRevL F) := by
  obtain ⟨t, h1, h2⟩ := h
  refine ⟨_, pe_revL h1, fun P b σ env G H d env' rr h Q q => ?_⟩
  obtain ⟨z, hk, hz⟩ := mMap_some h
  refine h2 P b σ env G H z env' rr hk _ fun v G1 H1 g1 r1 p1 => ?_
  cases p1 with
  | lst ha ra =>
    rename_i a xs ds
    cases hz
    refine ⟨a, xs, rfl, .of (r1.sub _ _ ha), fun y hy => ?_⟩
    have pu := Pu.new (o := .lst xs.reverse) r1.sub hy
    exact q _ _ _ (g1.trans (pu.gr r1.fresh)) (r1.pu pu) (.lst upd_same (ra.reverse.mono pu.g))
  | _ => cases hz
def gRevI : List D → Option (List D)
  | [.list ds] => some ds.reverse
  | _ => none
theorem deni_rev {tg : Expr} {F : Mo (List D)} (hg : Gl X "reversed") (hm : X.mg "reversed" = none) (h : DenA X [e] F) (hs : starEach [e] X.env = [(false, eval e X.env)] := by rfl) :
    DenI X tg (.Call (.Name "reversed" p) [e] [] pos) (mMap gRevI F) := by
  obtain ⟨t, h1, h2⟩ := h
  refine ⟨_, pi_reversed hg hm h1 hs, fun P b σ env G H ds env' rr h R q => ?_⟩
  obtain ⟨z, hk, hz⟩ := mMap_some h
  refine h2 P b σ env G H z env' rr hk _ fun v G' H' g r p => ?_
  unfold gRevI at hz
  split at hz
  · rename_i es
    cases hz
    obtain ⟨w, rfl, hw⟩ := p.inv1
    obtain ⟨a, xs, rfl, ha, ra⟩ := hw.inv_list
    refine ⟨a, xs, rfl, .of (r.sub _ _ ha), q _ G' H' g r fun i G1 H1 e1 e2 => ⟨fun hi => ?_, fun d hd => ?_⟩⟩
    · show xs.length ≤ i
      rw [List.length_reverse] at hi
      rw [ra.length]
      exact hi
    · have hl : i < es.length := by have := (List.getElem?_eq_some_iff.mp hd).1; simpa using this
      have hr := ra.length
      rw [List.getElem?_reverse hl] at hd
      obtain ⟨x, hx, rx⟩ := ra.get hd
      rw [← hr] at hx
      refine ⟨⟨by omega, xs, x, .of (e2 _ _ (e1 _ _ ha)), hx⟩, fun y H' hy => ?_⟩
      obtain ⟨rfl, hy⟩ := hy
      have := hy xs (.of (e2 _ _ (e1 _ _ ha)))
      rw [hx] at this
      cases this
      exact ⟨G1, Pu.refl e2, rx.mono e1⟩
  · cases hz
end
end Dn

set_option maxHeartbeats 1000000
/-! W12: dict comprehensions (keys that don't come twice), x in d. -/
namespace Dn
open PySem PySem.Spec PyProof.Rows L2
open Evl (Ex fresh_back)
def keyOf : D → Option Key
  | .int i => some (.inl i)
  | .str x => some (.inr x)
  | _ => none
theorem keyOf_rp {G : Hp} {v : V} {d : D} {k : Key} (h : keyOf d = some k) (r : Rp G v d) : v = kV k ∧ d = keyD k := by
  cases r with
  | int i => cases h; exact ⟨rfl, rfl⟩
  | str x => cases h; exact ⟨rfl, rfl⟩
  | _ => cases h
def dcGo (tgt : D → DEnv → Option DEnv) (test : Mo Bool) (kx vx : Mo D) (vs : List Nat) : List D → List Key → DEnv → Option (List Key × List D × DEnv)
  | [], _, e => some ([], [], e)
  | d :: ds, ks, e =>
    match tgt d e with
    | none => none
    | some e1 =>
      match test e1 with
      | none => none
      | some (b, e2) =>
        if b = true then
          match kx e2 with
          | none => none
          | some (kd, e3) =>
            match vx e3, keyOf kd with
            | some (y, e4), some k =>
              if (ks.any fun k' => decide (k' = k)) = true then none else
              match dcGo tgt test kx vx vs ds (ks ++ [k]) (wipeD e4 vs) with
              | none => none
              | some (ks', ys, e5) => some (k :: ks', y :: ys, e5)
            | _, _ => none
        else dcGo tgt test kx vx vs ds ks (wipeD e2 vs)
def mDc (items : Mo (List D)) (tgt : D → DEnv → Option DEnv) (test : Mo Bool) (kx vx : Mo D) (vs : List Nat) : Mo D := fun env =>
  match items env with
  | none => none
  | some (ds, e1) =>
    if decide (ds.length ≤ 100000) && okW e1 vs then
      match dcGo tgt test kx vx vs ds [] (wipeD e1 vs) with
      | none => none
      | some (ks, ys, e2) => some (.dict ((ks.map keyD).zip ys), restD e1 e2 vs)
    else none
theorem putK_new {kvs : List (Key × V)} {k : Key} {v : V} (h : k ∉ kvs.map (·.1)) : putK kvs k v = kvs ++ [(k, v)] := by
  unfold putK
  rw [if_neg]
  intro z
  rw [List.any_eq_true] at z
  obtain ⟨p, hp, e⟩ := z
  exact h (List.mem_map.mpr ⟨p, hp, by simpa using e⟩)
theorem zip_keys {ks : List Key} {xs : List V} (h : ks.length = xs.length) : (ks.zip xs).map (·.1) = ks := by
  rw [List.map_fst_zip]
  omega
section
variable {X : Cx} {tg e iter kx vx : Expr} {pos : Pos} {ifs : List Expr} {scope : Scope}
theorem dc_run {ts vs : List Nat} {Fi : Mo (List D)} {B : D → DEnv → Option DEnv} {Ft : Mo Bool} {Fk Fv : Mo D} {wi : TI} {g : TG} {tt : TT} {tk tv : TE}
    (i2 : ∀ (P : Addr → Prop) (b : Bs) (σ : L2.St) (env : DEnv) (G H : Hp) (ds : List D) (env' : DEnv), Rep P b G H σ env → Fi env = some (ds, env') →
      ∀ R : It → Hp → Prop, (∀ J G' H', Gr P G H G' H' → Rep P b G' H' σ env' → Yields J G' ds → R J H') → wi σ H R)
    (g2 : ∀ (P : Addr → Prop) (b : Bs) (σ : L2.St) (env : DEnv) (G H : Hp) (v : V) (d : D) (env' : DEnv), Rep P b G H σ env → Rp G v d → B d env = some env' →
      ∀ Q : L2.St → Hp → Prop, (∀ σ' : L2.St, Rep P b G H σ' env' → σ'.length = σ.length → (∀ j : Nat, j ∉ ts → σ'[j]? = σ[j]?) → Q σ' H) → g v σ H Q)
    (t2 : ∀ (P : Addr → Prop) (b : Bs) (σ : L2.St) (env : DEnv) (G H : Hp) (d : Bool) (env' : DEnv), Rep P b G H σ env → Ft env = some (d, env') →
      ∀ Q : Bool → Hp → Prop, (∀ G' H', Gr P G H G' H' → Rep P b G' H' σ env' → Q d H') → tt σ H Q)
    (k2 : ∀ (P : Addr → Prop) (b : Bs) (σ : L2.St) (env : DEnv) (G H : Hp) (d : D) (env' : DEnv), Rep P b G H σ env → Fk env = some (d, env') →
      ∀ Q : VK, (∀ v G' H', Gr P G H G' H' → Rep P b G' H' σ env' → Rp G' v d → Q v H') → tk σ H Q)
    (v2 : ∀ (P : Addr → Prop) (b : Bs) (σ : L2.St) (env : DEnv) (G H : Hp) (d : D) (env' : DEnv), Rep P b G H σ env → Fv env = some (d, env') →
      ∀ Q : VK, (∀ v G' H', Gr P G H G' H' → Rep P b G' H' σ env' → Rp G' v d → Q v H') → tv σ H Q)
    (hts : ∀ j ∈ ts, j ∈ vs) {P : Addr → Prop} {b : Bs} {σ : L2.St} {env : DEnv} {G H : Hp} {out : D} {env' : DEnv} (rr : Rep P b G H σ env) (h : mDc Fi B Ft Fk Fv vs env = some (out, env')) (Q : VK)
    (q : ∀ (p : Addr) (ks : List Key) (xs : List V) (G' H' : Hp) (ds : List D), Gr P G H G' H' → Rep (fun a => P a ∧ a ≠ p) b G' H' σ env' → P p → G' p = none → H' p = some (.dK (ks.zip xs)) → ks.length = xs.length → RpAll G' xs ds → out = .dict ((ks.map keyD).zip ds) → Q (.ref p) H') : tDc wi g tt tk tv vs σ H Q := by
  unfold mDc at h
  cases w : Fi env with
  | none => rw [w] at h; cases h
  | some pr =>
    obtain ⟨ds, e1⟩ := pr
    simp only [w] at h
    split at h
    · rename_i hc
      rw [Bool.and_eq_true, decide_eq_true_eq] at hc
      obtain ⟨hlen, hok⟩ := hc
      cases w2 : dcGo B Ft Fk Fv vs ds [] (wipeD e1 vs) with
      | none => simp only [w2] at h; cases h
      | some pr2 =>
        obtain ⟨kf, ys, ef⟩ := pr2
        simp only [w2] at h
        cases h
        refine i2 P b σ env G H ds e1 rr w _ fun J G1 H1 gr1 r1 hy Dl hD => ?_
        have hPD : P Dl := r1.fresh Dl hD
        have hGD : G1 Dl = none := fresh_back r1.sub hD
        have start0 : Rep (fun a => P a ∧ a ≠ Dl) b G1 (upd H1 Dl (.dK [])) (wipe σ vs) (wipeD e1 vs) := (r1.wipe vs).newH hD
        have gr0 : Gr P G1 H1 G1 (upd H1 Dl (.dK [])) := ⟨Ex.refl _, fun a o ha n => by
          rw [upd_ne (ne_of_none ha hD)]
          exact ha, fun _ _ n => n⟩
        refine ⟨fun i m H' => m = ds.length - i ∧ i ≤ ds.length ∧ ∃ (e : DEnv) (G' : Hp) (ks : List Key) (acc : List V) (accd : List D) (zk : List Key) (zs : List D), Gr P G1 H1 G' H' ∧ Rep (fun a => P a ∧ a ≠ Dl) b G' H' (wipe σ vs) e ∧ H' Dl = some (.dK (ks.zip acc)) ∧ ks.length = acc.length ∧ G' Dl = none ∧ RpAll G' acc accd ∧ acc.length ≤ i ∧
          dcGo B Ft Fk Fv vs (ds.drop i) ks e = some (zk, zs, ef) ∧ ks ++ zk = kf ∧ accd ++ zs = ys, ⟨_, rfl, Nat.zero_le _, _, G1, [], [], [], kf, ys, gr0, start0, upd_same, rfl, hGD, .nil, Nat.zero_le _, by rw [List.drop_zero]; exact w2, rfl, rfl⟩, ?_⟩
        rintro i m H' ⟨rfl, hi, e, G', ks, acc, accd, zk, zs, gr, r', hacc, hkl, hGn, ra, hal, hf, hk', hout⟩
        by_cases hlt : i < ds.length
        · have hdi : ds[i]? = some ds[i] := List.getElem?_eq_getElem hlt
          obtain ⟨go, yl⟩ := (hy i G' H' gr.g r'.sub).2 _ hdi
          refine .inr ⟨go, fun H2 => i + 1 ≤ ds.length ∧ ∃ (e : DEnv) (G' : Hp) (ks : List Key) (acc : List V) (accd : List D) (zk : List Key) (zs : List D), Gr P G1 H1 G' H2 ∧ Rep (fun a => P a ∧ a ≠ Dl) b G' H2 (wipe σ vs) e ∧ H2 Dl = some (.dK (ks.zip acc)) ∧ ks.length = acc.length ∧ G' Dl = none ∧ RpAll G' acc accd ∧ acc.length ≤ i + 1 ∧
            dcGo B Ft Fk Fv vs (ds.drop (i + 1)) ks e = some (zk, zs, ef) ∧ ks ++ zk = kf ∧ accd ++ zs = ys, fun H2 h2 => ⟨ds.length - (i + 1), by omega, rfl, h2⟩, fun x H2 y => ?_⟩
          obtain ⟨G2, pu, rx⟩ := yl x H2 y
          rw [List.drop_eq_getElem_cons hlt] at hf
          unfold dcGo at hf
          have r2 := r'.pu pu
          have nP : ¬ (P Dl ∧ Dl ≠ Dl) := fun z => z.2 rfl
          have wk : ∀ {Ga Ha Gb Hb : Hp}, Gr (fun a => P a ∧ a ≠ Dl) Ga Ha Gb Hb → Gr P Ga Ha Gb Hb := fun g => g.wk fun x h => h.1
          have grA : Gr P G1 H1 G2 H2 := gr.trans (wk (pu.gr r'.fresh))
          have accA : H2 Dl = some (.dK (ks.zip acc)) := pu.h _ _ hacc
          have gnA : G2 Dl = none := pu.n Dl (some_ne hacc) hGn
          cases w3 : B ds[i] e with
          | none => simp only [w3] at hf; cases hf
          | some eb =>
            simp only [w3] at hf
            refine g2 _ b (wipe σ vs) e G2 H2 x _ eb r2 rx w3 _ fun σ2 r3 l3 o3 => ⟨wipe_eq l3 o3 hts, ?_⟩
            have ew : wipe σ2 vs = wipe σ vs := wipe_eq l3 o3 hts
            cases w4 : Ft eb with
            | none => simp only [w4] at hf; cases hf
            | some pr4 =>
              obtain ⟨k, et⟩ := pr4
              simp only [w4] at hf
              refine t2 _ b σ2 eb G2 H2 k et r3 w4 _ fun G3 H3 g3 r4 => ?_
              have accB : H3 Dl = some (.dK (ks.zip acc)) := g3.h _ _ accA nP
              have gnB : G3 Dl = none := g3.n Dl nP gnA
              cases k with
              | false =>
                simp only [if_neg (show ¬ (false = true) by decide)] at hf ⊢
                refine ⟨hlt, wipeD et vs, G3, ks, acc, accd, zk, zs, grA.trans (wk g3), ?_, accB, hkl, gnB, (ra.mono pu.g).mono g3.g, Nat.le_succ_of_le hal, hf, hk', hout⟩
                rw [← ew]
                exact r4.wipe vs
              | true =>
                simp only [if_pos (show true = true from rfl)] at hf ⊢
                cases w5 : Fk et with
                | none => simp only [w5] at hf; cases hf
                | some pr5 =>
                  obtain ⟨kd, ek⟩ := pr5
                  simp only [w5] at hf
                  refine k2 _ b σ2 et G3 H3 kd ek r4 w5 _ fun vk G4 H4 g4 r5 pk => ?_
                  have accC : H4 Dl = some (.dK (ks.zip acc)) := g4.h _ _ accB nP
                  have gnC : G4 Dl = none := g4.n Dl nP gnB
                  cases w6 : Fv ek with
                  | none => simp only [w6] at hf; cases hf
                  | some pr6 =>
                    obtain ⟨yd, ee⟩ := pr6
                    cases w7 : keyOf kd with
                    | none => simp only [w6, w7] at hf; cases hf
                    | some key =>
                      simp only [w6, w7] at hf
                      by_cases hnew : (ks.any fun k' => decide (k' = key)) = true
                      · rw [if_pos hnew] at hf
                        cases hf
                      · rw [if_neg hnew] at hf
                        cases w8 : dcGo B Ft Fk Fv vs (ds.drop (i + 1)) (ks ++ [key]) (wipeD ee vs) with
                        | none => simp only [w8] at hf; cases hf
                        | some pr8 =>
                          obtain ⟨ks8, ys8, e8⟩ := pr8
                          simp only [w8] at hf
                          cases hf
                          refine v2 _ b σ2 ek G4 H4 yd ee r5 w6 _ fun v G5 H5 g5 r6 pv => ?_
                          have accD : H5 Dl = some (.dK (ks.zip acc)) := g5.h _ _ accC nP
                          have gnD : G5 Dl = none := g5.n Dl nP gnC
                          obtain ⟨ekv, _⟩ := keyOf_rp w7 pk
                          have hnk : key ∉ (ks.zip acc).map (·.1) := by
                            rw [zip_keys hkl]
                            exact fun z => hnew (List.any_eq_true.mpr ⟨key, z, decide_eq_true rfl⟩)
                          have hput : putK (ks.zip acc) key v = (ks ++ [key]).zip (acc ++ [v]) := by
                            rw [putK_new hnk, List.zip_append hkl]
                            rfl
                          refine ⟨ks.zip acc, key, ekv, accD, line_lt (by rw [List.length_zip, hkl, Nat.min_self]; omega), hlt, wipeD ee vs, G5, ks ++ [key], acc ++ [v], accd ++ [yd], ks8, ys8, ?_, ?_, by rw [hput]; exact upd_same, by rw [List.length_append, List.length_append, hkl]; rfl, gnD, ((((ra.mono pu.g).mono g3.g).mono g4.g).mono g5.g).append (.cons pv .nil), by rw [List.length_append]; simpa using hal, w8, by rw [List.append_assoc]; exact hk', by rw [List.append_assoc]; exact hout⟩
                          · have gg := ((grA.trans (wk g3)).trans (wk g4)).trans (wk g5)
                            exact ⟨gg.g, fun a o ha n => by
                              rw [upd_ne (show a ≠ Dl from fun z => n (by rw [z]; exact hPD))]
                              exact gg.h a o ha n, gg.n⟩
                          · rw [← ew]
                            exact (r6.wipe vs).updH nP gnD
        · have e0 : i = ds.length := by omega
          subst e0
          rw [List.drop_length] at hf
          cases hf
          rw [List.append_nil] at hout hk'
          subst hout hk'
          exact .inl ⟨(hy _ G' H' gr.g r'.sub).1 (Nat.le_refl _), q Dl ks acc G' H' accd (gr1.trans gr) (r1.back r' gr.g hok) hPD hGn hacc hkl ra rfl⟩
    · cases h
theorem den_dc (own : List (Str × Nat)) {ts vs : List Nat} {Fi : Mo (List D)} {B : D → DEnv → Option DEnv} {Ft : Mo Bool} {Fk Fv : Mo D} (hc : X.calm = true) (hN : X.N.Nodup) (hi : DenI X tg iter Fi) (ok : BlkOk X.N X.env.scope scope own)
    (hg : ∀ (s : Shared) (H : Hp) (C : Addr) (cl : List (Str × Addr)) (fp : List Addr), DenG (X.blk s H scope (compEnvC scope cl C X.env) fp) tg ts B)
    (ht : ∀ (s : Shared) (H : Hp) (C : Addr) (cl : List (Str × Addr)) (fp : List Addr), DenTs (X.blk s H scope (compEnvC scope cl C X.env) fp) ifs Ft)
    (hk : ∀ (s : Shared) (H : Hp) (C : Addr) (cl : List (Str × Addr)) (fp : List Addr), DenE (X.blk s H scope (compEnvC scope cl C X.env) fp) kx Fk)
    (he : ∀ (s : Shared) (H : Hp) (C : Addr) (cl : List (Str × Addr)) (fp : List Addr), DenE (X.blk s H scope (compEnvC scope cl C X.env) fp) vx Fv)
    (hvs : own.map (·.2) = vs := by rfl) (hts : ∀ j ∈ ts, j ∈ vs := by decide) (hs : ∀ x, foldedSetIterable iter X.env x = pure x := by intro _; rfl) :
    DenE X (.DictComp kx vx [⟨tg, iter, ifs, 0⟩] scope pos) (mDc Fi B Ft Fk Fv vs) := by
  obtain ⟨wi, i1, i2⟩ := hi
  subst hvs
  exact ⟨_, pe_dc hc hN i1 ok (fun s H C cl fp => (hg s H C cl fp).pe) (fun s H C cl fp => (ht s H C cl fp).pe) (fun s H C cl fp => (hk s H C cl fp).pe) (fun s H C cl fp => (he s H C cl fp).pe) hs, fun P b σ env G H out env' rr h Q q => by
    refine dc_run i2 (fun P b σ env G H v d env' r rv hB Q q => cG_run r rv hB Q q) (fun P b σ env G H d env' r hF Q q => cTs_run r hF Q q) (fun P b σ env G H d env' r hF Q q => cE_run r hF Q q) (fun P b σ env G H d env' r hF Q q => cE_run r hF Q q) hts rr h Q fun p ks xs G' H' ds g r hP hg hh hl ra hout => ?_
    subst hout
    have hgx : Ex G' (upd G' p (.dK (ks.zip xs))) := Ex.new hg
    refine q _ (upd G' p (.dK (ks.zip xs))) H' ⟨g.g.trans hgx, g.h, fun a ha hn => ?_⟩ ?_ (.dK upd_same hl (ra.mono hgx))
    · rw [upd_ne (fun z => ha (by rw [z]; exact hP))]
      exact g.n a ha hn
    · refine r.keep hgx (fun a o ha => ?_) (fun a ha => (r.fresh a ha).1) fun a h1 h2 h3 => ⟨h1.1, ?_, fun _ e => e⟩
      · by_cases hap : a = p
        · subst hap
          rw [upd_same] at ha
          rw [hh, ← ha]
        · rw [upd_ne hap] at ha
          exact r.sub a o ha
      · rw [upd_ne h1.2]
        exact h2⟩
end
section
variable {X : Cx}
def keysD : List (D × D) → List D := List.map (·.1)
/-- x in a dict, x an int or a text -/
def gInK (neg : Bool) : D → D → Option D
  | .int i, .dict kvs => if (!kvs.isEmpty && kvs.all (fun p => match p.1 with | .int _ => true | _ => false)) = true then some (.bool (if neg then !(kvs.any fun p => match p.1 with | .int j => j == i | _ => false) else kvs.any fun p => match p.1 with | .int j => j == i | _ => false)) else none
  | _, _ => none
theorem zip_any_int {ks : List Key} {xs : List V} {ds : List D} (h : ks.length = xs.length) (hd : xs.length = ds.length) (i : Int) :
    (valV (ks.zip xs) (.inl i)).isSome = ((ks.map keyD).zip ds).any fun p => match p.1 with | .int j => j == i | _ => false := by
  rw [← valV_any]
  induction ks generalizing xs ds with
  | nil => rfl
  | cons k ks ih =>
    cases xs with
    | nil => cases h
    | cons x xs =>
      cases ds with
      | nil => cases hd
      | cons d ds =>
        have := ih (xs := xs) (ds := ds) (by simpa using h) (by simpa using hd)
        simp only [List.map_cons, List.zip_cons_cons, List.any_cons]
        rw [this]
        congr 1
        cases k with
        | inl j =>
          by_cases hji : j = i <;> simp [keyD, hji]
        | inr x => simp [keyD]
theorem opR_dIn (hu : X.A.units + 1 < cLine) : OpR X (compareOp .In) (fun y x H Q => ∃ a o, x = .ref a ∧ DGet H a y o ∧ Q (.bl o.isSome) H) := by
  intro pins s σ H x y v u Q I rx ry h
  obtain ⟨a, o, rfl, g, q⟩ := h
  cases (show u = Value.ref a from ry)
  exact d_in hu I g rx fun s' I' => ⟨.bl _, H, I', rfl, q⟩
theorem opD_inK (hu : X.A.units + 1 < cLine) : OpD X (compareOp .In) (gInK false) := by
  refine ⟨_, opR_dIn hu, fun G H x y d e z s rx ry hg Q q => ?_⟩
  unfold gInK at hg
  split at hg
  · rename_i i kvs
    split at hg
    · rename_i hall
      cases hg
      cases rx.inv_int
      cases ry with
      | dK ha hl ra =>
        rename_i a ks xs ds
        refine ⟨a, _, rfl, DGet.k (k := .inl i) (s _ _ ha), ?_⟩
        rw [zip_any_int hl ra.length i]
        exact q _ G H (Pu.refl s) (.bl _)
      | dT ha hl ra =>
        rename_i a ks xs ds
        cases ks with
        | nil => simp at hall
        | cons k ks =>
          cases xs with
          | nil => cases hl
          | cons x xs =>
            cases ra with
            | cons r1 r2 => simp at hall
      | scr ha ra => simp at hall
    · cases hg
  · cases hg
end
end Dn

set_option maxHeartbeats 1000000
/-! W13: defs that give a thing of one's own; for over a list of such; wide products. -/
namespace Dn
open PySem PySem.Spec PyProof.Rows L2
open Evl (Ex fresh_back)
open Classical
section
variable {X : Cx} {e : Expr} {pos : Pos}
def gMulB : D → D → Option D := fun d e => match gInt (fun i j => if i.natAbs < 2 ^ 4000 ∧ j.natAbs < 2 ^ 4000 then some (i * j) else none) d e with | some z => some z | none => gRep d e
theorem opD_mulB : OpD X (binaryOp .Mult) gMulB := (opD_int op_mulW fun i j z h => by
  split at h
  · rename_i hc; cases h; exact ⟨wide_mul hc.1 hc.2 (by decide) (by decide) (by decide), rfl⟩
  · cases h).or opD_rep

/-! ### what gives a thing of one's own -/
abbrev Ro := DEnv → Option (D × DEnv)
def DenSsN (X : Cx) (st : List Stmt) (k : Nat) (F : Ro) : Prop :=
  ∃ t : TS, PSs X st t ∧ ∀ (P : Addr → Prop) (b : Bs) (σ : L2.St) (env : DEnv) (G H : Hp) (d : D) (env' : DEnv), Rep P b G H σ env → F env = some (d, env') →
    ∀ Dd : Ends, (∀ v σ' G' H' N, Gr P G H G' H' → Rep (fun a => P a ∧ ¬ N a) b G' H' σ' env' → Tree P G' H' N k v d → Dd.rt v H') → t Dd σ H
def rRet (m : Mo D) : Ro := m
def rIf (c : Mo Bool) (F F' : Ro) : Ro := fun env =>
  match c env with
  | some (k, e1) => if k = true then F e1 else F' e1
  | none => none
def rSeq (F : So) (F' : Ro) : Ro := fun env =>
  match F env with
  | some (.nx e1) => F' e1
  | _ => none
theorem denssN_ret {k : Nat} {F : Mo D} (h : DenN X e k F) : DenSsN X [.Return (some e) pos] k (rRet F) := by
  obtain ⟨t, h1, h2⟩ := h
  exact ⟨_, pss_one (ps_ret h1), fun P b σ env G H d env' rr hF Dd q => h2 P b σ env G H d env' rr hF _ fun v G' H' N g r t => q v σ G' H' N g r t⟩
theorem denssN_if {k : Nat} {c : Expr} {u rest : List Stmt} {Fc : Mo Bool} {F F' : Ro} (hc : DenT X c Fc) (h1 : DenSsN X u k F) (h2 : DenSsN X rest k F') : DenSsN X (.If c u [] pos :: rest) k (rIf Fc F F') := by
  obtain ⟨t, c1, c2⟩ := hc
  obtain ⟨t1, h1, h1'⟩ := h1
  obtain ⟨t2, h2, h2'⟩ := h2
  refine ⟨_, pss_cons (ps_if c1 h1 pss_nil) h2, fun P b σ env G H d env' rr h Dd q => ?_⟩
  unfold rIf at h
  split at h
  · rename_i kk e1 hk
    refine c2 P b σ env G H kk e1 rr hk _ fun G' H' g r' => ?_
    cases kk with
    | true =>
      rw [if_pos rfl] at h ⊢
      exact h1' P b σ e1 G' H' d env' r' h _ fun v σ' G2 H2 N g2 r2 t2 => q v σ' G2 H2 N (g.trans g2) r2 t2
    | false =>
      rw [if_neg (by decide)] at h ⊢
      exact h2' P b σ e1 G' H' d env' r' h Dd fun v σ' G2 H2 N g2 r2 t2 => q v σ' G2 H2 N (g.trans g2) r2 t2
  · cases h
theorem denssN_cons {k : Nat} {st : Stmt} {rest : List Stmt} {F : So} {F' : Ro} (h1 : DenS X st F) (h2 : DenSsN X rest k F') : DenSsN X (st :: rest) k (rSeq F F') := by
  obtain ⟨t, h1, h1'⟩ := h1
  obtain ⟨u, k1, k2⟩ := h2
  refine ⟨_, pss_cons h1 k1, fun P b σ env G H d env' rr h Dd q => ?_⟩
  unfold rSeq at h
  split at h
  · rename_i e1 w
    exact h1' P b σ env G H _ rr w { Dd with nx := u Dd } fun σ' G' H' g r' => k2 P b σ' e1 G' H' d env' r' h Dd fun v σ2 G2 H2 N g2 r2 t2 => q v σ2 G2 H2 N (g.trans g2) r2 t2
  · cases h
def outN : Option (D × DEnv) → Option D := Option.map (·.1)
def spN (n k : Nat) (F : List D → Option D) : Sp := fun vs H Q _ => ∃ (G : Hp) (ds : List D) (d : D), Ex G H ∧ RpAll G vs ds ∧ ds.length = n ∧ F ds = some d ∧ ∀ v G' H' N, Pu G H G' H' → Tree (fun a => H a = none) G' H' N k v d → Q v H'
structure FdN (P : Program) (w : World) (K : PySem.W.Frag) (mg : Str → Option Value) (base : Heap) (x : Str) (j n k : Nat) (F : List D → Option D) : Prop where
  ex : ∃ (f : Addr) (fd : FuncData) (ps : List Str), mg x = some (.ref f) ∧ PySem.W.keepIn K (.ref f) = true ∧ Binds K fd ps [] ∧ ps.length = n ∧ FnOk P w K mg base CX0 j f fd ps (spN n k F)
end
section
variable {P : Program} {w : World} {K : PySem.W.Frag} {mg : Str → Option Value} {base : Heap}
theorem FdN.mk' {x qual : Str} {st : Stmt} {f : Addr} {fd : FuncData} {N ps : List Str} {j k : Nat} {B : Ro} (F : Fun K x qual st f fd) (S : FnScope N ps (defScope st)) (hg : mg x = some (.ref f)) (hb : Binds K fd ps [])
    (body : ∀ (cdv : Value) (A : Around) (outer : List Env) (s : Shared) (H : Hp) (E : XK), Room j (A.deeper (envOfC qual (defScope st) s.heap.objs.size f cdv)) → DenSsN (cxOf CX0 P w K mg base N qual (defScope st) f cdv A outer s H E).nox (defBody st) k B) :
    FdN P w K mg base x (j + 1) ps.length k (fun ds => outN (B (envOf N ds))) := by
  refine ⟨f, fd, ps, hg, F.kp, hb, rfl, F.ok S (fun vs H Q E h => ?_) fun cdv A outer s H vs Q E hr h => ?_⟩
  · obtain ⟨G, ds, d, _, r, hl, _⟩ := h
    rw [r.length, hl]
  · obtain ⟨G, ds, d, hs, r, hl, hF, q⟩ := h
    obtain ⟨t, h1, h2⟩ := body cdv A outer s H E hr
    refine ⟨t, h1, ?_⟩
    have rep : Rep (fun a => H a = none) (fun _ => 0) G H (L2.start N vs) (envOf N ds) := start_rep hs (fun _ h => h) r
    cases hB : B (envOf N ds) with
    | none => simp only [hB] at hF; cases hF
    | some r1 =>
      obtain ⟨d', e1⟩ := r1
      simp only [hB, outN, Option.map_some] at hF
      cases hF
      refine h2 _ (fun _ => 0) _ _ G H _ e1 rep hB _ fun v σ' G' H' N g r' t => q v G' H' N ⟨g.g, fun a o e => g.h a o e (some_ne e), r'.sub, fun a h n => g.n a h n⟩ t
theorem FdN.of {x : Str} {st : Stmt} {N ps : List Str} {j n k : Nat} {B : Ro} (d : Df K mg x st ps) (S : FnScope N ps (defScope st)) (hn : ps.length = n)
    (body : ∀ (f : Addr) (cdv : Value) (A : Around) (outer : List Env) (s : Shared) (H : Hp) (E : XK), Room j (A.deeper (envOfC x (defScope st) s.heap.objs.size f cdv)) → DenSsN (cxOf CX0 P w K mg base N x (defScope st) f cdv A outer s H E).nox (defBody st) k B) :
    FdN P w K mg base x (j + 1) n k (fun ds => outN (B (envOf N ds))) := by
  obtain ⟨f, fd, h1, h2, h3⟩ := d.ex
  subst hn
  exact FdN.mk' h2 S h1 h3 (body f)
theorem FdN.mono {x : Str} {i j n k : Nat} {F : List D → Option D} (h : FdN P w K mg base x i n k F) (hk : i ≤ j) : FdN P w K mg base x j n k F := by
  obtain ⟨f, fd, ps, h1, h2, h3, h4, h5⟩ := h.ex
  exact ⟨f, fd, ps, h1, h2, h3, h4, h5.mono hk⟩
end
section
variable {X : Cx} {e : Expr} {pos : Pos}
theorem denn_call {x : Str} {j n k : Nat} {p : Pos} {es : List Expr} {F : List D → Option D} {m : Mo (List D)} (h : FdN X.prog X.w X.K X.mg X.base x j n k F) (hr : Room j X.A) (hg : Gl X x) (ha : DenA X (e :: es) m) (hdb : (x == ("__debug__" : Str)) = false := by decide)
    (he : starEach (e :: es) X.env = (false, eval e X.env) :: starEach es X.env := by rfl) (hpl : (backTo pos (starEach es X.env)).any (·.1) = false := by rfl) : DenN X (.Call (.Name x p) (e :: es) [] pos) k (mMap (lenIs n F) m) := by
  obtain ⟨f, fd, ps, h1, h2, h3, h4, h5⟩ := h.ex
  obtain ⟨t, a1, a2⟩ := ha
  refine ⟨_, pe_call h5 hr hg h1 h2 h3 .nil pass0 a1 hdb he hpl, fun P b σ env G H d env' rr h Q q => ?_⟩
  obtain ⟨ds, hds, hF⟩ := mMap_some h
  unfold lenIs at hF
  split at hF
  · rename_i hl
    refine a2 P b σ env G H _ _ rr hds _ fun vs G' H' g r p => ?_
    show spN n k F (vs ++ []) H' Q _
    rw [List.append_nil]
    refine ⟨G', ds, d, r.sub, p, hl, hF, fun v G2 H2 N pu t => ?_⟩
    have tP : Tree P G2 H2 N k v d := ⟨fun a ha => ⟨r.fresh a (t.n a ha).1, (t.n a ha).2⟩, t.r⟩
    refine q v G2 H2 N (g.trans (pu.gr r.fresh)) ?_ tP
    refine r.keep pu.g pu.s (fun a ha => ⟨r.fresh a (fresh_back pu.h ha), fun z => (t.n a z).2.2 ha⟩) fun a h1 h2 h3 => ⟨⟨h1, fun z => h3 (t.n a z).1⟩, pu.n a h3 h2, fun o e => pu.h a o e⟩
  · cases hF

/-! ### for over a list of lists of one's own -/
def forOwnGo (i : Nat) (body : So) : List D → DEnv → Option Fl
  | [], e => some (.nx e)
  | d :: ds, e =>
    match body (e.set i (some (SV.ow false 0 d))) with
    | none => none
    | some (.nx e2) => forOwnGo i body ds e2
    | some (.ct e2) => forOwnGo i body ds e2
    | some (.bk e2) => some (.nx e2)
    | some (.rt d e2) => some (.rt d e2)
def sForOwn (i : Nat) (m : Mo D) (body : So) : So := fun env =>
  match m env with
  | some (.list ds, e1) => forOwnGo i body ds e1
  | _ => none
theorem dens_forOwn (i : Nat) {x : Str} {pos' : Pos} {iter : Expr} {body : List Stmt} {F : Mo D} {Fb : So} (hp : PassesOwn (model X.prog X.w) X.A X.env X.xe) (hc : X.calm = true) (hN : X.N.Nodup) (hi : X.N[i]? = some x) (hx : Loc X.env.scope x)
    (he : DenN X iter 2 F) (hb : DenSs X body Fb) (hs : ∀ x, foldedSetIterable iter X.env x = pure x := by intro _; rfl)
    (hf : X.fn x = true ∨ X.env.scope.names.lookup x = some .local := by first | exact .inl rfl | exact .inr rfl | assumption) : DenS X (.For (.Name x pos') iter body [] pos) (sForOwn i F Fb) := by
  obtain ⟨te, i1, i2⟩ := he
  obtain ⟨tb, b1, b2⟩ := hb
  refine ⟨_, ps_for hp hc (pi_list i1) (pg_name hN hi hx hf) b1 hs, fun P b σ env G H r rr h Dd q => ?_⟩
  unfold sForOwn at h
  split at h
  · rename_i ds e1 hd
    refine i2 P b σ env G H _ e1 rr hd _ fun v G1 H1 N gr1 r1 t => ?_
    obtain ⟨Lt, hLt, ht⟩ := t.r
    unfold OwnR at ht
    obtain ⟨a, vs, rfl, ha, hla, hn, hch⟩ := ht
    let M : Nat → Addr → Prop := fun i c => Lt c = some [] ∨ ∃ j q, i ≤ j ∧ Lt c = some (j :: q)
    have hMN : ∀ i c, M i c → N c := fun i c z => by
      rcases z with z | ⟨j, q, _, z⟩
      · exact hLt c _ z
      · exact hLt c _ z
    have hM : ∀ i c, M (i + 1) c → M i c := fun i c z => by
      rcases z with z | ⟨j, q, hj, z⟩
      · exact .inl z
      · exact .inr ⟨j, q, by omega, z⟩
    refine ⟨a, rfl, ⟨vs, .of ha⟩, fun i m σ' H' => m = ds.length - i ∧ i ≤ ds.length ∧ ∃ e G', Gr P G1 H1 G' H' ∧ Rep (fun c => P c ∧ ¬ M i c) b G' H' σ' e ∧ H' a = some (.lst vs) ∧ (∀ c, M i c → G' c = none ∧ ∀ o, H1 c = some o → H' c = some o) ∧ forOwnGo _ Fb (ds.drop i) e = some r,
      ⟨_, rfl, Nat.zero_le _, e1, G1, Gr.refl, r1.wkP fun c z => ⟨z.1, fun y => z.2 (hMN 0 c y)⟩, ha, fun c z => ⟨(t.n c (hMN 0 c z)).2.1, fun _ e => e⟩, by rw [List.drop_zero]; exact h⟩, ?_⟩
    rintro j m σ' H' ⟨rfl, hj, e, G', gr, r', haj, hk, hf'⟩
    by_cases hlt : j < ds.length
    · have hdj : ds[j]? = some ds[j] := List.getElem?_eq_getElem hlt
      have hvl : j < vs.length := by omega
      have hvj : vs[j]? = some vs[j] := List.getElem?_eq_getElem hvl
      refine .inr ⟨⟨vs, vs[j], .of haj, hvj⟩, fun σ2 H2 => j + 1 ≤ ds.length ∧ ∃ e G2, Gr P G1 H1 G2 H2 ∧ Rep (fun c => P c ∧ ¬ M (j + 1) c) b G2 H2 σ2 e ∧ H2 a = some (.lst vs) ∧ (∀ c, M (j + 1) c → G2 c = none ∧ ∀ o, H1 c = some o → H2 c = some o) ∧ forOwnGo _ Fb (ds.drop (j + 1)) e = some r, fun σ2 H2 h2 => ⟨ds.length - (j + 1), by omega, rfl, h2⟩, fun x H2 y => ?_⟩
      obtain ⟨rfl, y⟩ := y
      have hy := y vs (.of haj)
      rw [hvj] at hy
      cases hy
      rw [List.drop_eq_getElem_cons hlt] at hf'
      unfold forOwnGo at hf'
      have hcj := hch j _ _ hvj hdj
      have tj : Tree (fun c => P c ∧ ¬ M (j + 1) c) G' H2 (fun c => ∃ q, Lt c = some (j :: q)) 1 vs[j] ds[j] := by
        refine ⟨fun c hc' => ?_, fun c => match Lt c with | some (m :: q) => if m = j then some q else none | _ => none, fun c p hc' => ?_, ?_⟩
        · obtain ⟨q', hq'⟩ := hc'
          have hMc : M j c := .inr ⟨j, q', Nat.le_refl _, hq'⟩
          have hNc := t.n c (hMN j c hMc)
          refine ⟨⟨hNc.1, fun z => ?_⟩, (hk c hMc).1, ?_⟩
          · rcases z with z | ⟨m, q2, hm, z⟩
            · rw [hq'] at z; cases z
            · rw [hq'] at z; cases z; omega
          · cases w : H1 c with
            | none => exact absurd w hNc.2.2
            | some o => exact some_ne ((hk c hMc).2 o w)
        · simp only [] at hc'
          split at hc'
          · rename_i m q' w
            split at hc'
            · rename_i e2
              subst e2
              exact ⟨q', w⟩
            · cases hc'
          · cases hc'
        · refine hcj.keep gr.g 1 fun c q' hq' => ?_
          have hq2 : Lt c = some (j :: q') := by simpa using hq'
          refine ⟨by simp [hq2], fun o ho => (hk c (.inr ⟨j, q', Nat.le_refl _, hq2⟩)).2 o ho⟩
      have rj : Rep (fun c => (P c ∧ ¬ M (j + 1) c) ∧ ¬ ∃ q, Lt c = some (j :: q)) b G' H2 σ' e := r'.wkP fun c z => ⟨⟨z.1, fun y => z.2 (hM j c y)⟩, fun ⟨q', hq'⟩ => z.2 (.inr ⟨j, q', Nat.le_refl _, hq'⟩)⟩
      have r2 := rj.ownNew tj i
      have wk : ∀ {Ga Ha Gb Hb : Hp}, Gr (fun c => P c ∧ ¬ M (j + 1) c) Ga Ha Gb Hb → Gr P Ga Ha Gb Hb := fun g => g.wk fun x h => h.1
      have hMa : M (j + 1) a := .inl hla
      cases w2 : Fb (e.set i (some (SV.ow false 0 ds[j]))) with
      | none => simp only [w2] at hf'; cases hf'
      | some r3 =>
        simp only [w2] at hf'
        refine b2 _ b _ _ G' H2 r3 r2 w2 _ ?_
        have stay : ∀ {G3 H3 : Hp}, Gr (fun c => P c ∧ ¬ M (j + 1) c) G' H2 G3 H3 → H3 a = some (.lst vs) ∧ (∀ c, M (j + 1) c → G3 c = none ∧ ∀ o, H1 c = some o → H3 c = some o) := fun g3 =>
          ⟨g3.h _ _ haj fun z => z.2 hMa, fun c hc' => ⟨g3.n c (fun z => z.2 hc') (hk c (hM j c hc')).1, fun o ho => g3.h c o ((hk c (hM j c hc')).2 o ho) fun z => z.2 hc'⟩⟩
        cases r3 with
        | nx e3 => exact fun σ3 G3 H3 g3 r3 => ⟨hlt, e3, G3, gr.trans (wk g3), r3, (stay g3).1, (stay g3).2, hf'⟩
        | ct e3 => exact fun σ3 G3 H3 g3 r3 => ⟨hlt, e3, G3, gr.trans (wk g3), r3, (stay g3).1, (stay g3).2, hf'⟩
        | bk e3 =>
          cases hf'
          exact fun σ3 G3 H3 g3 r3 => q σ3 G3 H3 ((gr1.trans gr).trans (wk g3)) (r3.wkP fun _ z => z.1)
        | rt d e3 =>
          cases hf'
          exact fun v σ3 G3 H3 g3 r3 p => q v σ3 G3 H3 ((gr1.trans gr).trans (wk g3)) (r3.wkP fun _ z => z.1) p
    · have e0 : j = ds.length := by omega
      subst e0
      rw [List.drop_length] at hf'
      cases hf'
      exact .inl ⟨⟨vs, .of haj, by omega⟩, q σ' G' H' (gr1.trans gr) (r'.wkP fun _ z => z.1)⟩
  · cases h
end
end Dn

set_option maxHeartbeats 1000000
/-! W14: tuple(range(..)), list(range(..)), [x] * n, list(x) of one's own. -/
namespace Dn
open PySem PySem.Spec PyProof.Rows L2
open Evl (Ex fresh_back)
abbrev gLe : D → D → Option D := gCmp fun i j => decide (i ≤ j)
abbrev gGt : D → D → Option D := gCmp fun i j => decide (j < i)
abbrev gGe : D → D → Option D := gCmp fun i j => decide (j ≤ i)
/-- in, of sequences or of dicts -/
def gInA : D → D → Option D := fun d e => match gIn false d e with | some z => some z | none => gInK false d e
section
variable {X : Cx} {a b e : Expr} {pos : Pos}
theorem opD_inA (hu : X.A.units + 1 < cLine) : OpD X (compareOp .In) gInA := opD_in.or (opD_inK hu)
/-- tuple(range(n)) -/
def gTupRg : D → Option D
  | .int j => if -(2 ^ 62) ≤ j ∧ j < 1000 then some (.tuple (rangeD 0 j.toNat)) else none
  | _ => none
theorem rgV_rp {G : Hp} (j : Int) : RpAll G (rgV 0 j) (rangeD 0 j.toNat) := by
  unfold rgV rangeD
  rw [Int.sub_zero]
  induction List.range j.toNat with
  | nil => exact .nil
  | cons n ns ih => exact .cons (.int _) ih
theorem den_tupRange {a : Expr} {p p2 pos2 : Pos} {F : Mo D} (hg : Gl X "tuple") (hm : X.mg "tuple" = none) (hg2 : Gl X "range") (hm2 : X.mg "range" = none) (hc : X.calm = true) (ha : DenE X a F)
    (na : starEach [a] X.env = (false, eval a X.env) :: starEach [] X.env := by rfl) (hs : starEach [.Call (.Name "range" p) [a] [] pos2] X.env = (false, eval (.Call (.Name "range" p) [a] [] pos2) X.env) :: starEach [] X.env := by rfl) :
    DenE X (.Call (.Name "tuple" p2) [.Call (.Name "range" p) [a] [] pos2] [] pos) (mMap gTupRg F) := by
  obtain ⟨t, h1, h2⟩ := ha
  refine ⟨_, pe_tupRg hc hg hm (prg_1 hg2 hm2 h1 na) hs, fun P b σ env G H ds env' rr h Q q => ?_⟩
  obtain ⟨z, hk, hz⟩ := mMap_some h
  refine h2 P b σ env G H z env' rr hk _ fun v G' H' g r pr => ?_
  unfold gTupRg at hz
  split at hz
  · rename_i j
    split at hz
    · rename_i hj
      cases hz
      refine ⟨j, pr.inv_int, ?_, fun y hy => ?_⟩
      · have hz : sizeLine = 16777216 := sizeLine_eq
        unfold RgOk
        omega
      · have pu := Pu.new (o := .tup (rgV 0 j)) r.sub hy
        exact q _ _ _ (g.trans (pu.gr r.fresh)) (r.pu pu) (.tup upd_same (rgV_rp j))
    · cases hz
  · cases hz
def gLstRg : D → Option D
  | .int j => if -(2 ^ 62) ≤ j ∧ j < 1000 then some (.list (rangeD 0 j.toNat)) else none
  | _ => none
theorem den_lstRange {a : Expr} {p p2 pos2 : Pos} {F : Mo D} (hg : Gl X "list") (hm : X.mg "list" = none) (hg2 : Gl X "range") (hm2 : X.mg "range" = none) (hc : X.calm = true) (ha : DenE X a F)
    (na : starEach [a] X.env = (false, eval a X.env) :: starEach [] X.env := by rfl) (hs : starEach [.Call (.Name "range" p) [a] [] pos2] X.env = (false, eval (.Call (.Name "range" p) [a] [] pos2) X.env) :: starEach [] X.env := by rfl) :
    DenE X (.Call (.Name "list" p2) [.Call (.Name "range" p) [a] [] pos2] [] pos) (mMap gLstRg F) := by
  obtain ⟨t, h1, h2⟩ := ha
  refine ⟨_, pe_listRg hc hg hm (prg_1 hg2 hm2 h1 na) hs, fun P b σ env G H ds env' rr h Q q => ?_⟩
  obtain ⟨z, hk, hz⟩ := mMap_some h
  refine h2 P b σ env G H z env' rr hk _ fun v G' H' g r pr => ?_
  unfold gLstRg at hz
  split at hz
  · rename_i j
    split at hz
    · rename_i hj
      cases hz
      refine ⟨j, pr.inv_int, ?_, fun y hy => ?_⟩
      · have hz : sizeLine = 16777216 := sizeLine_eq
        unfold RgOk
        omega
      · have pu := Pu.new (o := .lst (rgV 0 j)) r.sub hy
        exact q _ _ _ (g.trans (pu.gr r.fresh)) (r.pu pu) (.lst upd_same (rgV_rp j))
    · cases hz
  · cases hz
theorem rgV_rp2 {G : Hp} (i j : Int) : RpAll G (rgV i j) (rangeD i (j - i).toNat) := by
  unfold rgV rangeD
  induction List.range (j - i).toNat with
  | nil => exact .nil
  | cons n ns ih => exact .cons (.int _) ih
def gTupRg2 : D → D → Option D
  | .int i, .int j => if -(2 ^ 62) ≤ i ∧ i < 1000 ∧ -(2 ^ 62) ≤ j ∧ j < 1000 ∧ j - i < 1000 then some (.tuple (rangeD i (j - i).toNat)) else none
  | _, _ => none
theorem den_tupRange2 {a b : Expr} {p p2 pos2 : Pos} {F F' : Mo D} (hg : Gl X "tuple") (hm : X.mg "tuple" = none) (hg2 : Gl X "range") (hm2 : X.mg "range" = none) (hc : X.calm = true) (ha : DenE X a F) (hb : DenE X b F')
    (na : starEach [a, b] X.env = (false, eval a X.env) :: starEach [b] X.env := by rfl) (nb : starEach [b] X.env = (false, eval b X.env) :: starEach [] X.env := by rfl) (hp : (backTo pos2 (starEach [b] X.env)).any (·.1) = false := by rfl)
    (hs : starEach [.Call (.Name "range" p) [a, b] [] pos2] X.env = (false, eval (.Call (.Name "range" p) [a, b] [] pos2) X.env) :: starEach [] X.env := by rfl) :
    DenE X (.Call (.Name "tuple" p2) [.Call (.Name "range" p) [a, b] [] pos2] [] pos) (mBin gTupRg2 F F') := by
  obtain ⟨t, h1, h2⟩ := ha
  obtain ⟨u, k1, k2⟩ := hb
  refine ⟨_, pe_tupRg hc hg hm (prg_2 hg2 hm2 h1 k1 na nb hp) hs, fun P b σ env G H d env' rr h Q q => ?_⟩
  obtain ⟨x, e1, hx, h⟩ := mBind_some h
  obtain ⟨y, e2, hy, h⟩ := mBind_some h
  obtain ⟨hz, rfl⟩ := mLift_some h
  refine h2 P b σ env G H x e1 rr hx _ fun v G1 H1 g1 r1 p1 => k2 P b σ e1 G1 H1 y _ r1 hy _ fun w G2 H2 g2 r2 p2 => ?_
  unfold gTupRg2 at hz
  clear h hy
  split at hz
  · rename_i i j
    split at hz
    · rename_i hj
      cases hz
      refine ⟨i, j, p1.inv_int, p2.inv_int, ?_, fun y hy => ?_⟩
      · have hz : sizeLine = 16777216 := sizeLine_eq
        unfold RgOk
        omega
      · have pu := Pu.new (o := .tup (rgV i j)) r2.sub hy
        exact q _ _ _ ((g1.trans g2).trans (pu.gr r2.fresh)) (r2.pu pu) (.tup upd_same (rgV_rp2 i j))
    · cases hz
  · cases hz
/-- [x] * n, a new list -/
theorem denn_rep {F F' : Mo D} (ha : DenE X a F) (hb : DenE X b F') : DenN X (.BinOp a .Mult b pos) 1 (mBin gRep F F') := by
  obtain ⟨t, h1, h2⟩ := ha
  obtain ⟨u, k1, k2⟩ := hb
  refine ⟨_, pe_op op_rep h1 k1, fun P b σ env G H d env' rr h Q q => ?_⟩
  obtain ⟨x, e1, hx, h⟩ := mBind_some h
  obtain ⟨y, e2, hy, h⟩ := mBind_some h
  obtain ⟨hg, rfl⟩ := mLift_some h
  refine two h2 k2 rr hx hy fun v w G' H' g r' p1 p2 => ?_
  unfold gRep at hg
  clear h hy
  split at hg
  · rename_i xs k
    split at hg
    · rename_i hl
      cases hg
      obtain ⟨a, vs, rfl, ha, ra⟩ := p1.inv_list
      rw [p2.inv_int]
      refine ⟨a, k, vs, rfl, rfl, r'.sub _ _ ha, by omega, by omega, ?_, fun y hy => ?_⟩
      · rw [ra.length]
        exact Nat.le_trans (Nat.mul_le_mul hl.2.2 (show k.toNat ≤ 1000 by omega)) (by decide)
      · have hPy := r'.fresh y hy
        exact q (.ref y) G' (upd H' y _) (fun a => a = y) ⟨g.g, fun a o ha n => by
          rw [upd_ne (show a ≠ y from fun z => n (by rw [z]; exact hPy))]
          exact g.h a o ha n, g.n⟩ (r'.newH hy) (Tree.one hPy (fresh_back r'.sub hy) upd_same (ra.rep _))
    · cases hg
  · cases hg
/-- list(x), a new list -/
theorem denn_listc {p : Pos} {F : Mo (List D)} (hg : Gl X "list") (hm : X.mg "list" = none) (ha : DenA X [e] F) (he : starEach [e] X.env = (false, eval e X.env) :: starEach [] X.env := by rfl) :
    DenN X (.Call (.Name "list" p) [e] [] pos) 1 (mMap gList F) := by
  obtain ⟨t, a1, a2⟩ := ha
  refine ⟨_, pe_callTy call_list_of hg hm (by rfl) a1 (by decide) (by decide) he rfl, fun P b σ env G H d env' rr h Q q => ?_⟩
  obtain ⟨ds, hds, hF⟩ := mMap_some h
  refine a2 P b σ env G H _ _ rr hds _ fun vs G' H' g r p => ?_
  have fin : ∀ (a : Addr) (ws : List V) (zs : List D), vs = [.ref a] → (SqL X.K H' a ws ∨ SqT X.K H' a ws) → RpAll G' ws zs → d = .list zs → ∃ p ys, vs = [.ref p] ∧ (SqL X.K H' p ys ∨ SqT X.K H' p ys) ∧ ∀ l, H' l = none → Q (.ref l) (upd H' l (.lst ys)) := fun a ws zs e1 hsq ra e2 => by
    subst e2
    refine ⟨a, ws, e1, hsq, fun y hy => ?_⟩
    have hPy := r.fresh y hy
    exact q (.ref y) G' (upd H' y _) (fun a => a = y) ⟨g.g, fun a o ha n => by
      rw [upd_ne (show a ≠ y from fun z => n (by rw [z]; exact hPy))]
      exact g.h a o ha n, g.n⟩ (r.newH hy) (Tree.one hPy (fresh_back r.sub hy) upd_same ra)
  unfold gList at hF
  split at hF
  · cases hF
    obtain ⟨v, rfl, h⟩ := p.inv1
    obtain ⟨a, ws, rfl, ha, ra⟩ := h.inv_list
    exact fin a ws _ rfl (.inl (.of (r.sub _ _ ha))) ra rfl
  · cases hF
    obtain ⟨v, rfl, h⟩ := p.inv1
    obtain ⟨a, ws, rfl, ha, ra⟩ := h.inv_tup
    exact fin a ws _ rfl (.inr (.of (r.sub _ _ ha))) ra rfl
  · cases hF
end
end Dn

/-! W15: what the generated derivations lean on. -/
namespace L2
open PySem PySem.Spec PyProof.Rows
theorem Room.units0' {k : Nat} {A : Around} (r : Room k A) : A.units + 1 < cLine := by have := r.units; omega
end L2
namespace Dn
open PySem PySem.Spec PyProof.Rows L2
structure Blt2 (mg : Str → Option Value) : Prop extends Blt mg where
  type_ : mg "type" = none
structure Imps (mg : Str → Option Value) : Prop where
  acc : mg "accumulate" = some (.type "itertools.accumulate")
abbrev gIAdd : D → D → Option D := gInt fun i j => some (i + j)
abbrev gISub : D → D → Option D := gInt fun i j => some (i - j)
abbrev gIMul : D → D → Option D := gInt fun i j => if -(2 ^ 64) < i ∧ i < 2 ^ 64 then some (i * j) else none
end Dn
namespace Dn
open PySem PySem.Spec PyProof.Rows L2
theorem den_glb {X : Cx} {x : Str} {pos : Pos} {i : Int} (hm : ∃ t, X.mg x = some (.int i t)) (hg : Gl X x) (hd : (x == ("__debug__" : Str)) = false := by decide) : DenE X (.Name x pos) (mRet (.int i)) := den_glob (u := .none) hm hg hd
end Dn

set_option maxHeartbeats 1000000
/-! W16: name = a dict comprehension, on one line. -/
namespace Dn
open PySem PySem.Spec PyProof.Rows L2
open Evl (Ex fresh_back)
section
variable {X : Cx}
theorem swD_true {kx vx : Expr} {gs : List Comprehension} {scope : Scope} {pos py : Pos} {y : Str} {l : Nat} {env : Env} (hk : env.scope.kind = .function) (hy : env.scope.names.lookup y = some .local) (hl : (py.line == pos.line) = true)
    (ha : (scope.names.any fun (n, k) => n == y && (k == .local || k == .cell)) = false) : swapsWith (.DictComp kx vx gs scope pos) (some (.Name y py)) l env = pure true := by
  have ky : env.kindOf y = some .local := hy
  have hb : env.blockKind = .function := by unfold Env.blockKind; rw [hk]; rfl
  unfold swapsWith
  simp only [hb, ky, ha, Expr.pos, hl]
  rfl
theorem ps_setDc {i : Nat} {y : Str} {py : Pos} {kx vx tg iter : Expr} {ifs : List Expr} {scope : Scope} {own : List (Str × Nat)} {pos spos : Pos} {wi : TI} {g : TG} {tt : TT} {tk tv : TE} (hc : X.calm = true) (hN : X.N.Nodup) (hy : X.N[i]? = some y) (hyl : X.env.scope.names.lookup y = some .local)
    (hsw : swapsWith (.DictComp kx vx [⟨tg, iter, ifs, 0⟩] scope pos) (some (.Name y py)) spos.line X.env = pure true) (hi : PI X tg iter wi) (ok : BlkOk X.N X.env.scope scope own)
    (hg : ∀ (s : Shared) (H : Hp) (C : Addr) (cl : List (Str × Addr)) (fp : List Addr), PG (X.blk s H scope (compEnvC scope cl C X.env) fp) tg g) (ht : ∀ (s : Shared) (H : Hp) (C : Addr) (cl : List (Str × Addr)) (fp : List Addr), PTs (X.blk s H scope (compEnvC scope cl C X.env) fp) ifs tt)
    (hk : ∀ (s : Shared) (H : Hp) (C : Addr) (cl : List (Str × Addr)) (fp : List Addr), PE (X.blk s H scope (compEnvC scope cl C X.env) fp) kx tk)
    (he : ∀ (s : Shared) (H : Hp) (C : Addr) (cl : List (Str × Addr)) (fp : List Addr), PE (X.blk s H scope (compEnvC scope cl C X.env) fp) vx tv) (hs : ∀ x, foldedSetIterable iter X.env x = pure x := by intro _; rfl) :
    PS X (.Assign [.Name y py] (.DictComp kx vx [⟨tg, iter, ifs, 0⟩] scope pos) spos) (tAsg (tDc wi g tt tk tv (own.map (·.2))) (gName i)) := by
  refine ⟨fun pins s σ H D I h => ?_⟩
  rw [exec_Assign_Name_used _ _ _ _ hsw]
  refine wpAny_bind (wpAny_standAt (wpAny_bind ?_))
  show wpAny _ X.A (do let _ ← comprehension (.DictComp kx vx [⟨tg, iter, ifs, 0⟩] scope pos) scope X.env (firstIterPos [⟨tg, iter, ifs, 0⟩] pos) newDict false (eval iter X.env) (some (assign (.Name y py) X.env))) _ _ s
  have h : tDc wi g tt tk tv (own.map (·.2)) σ H (fun x H1 => gName i x σ H1 D.nx) := h
  refine wpAny_bind (thn (dc_core (Qf := fun _ s' => SP X pins D .next s') hc hN I hi ok hg ht hk he hs h fun L C s' m H' I' q hn f => ?_) fun _ s' hq => wpAny_pure (wpAny_pure hq))
  show wpAny _ _ (assign (.Name y py) X.env (.ref L)) _ _ _
  refine wpAny_assign_Name (store_ok2 (v := V.ref L) I' hN hy (.inl hyl) rfl (fun s2 I2 ⟨a, sb, ha⟩ => ?_) (.inr hyl))
  obtain ⟨f0, f1, f2, f3, f4, f5⟩ := f
  have haC : C ≠ a := by
    rcases ha with z | z
    · rw [z]; exact f1
    · exact fun e => f4 y a z e.symm
  refine ⟨m, hn.sameBut sb haC, fun h3 sb3 => ?_⟩
  exact ⟨_, H', I2.turned (t' := s2.toks) (fun b o hb e => (sb3.2 b hb).trans e) f0 f1 f3 f4 f5, q⟩
theorem dens_setDc (i : Nat) {y : Str} {kx vx tg iter : Expr} {py pos spos : Pos} {ifs : List Expr} {scope : Scope} (own : List (Str × Nat)) {ts vs : List Nat} {Fi : Mo (List D)} {B : D → DEnv → Option DEnv} {Ft : Mo Bool} {Fk Fv : Mo D} (hc : X.calm = true) (hN : X.N.Nodup) (hy : X.N[i]? = some y) (hyl : X.env.scope.names.lookup y = some .local)
    (hsw : swapsWith (.DictComp kx vx [⟨tg, iter, ifs, 0⟩] scope pos) (some (.Name y py)) spos.line X.env = pure true) (hi : DenI X tg iter Fi) (ok : BlkOk X.N X.env.scope scope own)
    (hg : ∀ (s : Shared) (H : Hp) (C : Addr) (cl : List (Str × Addr)) (fp : List Addr), DenG (X.blk s H scope (compEnvC scope cl C X.env) fp) tg ts B)
    (ht : ∀ (s : Shared) (H : Hp) (C : Addr) (cl : List (Str × Addr)) (fp : List Addr), DenTs (X.blk s H scope (compEnvC scope cl C X.env) fp) ifs Ft)
    (hk : ∀ (s : Shared) (H : Hp) (C : Addr) (cl : List (Str × Addr)) (fp : List Addr), DenE (X.blk s H scope (compEnvC scope cl C X.env) fp) kx Fk)
    (he : ∀ (s : Shared) (H : Hp) (C : Addr) (cl : List (Str × Addr)) (fp : List Addr), DenE (X.blk s H scope (compEnvC scope cl C X.env) fp) vx Fv)
    (hvs : own.map (·.2) = vs := by rfl) (hts : ∀ j ∈ ts, j ∈ vs := by decide) (hs : ∀ x, foldedSetIterable iter X.env x = pure x := by intro _; rfl) :
    DenS X (.Assign [.Name y py] (.DictComp kx vx [⟨tg, iter, ifs, 0⟩] scope pos) spos) (sSet i (mDc Fi B Ft Fk Fv vs)) := by
  obtain ⟨wi, i1, i2⟩ := hi
  subst hvs
  have base := ps_setDc hc hN hy hyl hsw i1 ok (fun s H C cl fp => (hg s H C cl fp).pe) (fun s H C cl fp => (ht s H C cl fp).pe) (fun s H C cl fp => (hk s H C cl fp).pe) (fun s H C cl fp => (he s H C cl fp).pe) hs
  refine ⟨_, base, fun P b σ env G H r rr h Dd q => ?_⟩
  unfold sSet at h
  split at h
  · rename_i d e1 hd
    cases h
    refine dc_run i2 (fun P b σ env G H v d env' r rv hB Q q => cG_run r rv hB Q q) (fun P b σ env G H d env' r hF Q q => cTs_run r hF Q q) (fun P b σ env G H d env' r hF Q q => cE_run r hF Q q) (fun P b σ env G H d env' r hF Q q => cE_run r hF Q q) hts rr hd _ fun p ks xs G' H' ds g r hP hg hh hl ra hout => ?_
    subst hout
    have hgx : Ex G' (upd G' p (.dK (ks.zip xs))) := Ex.new hg
    have r2 : Rep P b (upd G' p (.dK (ks.zip xs))) H' σ e1 := by
      refine r.keep hgx (fun a o ha => ?_) (fun a ha => (r.fresh a ha).1) fun a h1 h2 h3 => ⟨h1.1, ?_, fun _ e => e⟩
      · by_cases hap : a = p
        · subst hap
          rw [upd_same] at ha
          rw [hh, ← ha]
        · rw [upd_ne hap] at ha
          exact r.sub a o ha
      · rw [upd_ne h1.2]
        exact h2
    exact q _ _ H' ⟨g.g.trans hgx, g.h, fun a ha hn => by
      rw [upd_ne (fun z => ha (by rw [z]; exact hP))]
      exact g.n a ha hn⟩ (r2.set (.dK upd_same hl (ra.mono hgx)))
  · cases h
end
end Dn

/-! W17: a def, whatever the heap of the written part. -/
namespace Dn
open PySem PySem.Spec PyProof.Rows L2
open Evl (Ex fresh_back)
section
variable {P : Program} {w : World} {K : PySem.W.Frag} {mg : Str → Option Value} {base : Heap}
theorem fnOk_of {x qual : Str} {st : Stmt} {f : Addr} {fd : FuncData} {N ps : List Str} {k : Nat} {B : So} (F : Fun K x qual st f fd) (S : FnScope N ps (defScope st))
    (body : ∀ (cdv : Value) (A : Around) (outer : List Env) (s : Shared) (H : Hp) (E : XK), Room k (A.deeper (envOfC qual (defScope st) s.heap.objs.size f cdv)) → DenSs (cxOf CX0 P w K mg base N qual (defScope st) f cdv A outer s H E).nox (defBody st) B) :
    FnOk P w K mg base CX0 (k + 1) f fd ps (spF ps.length (fun ds => outF (B (envOf N ds)))) := by
  refine F.ok S (fun vs H Q E h => ?_) fun cdv A outer s H vs Q E hr h => ?_
  · obtain ⟨G, ds, d, _, r, hl, _⟩ := h
    rw [r.length, hl]
  · obtain ⟨G, ds, d, hs, r, hl, hF, q⟩ := h
    obtain ⟨t, h1, h2⟩ := body cdv A outer s H E hr
    refine ⟨t, h1, ?_⟩
    have rep : Rep (fun a => H a = none) (fun _ => 0) G H (L2.start N vs) (envOf N ds) := start_rep hs (fun _ h => h) r
    have pu : ∀ {σ' : L2.St} {env' : DEnv} {G' H' : Hp}, Gr (fun a => H a = none) G H G' H' → Rep (fun a => H a = none) (fun _ => 0) G' H' σ' env' → Pu G H G' H' := fun g r => ⟨g.g, fun a o e => g.h a o e (some_ne e), r.sub, fun a h n => g.n a h n⟩
    cases hB : B (envOf N ds) with
    | none => simp only [hB] at hF; cases hF
    | some r1 =>
      simp only [hB] at hF
      refine h2 _ (fun _ => 0) _ _ G H r1 rep hB _ ?_
      cases r1 with
      | nx e1 =>
        cases hF
        exact fun σ' G' H' g r' => q _ G' H' (pu g r') .non
      | rt d' e1 =>
        cases hF
        exact fun v σ' G' H' g r' p => q v G' H' (pu g r') p
      | bk e1 => cases hF
      | ct e1 => cases hF
end
/-- a, b = .. -/
def sTup (m : Mo D) (t : D → DEnv → Option DEnv) : So := fun env => match m env with | some (d, e1) => (t d e1).map .nx | none => none
end Dn

set_option maxHeartbeats 4000000
namespace Dn
open PySem PySem.Spec PyProof.Rows L2
def topS (i : Nat) : Stmt := PySem.Challenge.pw_hallback_k19_whole_ranks_that_no_desk_ta.main.body.getD i (.Pass ⟨0, 0, 0, 0⟩)
def B_is_whole : So := (sSeq (sRet (mAndV (mMap gIsInt (mVar 0)) (mMap (fun k => some (.bool (!k))) (mMap gB (mMap gIsBool (mVar 0))))))
    sNil)
def F_is_whole (ds : List D) : Option D := outF (B_is_whole (envOf ["thing"] ds))
def B_are_whole : So := (sSeq (sFor (mMap gSeq (mVar 0)) (gNm 1) (sSeq (sIf (mAnd (mMap gB (mMap gTyNotInt (mVar 1))) (mNot (mMap gTru (mMap (lenIs 1 F_is_whole) (mCons (mVar 1) (mRet [])))))) (sSeq (sRet (mRet (.bool false)))
    sNil) sNil)
    sNil))
    (sSeq (sRet (mRet (.bool true)))
    sNil))
def F_are_whole (ds : List D) : Option D := outF (B_are_whole (envOf ["things", "thing"] ds))
def B_is_from_to : So := (sSeq (sRet (mAndV (mMap (lenIs 1 F_is_whole) (mCons (mVar 0) (mRet []))) (mMap (fun k => some (.bool k)) (mChain gLe gLe (mVar 1) (mVar 0) (mVar 2)))))
    sNil)
def F_is_from_to (ds : List D) : Option D := outF (B_is_from_to (envOf ["thing", "low", "high"] ds))
def B_is_tuple : So := (sSeq (sRet (mAndV (mMap gIsTuple (mVar 0)) (mMap (fun k => some (.bool k)) (mChain gLe gLe (mVar 1) (mMap gLen (mCons (mVar 0) (mRet []))) (mVar 2)))))
    sNil)
def F_is_tuple (ds : List D) : Option D := outF (B_is_tuple (envOf ["thing", "least", "most"] ds))
def B_are_rows : So := (sSeq (sIf (mNot (mMap gTru (mMap (lenIs 3 F_is_tuple) (mCons (mVar 0) (mCons (mRet (.int 1)) (mCons (mVar 1) (mRet []))))))) (sSeq (sRet (mRet (.bool false)))
    sNil) sNil)
    (sSeq (sRet (mBin gEq (mMap (fun ds => some (.list ds)) (mLc (mMap gSeq (mVar 0)) (gNm 3) (mMap gTru (mMap gIsTuple (mVar 3))) (mMap gLen (mCons (mVar 3) (mRet []))) [3])) (mBin gMulB (mMap gLst (mCons (mVar 2) (mRet []))) (mMap gLen (mCons (mVar 0) (mRet []))))))
    sNil))
def F_are_rows (ds : List D) : Option D := outF (B_are_rows (envOf ["thing", "most", "wide", "row"] ds))
def B_is_rising : So := (sSeq (sFor (mMap gZip2 (mCons (mVar 0) (mCons (mSl (mVar 0) (mMap (fun d => (gI d).map some) (mRet (.int 1))) (mRet none)) (mRet [])))) (gTu 2 (gsCons (gNm 1) (gsCons (gNm 2) gsNil))) (sSeq (sIf (mNot (mMap gB (mBin gLt (mVar 1) (mVar 2)))) (sSeq (sRet (mRet (.bool false)))
    sNil) sNil)
    sNil))
    (sSeq (sRet (mRet (.bool true)))
    sNil))
def F_is_rising (ds : List D) : Option D := outF (B_is_rising (envOf ["things", "one", "other"] ds))
def B_is_column : So := (sSeq (sSet 3 (mRet (.int 0)))
    (sSeq (sFor (mMap gEnum (mCons (mVar 2) (mRet []))) (gTu 2 (gsCons (gNm 4) (gsCons (gNm 5) gsNil))) (sSeq (sIf (mMap gB (mMap gNotN (mVar 5))) (sSeq (sIf (mOr (mMap gB (mBin gLt (mVar 4) (mVar 3))) (mOr (mMap gB (mBin (gIn true) (mVar 5) (mVar 1))) (mAnd (mMap gB (mMap gTyNotInt (mVar 5))) (mNot (mMap gTru (mMap (lenIs 1 F_is_whole) (mCons (mVar 5) (mRet [])))))))) (sSeq (sRet (mRet (.bool false)))
    sNil) sNil)
    (sSeq (sSet 3 (mBin gAdd (mVar 4) (mBin gIx (mVar 0) (mVar 5))))
    sNil)) sNil)
    sNil))
    (sSeq (sRet (mRet (.bool true)))
    sNil)))
def F_is_column (ds : List D) : Option D := outF (B_is_column (envOf ["stays", "desk", "column", "free", "tick", "one"] ds))
def B_turns_of : So := (sSeq (sSetN 2 0 (mMap gLst (mRet [])))
    (sSeq (sSet 3 (mRet (.int 0)))
    (sSeq (sFor (mMap gEnum (mCons (mVar 1) (mRet []))) (gTu 2 (gsCons (gNm 4) (gsCons (gNm 5) gsNil))) (sSeq (sIf (mMap gB (mMap gNotN (mVar 5))) (sSeq (sApp 2 (mVar 5))
    (sSeq (sSet 3 (mBin gAdd (mVar 4) (mBin gIx (mVar 0) (mVar 5))))
    sNil)) (sSeq (sApp 2 (mIf (mMap gB (mBin gLt (mVar 4) (mVar 3))) (mRet (.int (-1))) (mRet (.int (4)))))
    sNil))
    sNil))
    (sFrz 2 (sSeq (sRet (mVar 2))
    sNil)))))
def F_turns_of (ds : List D) : Option D := outF (B_turns_of (envOf ["stays", "column", "turns", "free", "tick", "one"] ds))
def B_all_stays : So := (sSeq (sRet (mMap (fun ds => some (.list ds)) (mLc (mMap gSeq (mBin gIx (mVar 0) (mRet (.int 0)))) (gTu 2 (gsCons (gNm 1) (gsCons (gNm 2) gsNil))) (mRet true) (mVar 2) [1, 2])))
    sNil)
def F_all_stays (ds : List D) : Option D := outF (B_all_stays (envOf ["hall", "_", "stay"] ds))
def B_all_turns : So := (sSeq (sSet 2 (mMap (lenIs 1 F_all_stays) (mCons (mVar 0) (mRet []))))
    (sSeq (sRet (mMap (fun ds => some (.list ds)) (mLc (mMap gSeq (mVar 1)) (gNm 3) (mRet true) (mMap (lenIs 2 F_turns_of) (mCons (mVar 2) (mCons (mVar 3) (mRet [])))) [3])))
    sNil))
def F_all_turns (ds : List D) : Option D := outF (B_all_turns (envOf ["hall", "columns", "stays", "column"] ds))
def B__are_desks : So := (sSeq (sIf (mNot (mMap gTru (mMap (lenIs 3 F_is_tuple) (mCons (mVar 0) (mCons (mRet (.int 1)) (mCons (mRet (.int (3))) (mRet []))))))) (sSeq (sRet (mRet (.bool false)))
    sNil) sNil)
    (sSeq (sFor (mMap gSeq (mVar 0)) (gNm 2) (sSeq (sIf (mOr (mNot (mMap gTru (mMap gIsTuple (mVar 2)))) (mNot (mMap gTru (mVar 2)))) (sSeq (sRet (mRet (.bool false)))
    sNil) sNil)
    (sSeq (sSet 3 (mRet (.int 0)))
    (sSeq (sFor (mMap gSeq (mVar 2)) (gNm 4) (sSeq (sIf (mOr (mAnd (mMap gB (mMap gTyNotInt (mVar 4))) (mNot (mMap gTru (mMap (lenIs 1 F_is_whole) (mCons (mVar 4) (mRet [])))))) (mNot (mChain gLe gLt (mVar 3) (mVar 4) (mVar 1)))) (sSeq (sRet (mRet (.bool false)))
    sNil) sNil)
    (sSeq (sSet 3 (mBin gAdd (mVar 4) (mRet (.int 1))))
    sNil)))
    sNil))))
    (sSeq (sRet (mRet (.bool true)))
    sNil)))
def F__are_desks (ds : List D) : Option D := outF (B__are_desks (envOf ["thing", "ranks", "desk", "low", "rank"] ds))
def B__are_ranks : So := (sSeq (sIf (mNot (mMap gTru (mMap (lenIs 3 F_is_tuple) (mCons (mVar 0) (mCons (mRet (.int 1)) (mCons (mRet (.int (4))) (mRet []))))))) (sSeq (sRet (mRet (.bool false)))
    sNil) sNil)
    (sSeq (sFor (mMap gSeq (mVar 0)) (gNm 1) (sSeq (sIf (mOr (mNot (mMap gTru (mMap gIsTuple (mVar 1)))) (mOr (mMap gB (mBin gNe (mMap gLen (mCons (mVar 1) (mRet []))) (mRet (.int 2)))) (mNot (mMap gTru (mMap (lenIs 1 F_are_whole) (mCons (mVar 1) (mRet []))))))) (sSeq (sRet (mRet (.bool false)))
    sNil) sNil)
    (sSeq (sTup (mVar 1) (gTu 2 (gsCons (gNm 2) (gsCons (gNm 3) gsNil))))
    (sSeq (sIf (mOr (mNot (mChain gLe gLe (mRet (.int 1)) (mVar 2) (mRet (.int (5))))) (mNot (mChain gLe gLe (mRet (.int 1)) (mVar 3) (mRet (.int (10)))))) (sSeq (sRet (mRet (.bool false)))
    sNil) sNil)
    sNil))))
    (sSeq (sRet (mRet (.bool true)))
    sNil)))
def F__are_ranks (ds : List D) : Option D := outF (B__are_ranks (envOf ["thing", "pair", "most", "stay"] ds))
def B_is_hall : So := (sSeq (sIf (mNot (mMap gTru (mMap (lenIs 3 F_is_tuple) (mCons (mVar 0) (mCons (mRet (.int 2)) (mCons (mRet (.int 2)) (mRet []))))))) (sSeq (sRet (mRet (.bool false)))
    sNil) sNil)
    (sSeq (sTup (mVar 0) (gTu 2 (gsCons (gNm 1) (gsCons (gNm 2) gsNil))))
    (sSeq (sRet (mAndV (mMap (lenIs 1 F__are_ranks) (mCons (mVar 1) (mRet []))) (mMap (lenIs 2 F__are_desks) (mCons (mVar 2) (mCons (mMap gLen (mCons (mVar 1) (mRet []))) (mRet []))))))
    sNil)))
def F_is_hall (ds : List D) : Option D := outF (B_is_hall (envOf ["thing", "ranks", "desks"] ds))
def B_columns_of : So := (sSeq (sSet 2 (mBin gIx (mVar 0) (mRet (.int 1))))
    (sSeq (sIf (mNot (mMap gTru (mMap (lenIs 3 F_are_rows) (mCons (mVar 1) (mCons (mRet (.int (40))) (mCons (mMap gLen (mCons (mVar 2) (mRet []))) (mRet []))))))) (sSeq (sRet (mRet .none))
    sNil) sNil)
    (sSeq (sSet 3 (mMap (lenIs 1 F_all_stays) (mCons (mVar 0) (mRet []))))
    (sSeq (sSet 4 (mMap gZipS (mVar 1)))
    (sSeq (sFor (mMap gZip2 (mCons (mVar 4) (mCons (mVar 2) (mRet [])))) (gTu 2 (gsCons (gNm 5) (gsCons (gNm 6) gsNil))) (sSeq (sIf (mNot (mMap gTru (mMap (lenIs 3 F_is_column) (mCons (mVar 3) (mCons (mVar 6) (mCons (mVar 5) (mRet []))))))) (sSeq (sRet (mRet .none))
    sNil) sNil)
    sNil))
    (sSeq (sRet (mVar 4))
    sNil))))))
def F_columns_of (ds : List D) : Option D := outF (B_columns_of (envOf ["hall", "thing", "desks", "stays", "columns", "column", "desk"] ds))
def B_need_hall : So := (sSeq (sIf (mNot (mMap gTru (mMap (lenIs 1 F_is_hall) (mCons (mVar 0) (mRet []))))) (sSeq sNone
    sNil) sNil)
    sNil)
def F_need_hall (ds : List D) : Option D := outF (B_need_hall (envOf ["thing"] ds))
def B_need_book : So := (sSeq (sSet 2 (mMap (lenIs 2 F_columns_of) (mCons (mVar 0) (mCons (mVar 1) (mRet [])))))
    (sSeq (sIf (mMap gB (mMap gIsN (mVar 2))) (sSeq sNone
    sNil) sNil)
    (sSeq (sRet (mVar 2))
    sNil)))
def F_need_book (ds : List D) : Option D := outF (B_need_book (envOf ["hall", "thing", "columns"] ds))
def B__are_looks_of : So := (sSeq (sIf (mNot (mMap gTru (mMap (lenIs 3 F_is_tuple) (mCons (mVar 2) (mCons (mRet (.int 0)) (mCons (mRet (.int (6))) (mRet []))))))) (sSeq (sRet (mRet (.bool false)))
    sNil) sNil)
    (sSeq (sFor (mMap gSeq (mVar 2)) (gNm 3) sNone)
    (sSeq (sRet (mMap (lenIs 1 F_is_rising) (mCons (mVar 2) (mRet []))))
    sNil)))
def F__are_looks_of (ds : List D) : Option D := outF (B__are_looks_of (envOf ["hall", "book", "thing", "look"] ds))
def B_need_looks : So := (sSeq (sIf (mNot (mMap gTru (mMap (lenIs 3 F__are_looks_of) (mCons (mVar 0) (mCons (mVar 1) (mCons (mVar 2) (mRet []))))))) (sSeq sNone
    sNil) sNil)
    sNil)
def F_need_looks (ds : List D) : Option D := outF (B_need_looks (envOf ["hall", "book", "thing"] ds))
def B_need_written : So := (sSeq (sDrop (mMap (lenIs 1 F_need_hall) (mCons (mVar 0) (mRet []))))
    (sSeq (sSet 3 (mMap (lenIs 2 F_need_book) (mCons (mVar 0) (mCons (mVar 1) (mRet [])))))
    (sSeq (sDrop (mMap (lenIs 3 F_need_looks) (mCons (mVar 0) (mCons (mVar 1) (mCons (mVar 2) (mRet []))))))
    (sSeq (sRet (mVar 3))
    sNil))))
def F_need_written (ds : List D) : Option D := outF (B_need_written (envOf ["hall", "book", "looks", "columns"] ds))
def B_need_rank : So := (sSeq (sIf (mNot (mMap gTru (mMap (lenIs 3 F_is_from_to) (mCons (mVar 1) (mCons (mRet (.int 0)) (mCons (mBin gSub (mMap gLen (mCons (mBin gIx (mVar 0) (mRet (.int 0))) (mRet []))) (mRet (.int 1))) (mRet []))))))) (sSeq sNone
    sNil) sNil)
    sNil)
def F_need_rank (ds : List D) : Option D := outF (B_need_rank (envOf ["hall", "thing"] ds))
def B_told_of : So := (sSeq (sSet 5 (mDc (mMap gSeq (mMap gTup (mCons (mRet (.int (4))) (mStar (mVar 3) (mRet []))))) (gNm 12) (mRet true) (mVar 12) (mRet (.bool true)) [12]))
    (sSeq (sSet 6 (mMap (fun ds => some (.list ds)) (mLc (mMap gZip2 (mCons (mVar 1) (mCons (mBin gIx (mVar 0) (mRet (.int 1))) (mRet [])))) (gTu 2 (gsCons (gNm 13) (gsCons (gNm 14) gsNil))) (mMap gB (mBin (gIn false) (mVar 2) (mVar 14))) (mVar 13) [13, 14])))
    (sSeq (sSet 7 (mIf (mMap gTru (mVar 6)) (mMap gZipS (mVar 6)) (mMap (fun ds => some (.list ds)) (mLc (mMap gSeq (mBin gIx (mVar 1) (mRet (.int 0)))) (gNm 15) (mRet true) (mMap gTup (mRet [])) [15]))))
    (sSeq (sSetN 8 0 (mMap gLst (mRet [])))
    (sSeq (sSetN 9 0 (mMap gLst (mRet [])))
    (sSeq (sFor (mMap gSeq (mVar 7)) (gNm 10) (sSeq (sSet 11 (mRet .none))
    (sSeq (sFor (mMap gSeq (mVar 10)) (gNm 12) (sSeq (sIf (mMap gB (mBin gEq (mVar 12) (mVar 2))) (sSeq (sAug 4 gIAdd (mRet (.int 1)))
    sNil) (sSeq (sIf (mAnd (mMap gB (mBin (gInK false) (mVar 12) (mVar 5))) (mMap gB (mMap gIsN (mVar 11)))) (sSeq (sSet 11 (mVar 4))
    sNil) sNil)
    sNil))
    sNil))
    (sSeq (sApp 8 (mVar 4))
    (sSeq (sApp 9 (mVar 11))
    sNil)))))
    (sFrz 9 (sFrz 8 (sSeq (sRet (mMap gTup (mCons (mVar 8) (mCons (mVar 9) (mRet [])))))
    sNil)))))))))
def F_told_of (ds : List D) : Option D := outF (B_told_of (envOf ["hall", "turns", "rank", "behind", "gone", "over", "own", "rows", "least", "most", "row", "passed", "one", "column", "desk", "_"] ds))
def B_told_with : So := (sSeq (sSet 3 (mBin gIx (mVar 0) (mRet (.int 0))))
    (sSeq (sSetN 4 0 (mMap gList (mCons (mVar 3) (mRet []))))
    (sSeq (sSetN 5 0 (mMap gList (mCons (mBin gIx (mVar 0) (mRet (.int 1))) (mRet []))))
    (sSeq (sFor (mMap gSeq (mVar 1)) (gTu 4 (gsCons (gNm 6) (gsCons (gNm 7) (gsCons (gNm 8) (gsCons (gNm 9) gsNil))))) (sSeq (sIf (mMap gB (mBin gEq (mVar 7) (mVar 2))) (sSeq (sPut 4 (mVar 6) (mLend (mMap gMax2 (mCons (mBin gIx (mVar 4) (mVar 6)) (mCons (mBin gAdd (mBin gIx (mVar 3) (mVar 6)) (mVar 8)) (mRet []))))))
    (sSeq (sPut 5 (mVar 6) (mLend (mIf (mMap gB (mMap gIsN (mBin gIx (mVar 5) (mVar 6)))) (mBin gAdd (mBin gIx (mVar 3) (mVar 6)) (mVar 9)) (mMap gMin2 (mCons (mBin gIx (mVar 5) (mVar 6)) (mCons (mBin gAdd (mBin gIx (mVar 3) (mVar 6)) (mVar 9)) (mRet [])))))))
    sNil)) sNil)
    sNil))
    (sFrz 5 (sFrz 4 (sSeq (sRet (mMap gTup (mCons (mVar 4) (mCons (mVar 5) (mRet [])))))
    sNil)))))))
def F_told_with (ds : List D) : Option D := outF (B_told_with (envOf ["told", "looks", "rank", "taken", "least", "most", "tick", "one", "few", "many"] ds))
def B_ranks_behind : So := (sSeq (sRet (mBin gTupRg2 (mBin gAdd (mVar 1) (mRet (.int 1))) (mMap gLen (mCons (mBin gIx (mVar 0) (mRet (.int 0))) (mRet [])))))
    sNil)
def F_ranks_behind (ds : List D) : Option D := outF (B_ranks_behind (envOf ["hall", "rank"] ds))
def B_steps_up : So := (sSeq (sSetN 4 0 (mMap gLst (mRet [])))
    (sSeq (sFor (mMap gZip2 (mCons (mBin gIx (mVar 0) (mRet (.int 0))) (mCons (mBin gIx (mVar 0) (mRet (.int 1))) (mRet [])))) (gTu 2 (gsCons (gNm 5) (gsCons (gNm 6) gsNil))) (sSeq (sAug 3 gIAdd (mVar 1))
    (sSeq (sIf (mAnd (mMap gB (mMap gNotN (mVar 6))) (mMap gB (mBin gLt (mVar 6) (mVar 3)))) (sSeq (sSet 3 (mVar 6))
    sNil) sNil)
    (sSeq (sIf (mMap gB (mBin gGt (mVar 5) (mVar 2))) (sSeq (sSet 2 (mVar 5))
    sNil) sNil)
    (sSeq (sApp 4 (mMap gTup (mCons (mVar 2) (mCons (mVar 3) (mRet [])))))
    (sSeq (sIf (mMap gB (mBin gGt (mVar 2) (mVar 3))) (sSeq (fun env => some (.bk env))
    sNil) sNil)
    sNil))))))
    (sFrz 4 (sSeq (sRet (mVar 4))
    sNil))))
def F_steps_up (ds : List D) : Option D := outF (B_steps_up (envOf ["told", "most", "low", "high", "steps", "least", "limit"] ds))
def B_is_barred : So := (sSeq (sTup (mBin gIx (mVar 0) (mMap gNeg (mRet (.int 1)))) (gTu 2 (gsCons (gNm 1) (gsCons (gNm 2) gsNil))))
    (sSeq (sRet (mBin gGt (mVar 1) (mVar 2)))
    sNil))
def F_is_barred (ds : List D) : Option D := outF (B_is_barred (envOf ["steps", "low", "high"] ds))
def B_steps_down : So := (sSeq (sTup (mBin gIx (mVar 0) (mMap gNeg (mRet (.int 1)))) (gTu 2 (gsCons (gNm 2) (gsCons (gNm 3) gsNil))))
    (sSeq (sSetN 4 0 (mMap gLst (mRet [])))
    (sSeq (sFor (mMap gRevI (mCons (mVar 0) (mRet []))) (gTu 2 (gsCons (gNm 5) (gsCons (gNm 6) gsNil))) (sSeq (sSet 2 (mIf (mMap gB (mBin gGt (mVar 5) (mBin gSub (mVar 2) (mVar 1)))) (mVar 5) (mBin gSub (mVar 2) (mVar 1))))
    (sSeq (sSet 3 (mIf (mMap gB (mBin gLt (mVar 6) (mVar 3))) (mVar 6) (mVar 3)))
    (sSeq (sApp 4 (mMap gTup (mCons (mVar 2) (mCons (mVar 3) (mRet [])))))
    sNil))))
    (sFrz 4 (sSeq (sRet (mMap gRevL (mVar 4)))
    sNil)))))
def F_steps_down (ds : List D) : Option D := outF (B_steps_down (envOf ["steps", "most", "low", "high", "found", "low_up", "high_up"] ds))
def B_rank_up : So := (sSeq (sSet 4 (mMap (lenIs 5 F_told_of) (mCons (mVar 0) (mCons (mVar 1) (mCons (mVar 3) (mCons (mMap (lenIs 2 F_ranks_behind) (mCons (mVar 0) (mCons (mVar 3) (mRet [])))) (mCons (mRet (.int 0)) (mRet []))))))))
    (sSeq (sRet (mMap (lenIs 4 F_steps_up) (mCons (mIf (mMap gTru (mVar 2)) (mMap (lenIs 3 F_told_with) (mCons (mVar 4) (mCons (mVar 2) (mCons (mVar 3) (mRet []))))) (mVar 4)) (mCons (mBin gIx (mBin gIx (mBin gIx (mVar 0) (mRet (.int 0))) (mVar 3)) (mRet (.int 0))) (mCons (mRet (.int 0)) (mCons (mRet (.int 0)) (mRet [])))))))
    sNil))
def F_rank_up (ds : List D) : Option D := outF (B_rank_up (envOf ["hall", "turns", "looks", "rank", "told"] ds))
def B_all_up : So := (sSeq (sSet 3 (mMap (lenIs 2 F_all_turns) (mCons (mVar 0) (mCons (mVar 1) (mRet [])))))
    (sSeq (sSetN 4 0 (mMap gLst (mRet [])))
    (sSeq (sFor (mMap gRg1 (mCons (mMap gLen (mCons (mBin gIx (mVar 0) (mRet (.int 0))) (mRet []))) (mRet []))) (gNm 5) (sSeq (sSet 6 (mMap (lenIs 4 F_rank_up) (mCons (mVar 0) (mCons (mVar 3) (mCons (mVar 2) (mCons (mVar 5) (mRet [])))))))
    (sSeq (sIf (mMap gTru (mMap (lenIs 1 F_is_barred) (mCons (mVar 6) (mRet [])))) (sSeq (sRet (mRet .none))
    sNil) sNil)
    (sSeq (sApp 4 (mVar 6))
    sNil))))
    (sFrz 4 (sSeq (sRet (mVar 4))
    sNil)))))
def F_all_up (ds : List D) : Option D := outF (B_all_up (envOf ["hall", "columns", "looks", "turns", "found", "rank", "steps"] ds))
def B_all_steps : So := (sSeq (sSet 3 (mMap (lenIs 3 F_all_up) (mCons (mVar 0) (mCons (mVar 1) (mCons (mVar 2) (mRet []))))))
    (sSeq (sRet (mIf (mMap gB (mMap gIsN (mVar 3))) (mRet .none) (mMap (fun ds => some (.list ds)) (mLc (mMap gZip2 (mCons (mVar 3) (mCons (mBin gIx (mVar 0) (mRet (.int 0))) (mRet [])))) (gTu 2 (gsCons (gNm 4) (gsCons (gTu 2 (gsCons (gNm 5) (gsCons (gNm 6) gsNil))) gsNil))) (mRet true) (mMap (lenIs 2 F_steps_down) (mCons (mVar 4) (mCons (mVar 5) (mRet [])))) [4, 5, 6]))))
    sNil))
def F_all_steps (ds : List D) : Option D := outF (B_all_steps (envOf ["hall", "columns", "looks", "every", "steps", "most", "_"] ds))
def B_steps_of : So := (sSeq (sSet 4 (mMap (lenIs 3 F_all_up) (mCons (mVar 0) (mCons (mVar 1) (mCons (mVar 2) (mRet []))))))
    (sSeq (sRet (mIf (mMap gB (mMap gIsN (mVar 4))) (mRet .none) (mMap (lenIs 2 F_steps_down) (mCons (mBin gIx (mVar 4) (mVar 3)) (mCons (mBin gIx (mBin gIx (mBin gIx (mVar 0) (mRet (.int 0))) (mVar 3)) (mRet (.int 0))) (mRet []))))))
    sNil))
def F_steps_of (ds : List D) : Option D := outF (B_steps_of (envOf ["hall", "columns", "looks", "rank", "every"] ds))
def B_stairs : So := (sSeq (sSet 4 (mMap (lenIs 3 F_need_written) (mCons (mVar 0) (mCons (mVar 1) (mCons (mVar 2) (mRet []))))))
    (sSeq (sDrop (mMap (lenIs 2 F_need_rank) (mCons (mVar 0) (mCons (mVar 3) (mRet [])))))
    (sSeq (sRet (mMap (lenIs 4 F_steps_of) (mCons (mVar 0) (mCons (mVar 4) (mCons (mVar 2) (mCons (mVar 3) (mRet [])))))))
    sNil)))
def F_stairs (ds : List D) : Option D := outF (B_stairs (envOf ["hall", "book", "looks", "rank", "columns"] ds))
def B_ways_within : So := (sSeq (sSet 4 (mMap gAcc (mVar 0)))
    (sSeq (sSet 4 (mBin gAdd (mBin gAdd (mBin gMulB (mMap gLst (mCons (mRet (.int 0)) (mRet []))) (mBin gAdd (mVar 1) (mRet (.int 1)))) (mVar 4)) (mBin gMulB (mMap gLst (mCons (mBin gIx (mVar 4) (mMap gNeg (mRet (.int 1)))) (mRet []))) (mVar 1))))
    (sSeq (sSet 5 (mBin gAdd (mBin gAdd (mVar 2) (mVar 1)) (mRet (.int 1))))
    (sSeq (sRet (mMap (fun ds => some (.list ds)) (mLc (mMap gZip2 (mCons (mSl (mVar 4) (mMap (fun d => (gI d).map some) (mVar 5)) (mMap (fun d => (gI d).map some) (mBin gAdd (mVar 5) (mVar 3)))) (mCons (mSl (mVar 4) (mMap (fun d => (gI d).map some) (mVar 2)) (mMap (fun d => (gI d).map some) (mBin gAdd (mVar 2) (mVar 3)))) (mRet [])))) (gTu 2 (gsCons (gNm 6) (gsCons (gNm 7) gsNil))) (mRet true) (mBin gSub (mVar 6) (mVar 7)) [6, 7])))
    sNil))))
def F_ways_within (ds : List D) : Option D := outF (B_ways_within (envOf ["ways", "most", "start", "many", "by", "behind", "one", "other"] ds))
def B_ways_to : So := (sSeq (sSetN 2 0 (mMap gLst (mRet [])))
    (sSeq (sSet 3 (mMap gLst (mCons (mRet (.int 1)) (mRet []))))
    (sSeq (sSet 4 (mRet (.int 0)))
    (sSeq (sFor (mMap gSeq (mVar 0)) (gTu 2 (gsCons (gNm 5) (gsCons (gNm 6) gsNil))) (sSeq (sSet 3 (mMap (lenIs 4 F_ways_within) (mCons (mVar 3) (mCons (mVar 1) (mCons (mBin gSub (mVar 5) (mVar 4)) (mCons (mBin gAdd (mBin gSub (mVar 6) (mVar 5)) (mRet (.int 1))) (mRet [])))))))
    (sSeq (sApp 2 (mVar 3))
    (sSeq (sSet 4 (mVar 5))
    sNil))))
    (sFrz 2 (sSeq (sRet (mVar 2))
    sNil))))))
def F_ways_to (ds : List D) : Option D := outF (B_ways_to (envOf ["steps", "most", "found", "ahead", "low_ahead", "low", "high"] ds))
def B_all_ways : So := (sSeq (sRet (mMap gSum (mCons (mBin gIx (mMap (lenIs 2 F_ways_to) (mCons (mVar 0) (mCons (mVar 1) (mRet [])))) (mMap gNeg (mRet (.int 1)))) (mRet []))))
    sNil)
def F_all_ways (ds : List D) : Option D := outF (B_all_ways (envOf ["steps", "most"] ds))
def B_all_comings : So := (sSeq (sSet 2 (mRet (.int 1)))
    (sSeq (sFor (mMap gZip2 (mCons (mVar 1) (mCons (mBin gIx (mVar 0) (mRet (.int 0))) (mRet [])))) (gTu 2 (gsCons (gNm 3) (gsCons (gTu 2 (gsCons (gNm 4) (gsCons (gNm 5) gsNil))) gsNil))) (sSeq (sSet 2 (mBin gMulB (mVar 2) (mMap (lenIs 2 F_all_ways) (mCons (mVar 3) (mCons (mVar 4) (mRet []))))))
    sNil))
    (sSeq (sRet (mVar 2))
    sNil)))
def F_all_comings (ds : List D) : Option D := outF (B_all_comings (envOf ["hall", "every", "many", "steps", "most", "_"] ds))
def B_how_many : So := (sSeq (sSet 3 (mMap (lenIs 3 F_need_written) (mCons (mVar 0) (mCons (mVar 1) (mCons (mVar 2) (mRet []))))))
    (sSeq (sSet 4 (mMap (lenIs 3 F_all_steps) (mCons (mVar 0) (mCons (mVar 3) (mCons (mVar 2) (mRet []))))))
    (sSeq (sRet (mIf (mMap gB (mMap gIsN (mVar 4))) (mRet (.int 0)) (mMap (lenIs 2 F_all_comings) (mCons (mVar 0) (mCons (mVar 4) (mRet []))))))
    sNil)))
def F_how_many (ds : List D) : Option D := outF (B_how_many (envOf ["hall", "book", "looks", "columns", "every"] ds))
def B_how_many_of : So := (sSeq (sSet 4 (mMap (lenIs 3 F_need_written) (mCons (mVar 0) (mCons (mVar 1) (mCons (mVar 2) (mRet []))))))
    (sSeq (sDrop (mMap (lenIs 2 F_need_rank) (mCons (mVar 0) (mCons (mVar 3) (mRet [])))))
    (sSeq (sSet 5 (mMap (lenIs 4 F_steps_of) (mCons (mVar 0) (mCons (mVar 4) (mCons (mVar 2) (mCons (mVar 3) (mRet [])))))))
    (sSeq (sRet (mIf (mMap gB (mMap gIsN (mVar 5))) (mRet (.int 0)) (mMap (lenIs 2 F_all_ways) (mCons (mVar 5) (mCons (mBin gIx (mBin gIx (mBin gIx (mVar 0) (mRet (.int 0))) (mVar 3)) (mRet (.int 0))) (mRet []))))))
    sNil))))
def F_how_many_of (ds : List D) : Option D := outF (B_how_many_of (envOf ["hall", "book", "looks", "rank", "columns", "steps"] ds))
def B__law_well : Ro := (rIf (mMap gB (mBin gGe (mVar 0) (mBin gPow (mRet (.int 10)) (mRet (.int 18))))) (rRet (mMap gLst (mCons (mBin gSub (mVar 0) (mBin gPow (mRet (.int 10)) (mRet (.int 18)))) (mCons (mBin gMod (mVar 0) (mRet (.int 2305843009213693951))) (mCons (mVar 1) (mRet [])))))) (rRet (mMap gLst (mCons (mRet (.int 0)) (mCons (mBin gMod (mVar 0) (mRet (.int 2305843009213693951))) (mCons (mVar 1) (mRet [])))))))
def F__law_well (ds : List D) : Option D := outN (B__law_well (envOf ["cell", "turn"] ds))
def B__law_take : So := (sSeq (sIf (mLendT (mMap gB (mBin gGt (mBin gIx (mVar 0) (mRet (.int 0))) (mRet (.int 0))))) (sSeq (sSet 2 (mLend (mBin gMod (mBin gIx (mVar 0) (mRet (.int 0))) (mVar 1))))
    (sSeq (sPut 0 (mRet (.int 0)) (mLend (mBin gDiv (mBin gIx (mVar 0) (mRet (.int 0))) (mVar 1))))
    (sSeq (sRet (mVar 2))
    sNil))) sNil)
    (sSeq (sPut 0 (mRet (.int 2)) (mLend (mBin gAdd (mBin gIx (mVar 0) (mRet (.int 2))) (mRet (.int 1)))))
    (sSeq (sSet 3 (mRet (.int 2305843009213693951)))
    (sSeq (sSet 4 (mLend (mBin gMod (mBin gAdd (mBin gIx (mVar 0) (mRet (.int 1))) (mBin gMulB (mRet (.int 1000003)) (mBin gIx (mVar 0) (mRet (.int 2))))) (mVar 3))))
    (sSeq (sSet 4 (mLend (mBin gMod (mBin gAdd (mBin gAdd (mBin gMulB (mVar 4) (mVar 4)) (mBin gMulB (mRet (.int 7919)) (mBin gPow (mBin gIx (mVar 0) (mRet (.int 2))) (mRet (.int 2))))) (mRet (.int 5))) (mVar 3))))
    (sSeq (sRet (mBin gMod (mBin gDiv (mBin gMod (mBin gPow (mVar 4) (mRet (.int 3))) (mVar 3)) (mRet (.int 13))) (mVar 1)))
    sNil))))))
def F__law_take (ds : List D) : Option (D × List D) := outIO [some 0, none] (B__law_take (envIO ["bag", "many", "found", "p", "n"] [some 0, none] ds))
def B__law_bags : Ro := (rRet (mMap (fun ds => some (.list ds)) (mLc (mMap gEnum (mCons (mBin gAdd (mSl (mVar 0) (mRet none) (mMap (fun d => (gI d).map some) (mVar 1))) (mMap gLst (mCons (mRet (.int 0)) (mRet [])))) (mRet []))) (gTu 2 (gsCons (gNm 2) (gsCons (gNm 3) gsNil))) (mRet true) (mMap (lenIs 2 F__law_well) (mCons (mVar 3) (mCons (mBin gMulB (mRet (.int 977)) (mVar 2)) (mRet [])))) [2, 3])))
def F__law_bags (ds : List D) : Option D := outN (B__law_bags (envOf ["script", "most", "k", "cell"] ds))
def B__law_some : So := (sSeq (sSet 2 (mMap (fun ds => some (.list ds)) (mLc (mMap gRg1 (mCons (mVar 1) (mRet []))) (gNm 3) (mMap gB (mBin gGt (mCallIO [some 0, none] F__law_take (mIo 0 (mCons (mMap (fun d => some (AR.fz d)) (mRet (.int 4))) (mRet [])))) (mRet (.int 0)))) (mVar 3) [3])))
    (sSeq (sRet (mIf (mMap gB (mBin gNe (mVar 2) (mMap gLst (mRet [])))) (mMap gTuple (mCons (mVar 2) (mRet []))) (mMap gTup (mCons (mCallIO [some 0, none] F__law_take (mIo 0 (mCons (mMap (fun d => some (AR.fz d)) (mVar 1)) (mRet [])))) (mRet [])))))
    sNil))
def F__law_some (ds : List D) : Option (D × List D) := outIO [some 0, none] (B__law_some (envIO ["bag", "ranks1", "found", "rank"] [some 0, none] ds))
def B__law_hall : So := (sSeq (sSet 6 (mBin gAdd (mRet (.int 1)) (mCallIO [some 0, none] F__law_take (mIo 0 (mCons (mMap (fun d => some (AR.fz d)) (mVar 1)) (mRet []))))))
    (sSeq (sSet 7 (mBin gAdd (mRet (.int 1)) (mCallIO [some 0, none] F__law_take (mIo 0 (mCons (mMap (fun d => some (AR.fz d)) (mVar 4)) (mRet []))))))
    (sSeq (sSetN 8 0 (mMap gLst (mRet [])))
    (sSeq (sFor (mMap gRg1 (mCons (mVar 6) (mRet []))) (gNm 9) (sSeq (sApp 8 (mMap gTup (mCons (mBin gAdd (mRet (.int 1)) (mCallIO [some 0, none] F__law_take (mIo 0 (mCons (mMap (fun d => some (AR.fz d)) (mVar 3)) (mRet []))))) (mCons (mIf (mMap gTru (mVar 5)) (mVar 7) (mBin gAdd (mRet (.int 1)) (mCallIO [some 0, none] F__law_take (mIo 0 (mCons (mMap (fun d => some (AR.fz d)) (mVar 4)) (mRet [])))))) (mRet [])))))
    sNil))
    (sSeq (sSetN 10 0 (mMap gLst (mRet [])))
    (sSeq (sFor (mMap gRg1 (mCons (mBin gAdd (mRet (.int 1)) (mCallIO [some 0, none] F__law_take (mIo 0 (mCons (mMap (fun d => some (AR.fz d)) (mVar 2)) (mRet []))))) (mRet []))) (gNm 11) (sSeq (sApp 10 (mIf (mOr (mMap gTru (mVar 5)) (mMap gB (mBin gEq (mCallIO [some 0, none] F__law_take (mIo 0 (mCons (mMap (fun d => some (AR.fz d)) (mRet (.int 2))) (mRet [])))) (mRet (.int 0))))) (mMap gTupRg (mVar 6)) (mCallIO [some 0, none] F__law_some (mIo 0 (mCons (mMap (fun d => some (AR.fz d)) (mVar 6)) (mRet []))))))
    sNil))
    (sFrz 10 (sFrz 8 (sSeq (sRet (mMap gTup (mCons (mMap gTuple (mCons (mVar 8) (mRet []))) (mCons (mMap gTuple (mCons (mVar 10) (mRet []))) (mRet [])))))
    sNil)))))))))
def F__law_hall (ds : List D) : Option (D × List D) := outIO [some 0, none, none, none, none, none] (B__law_hall (envIO ["bag", "ranks1", "desks1", "most", "stay1", "alike", "many", "one", "ranks", "rank", "desks", "desk"] [some 0, none, none, none, none, none] ds))
def B__law_comings : So := (sSeq (sSet 3 (mMap (fun ds => some (.list ds)) (mLc (mMap gSeq (mBin gIx (mVar 1) (mRet (.int 0)))) (gNm 7) (mRet true) (mCallIO [some 0, none] F__law_take (mIo 0 (mCons (mMap (fun d => some (AR.fz d)) (mRet (.int 6))) (mRet [])))) [7])))
    (sSeq (sSetN 4 0 (mMap gLst (mRet [])))
    (sSeq (sFor (mMap gRg1 (mCons (mVar 2) (mRet []))) (gNm 5) (sSeq (sSetN 6 0 (mMap gLst (mRet [])))
    (sSeq (sFor (mMap gZip2 (mCons (mBin gIx (mVar 1) (mRet (.int 0))) (mCons (mVar 3) (mRet [])))) (gTu 2 (gsCons (gNm 7) (gsCons (gNm 8) gsNil))) (sSeq (sApp 6 (mIf (mMap gB (mBin gLt (mCallIO [some 0, none] F__law_take (mIo 0 (mCons (mMap (fun d => some (AR.fz d)) (mRet (.int 6))) (mRet [])))) (mVar 8))) (mRet (.int 0)) (mCallIO [some 0, none] F__law_take (mIo 0 (mCons (mMap (fun d => some (AR.fz d)) (mBin gAdd (mBin gIx (mVar 7) (mRet (.int 0))) (mRet (.int 1)))) (mRet []))))))
    sNil))
    (sFrz 6 (sSeq (sApp 4 (mMap gTuple (mCons (mVar 6) (mRet []))))
    sNil)))))
    (sFrz 4 (sSeq (sRet (mMap gTuple (mCons (mVar 4) (mRet []))))
    sNil)))))
def F__law_comings (ds : List D) : Option (D × List D) := outIO [some 0, none, none] (B__law_comings (envIO ["bag", "hall", "ticks1", "idle", "found", "tick", "row", "rank", "lazy"] [some 0, none, none] ds))
def B__law_order : So := (sSeq (sFor (mMap gSeq (mVar 2)) (gNm 3) (sSeq (sIf (mAnd (mMap gB (mBin (gIn false) (mVar 3) (mVar 0))) (mMap gB (mBin gNe (mBin gIx (mVar 1) (mVar 3)) (mMap gLst (mRet []))))) (sSeq (sRet (mVar 3))
    sNil) sNil)
    sNil))
    (sSeq (sRet (mRet .none))
    sNil))
def F__law_order (ds : List D) : Option D := outF (B__law_order (envOf ["desk", "waiting1", "order", "rank"] ds))
def B__law_run_by : So := (sSeq (sTup (mVar 0) (gTu 2 (gsCons (gNm 3) (gsCons (gNm 4) gsNil))))
    (sSeq (sPars [5, 6, 7, 8, 9] (mCons (mMap (fun d => some (some 1, d)) (mMap (fun ds => some (.list ds)) (mLc (mMap gSeq (mVar 3)) (gNm 12) (mRet true) (mMap gLst (mRet [])) [12]))) (mCons (mMap (fun d => some (some 0, d)) (mBin gRep (mMap gLst (mCons (mRet (.int 0)) (mRet []))) (mMap gLen (mCons (mVar 4) (mRet []))))) (mCons (mMap (fun d => some (some 0, d)) (mMap gLst (mRet []))) (mCons (mMap (fun d => some (some 0, d)) (mMap gLst (mRet []))) (mCons (mMap (fun d => some (some 1, d)) (mMap (fun ds => some (.list ds)) (mLc (mMap gSeq (mVar 3)) (gNm 12) (mRet true) (mMap gLst (mRet [])) [12]))) (mRet [])))))))
    (sSeq (sFor (mMap gEnum (mCons (mVar 1) (mRet []))) (gTu 2 (gsCons (gNm 10) (gsCons (gNm 11) gsNil))) (sSeq (sFor (mMap gEnum (mCons (mVar 11) (mRet []))) (gTu 2 (gsCons (gNm 12) (gsCons (gNm 13) gsNil))) (sSeq (sPut2 5 (mVar 12) (mAdd2 5 (mVar 12) (mBin gMulB (mMap gLst (mCons (mVar 10) (mRet []))) (mVar 13))))
    sNil))
    (sSeq (sSetN 14 0 (mMap gLst (mRet [])))
    (sSeq (sFor (mMap gEnum (mCons (mVar 4) (mRet []))) (gTu 2 (gsCons (gNm 15) (gsCons (gNm 16) gsNil))) (sSeq (sSet 17 (mLend (mIf (mMap gB (mBin gLe (mBin gIx (mVar 6) (mVar 15)) (mVar 10))) (mMap (lenIs 3 F__law_order) (mCons (mVar 16) (mCons (mVar 5) (mCons (mVar 2) (mRet []))))) (mRet .none))))
    (sSeq (sApp 14 (mVar 17))
    (sSeq (sIf (mMap gB (mMap gNotN (mVar 17))) (sSeq (sApp2 9 (mVar 17) (mBin gSub (mVar 10) (mPop2 5 (mVar 17) (mRet (.int 0)))))
    (sSeq (sPut 6 (mVar 15) (mBin gAdd (mVar 10) (mBin gIx (mBin gIx (mVar 3) (mVar 17)) (mRet (.int 1)))))
    sNil)) sNil)
    sNil))))
    (sFrz 14 (sSeq (sApp 7 (mMap gTuple (mCons (mVar 14) (mRet []))))
    (sSeq (sApp 8 (mCopy2 5 18))
    sNil)))))))
    (sFrz 9 (sFrz 8 (sFrz 7 (sSeq (sRet (mMap gTup (mCons (mMap gTuple (mCons (mVar 7) (mRet []))) (mCons (mVar 8) (mCons (mVar 9) (mRet []))))))
    sNil)))))))
def F__law_run_by (ds : List D) : Option D := outF (B__law_run_by (envOf ["hall", "comings", "order", "ranks", "desks", "waiting1", "again", "book", "left1", "waits1", "tick", "row", "rank", "many", "taken1", "at", "desk", "one", "some"] ds))
def B__law_run : So := (sSeq (sRet (mMap (lenIs 3 F__law_run_by) (mCons (mVar 0) (mCons (mVar 1) (mCons (mMap gLstRg (mMap gLen (mCons (mBin gIx (mVar 0) (mRet (.int 0))) (mRet [])))) (mRet []))))))
    sNil)
def F__law_run (ds : List D) : Option D := outF (B__law_run (envOf ["hall", "comings"] ds))
def B__law_own : So := (sSeq (sSet 3 (mCallIO [some 0, none, none] F__law_comings (mIo 0 (mCons (mMap (fun d => some (AR.fz d)) (mVar 1)) (mCons (mMap (fun d => some (AR.fz d)) (mVar 2)) (mRet []))))))
    (sSeq (sRet (mMap gTup (mCons (mBin gIx (mMap (lenIs 2 F__law_run) (mCons (mVar 1) (mCons (mVar 3) (mRet [])))) (mRet (.int 0))) (mCons (mVar 3) (mRet [])))))
    sNil))
def F__law_own (ds : List D) : Option (D × List D) := outIO [some 0, none, none] (B__law_own (envIO ["bag", "hall", "ticks1", "comings"] [some 0, none, none] ds))
def B__law_moved : So := (sSeq (sIf (mNot (mMap gTru (mVar 3))) (sSeq (sRet (mMap gTup (mCons (mMap gTup (mCons (mBin gAdd (mBin gIx (mVar 0) (mRet (.int 0))) (mMap gTup (mCons (mVar 2) (mRet [])))) (mCons (mBin gIx (mVar 0) (mRet (.int 1))) (mRet [])))) (mCons (mVar 1) (mRet [])))))
    sNil) sNil)
    (sSeq (sSet 4 (mMap gTuple (mCons (mMap (fun ds => some (.list ds)) (mLc (mMap gSeq (mBin gIx (mVar 0) (mRet (.int 1)))) (gNm 6) (mRet true) (mMap gTuple (mCons (mMap (fun ds => some (.list ds)) (mLc (mMap gSeq (mVar 6)) (gNm 7) (mRet true) (mBin gAdd (mVar 7) (mRet (.int 1))) [7])) (mRet []))) [6])) (mRet []))))
    (sSeq (sSet 5 (mMap (fun ds => some (.list ds)) (mLc (mMap gSeq (mVar 1)) (gNm 8) (mRet true) (mMap gTuple (mCons (mMap (fun ds => some (.list ds)) (mLc (mMap gSeq (mVar 8)) (gNm 7) (mRet true) (mIf (mMap gB (mMap gIsN (mVar 7))) (mRet .none) (mBin gAdd (mVar 7) (mRet (.int 1)))) [7])) (mRet []))) [8])))
    (sSeq (sRet (mMap gTup (mCons (mMap gTup (mCons (mBin gAdd (mMap gTup (mCons (mVar 2) (mRet []))) (mBin gIx (mVar 0) (mRet (.int 0)))) (mCons (mVar 4) (mRet [])))) (mCons (mMap gTuple (mCons (mVar 5) (mRet []))) (mRet [])))))
    sNil))))
def F__law_moved (ds : List D) : Option D := outF (B__law_moved (envOf ["hall", "book", "by", "first", "desks", "rows", "desk", "one", "row"] ds))
def B_law : So := (sSeq (sForOwn 1 (mMap (lenIs 2 F__law_bags) (mCons (mVar 0) (mCons (mRet (.int 5)) (mRet [])))) (sSeq (sSet 2 (mCallIO [some 0, none, none, none, none, none] F__law_hall (mIo 1 (mCons (mMap (fun d => some (AR.fz d)) (mRet (.int 3))) (mCons (mMap (fun d => some (AR.fz d)) (mRet (.int 2))) (mCons (mMap (fun d => some (AR.fz d)) (mBin gIx (mMap gLst (mCons (mRet (.int 4)) (mCons (mRet (.int 2)) (mRet [])))) (mCallIO [some 0, none] F__law_take (mIo 1 (mCons (mMap (fun d => some (AR.fz d)) (mRet (.int 2))) (mRet [])))))) (mCons (mMap (fun d => some (AR.fz d)) (mBin gIx (mMap gLst (mCons (mRet (.int 8)) (mCons (mRet (.int 3)) (mRet [])))) (mCallIO [some 0, none] F__law_take (mIo 1 (mCons (mMap (fun d => some (AR.fz d)) (mRet (.int 2))) (mRet [])))))) (mCons (mMap (fun d => some (AR.fz d)) (mRet (.bool false))) (mRet [])))))))))
    (sSeq (sTup (mCallIO [some 0, none, none] F__law_own (mIo 1 (mCons (mMap (fun d => some (AR.fz d)) (mVar 2)) (mCons (mMap (fun d => some (AR.fz d)) (mBin gAdd (mRet (.int 1)) (mCallIO [some 0, none] F__law_take (mIo 1 (mCons (mMap (fun d => some (AR.fz d)) (mRet (.int 40))) (mRet [])))))) (mRet []))))) (gTu 2 (gsCons (gNm 3) (gsCons (gNm 4) gsNil))))
    (sSeq (sSet 5 (mMap (lenIs 3 F_how_many) (mCons (mVar 2) (mCons (mVar 3) (mCons (mMap gTup (mRet [])) (mRet []))))))
    (sSeq (sPars [6, 7] (mCons (mMap (fun d => some (none, d)) (mMap gTup (mCons (mBin gAdd (mRet (.int 1)) (mCallIO [some 0, none] F__law_take (mIo 1 (mCons (mMap (fun d => some (AR.fz d)) (mRet (.int 5))) (mRet []))))) (mCons (mBin gAdd (mRet (.int 1)) (mCallIO [some 0, none] F__law_take (mIo 1 (mCons (mMap (fun d => some (AR.fz d)) (mRet (.int 10))) (mRet []))))) (mRet []))))) (mCons (mMap (fun d => some (none, d)) (mBin gEq (mCallIO [some 0, none] F__law_take (mIo 1 (mCons (mMap (fun d => some (AR.fz d)) (mRet (.int 2))) (mRet [])))) (mRet (.int 0)))) (mRet []))))
    (sSeq (sTup (mMap (lenIs 4 F__law_moved) (mCons (mVar 2) (mCons (mVar 3) (mCons (mVar 6) (mCons (mVar 7) (mRet [])))))) (gTu 2 (gsCons (gNm 8) (gsCons (gNm 9) gsNil))))
    (sSeq (sTup (mIf (mMap gTru (mVar 7)) (mMap gTup (mCons (mRet (.int 0)) (mCons (mRet (.int 1)) (mRet [])))) (mMap gTup (mCons (mMap gLen (mCons (mBin gIx (mVar 2) (mRet (.int 0))) (mRet []))) (mCons (mRet (.int 0)) (mRet []))))) (gTu 2 (gsCons (gNm 10) (gsCons (gNm 11) gsNil))))
    (sSeq (sSet 12 (mRet (.int 1)))
    (sSeq (sFor (mMap gRg1 (mCons (mMap gLen (mCons (mVar 3) (mRet []))) (mRet []))) (gNm 13) (sSeq (sSet 12 (mBin gMulB (mVar 12) (mBin gAdd (mBin gIx (mVar 6) (mRet (.int 0))) (mRet (.int 1)))))
    sNil))
    (sSeq (sIf (mOr (mMap gB (mBin gNe (mMap (lenIs 3 F_how_many) (mCons (mVar 8) (mCons (mVar 9) (mCons (mMap gTup (mRet [])) (mRet []))))) (mBin gMulB (mVar 5) (mVar 12)))) (mMap gB (mBin gNe (mMap (lenIs 4 F_how_many_of) (mCons (mVar 8) (mCons (mVar 9) (mCons (mMap gTup (mRet [])) (mCons (mVar 10) (mRet [])))))) (mVar 12)))) (sSeq (sRet (mRet (.bool false)))
    sNil) sNil)
    (sSeq (sIf (mMap gB (mBin gNe (mMap (lenIs 4 F_stairs) (mCons (mVar 8) (mCons (mVar 9) (mCons (mMap gTup (mRet [])) (mCons (mVar 10) (mRet [])))))) (mMap (fun ds => some (.list ds)) (mLc (mMap gRg1 (mCons (mMap gLen (mCons (mVar 3) (mRet []))) (mRet []))) (gNm 13) (mRet true) (mMap gTup (mCons (mRet (.int 0)) (mCons (mBin gMulB (mBin gIx (mVar 6) (mRet (.int 0))) (mBin gAdd (mVar 13) (mRet (.int 1)))) (mRet [])))) [13])))) (sSeq (sRet (mRet (.bool false)))
    sNil) sNil)
    (sSeq (sFor (mMap gRg1 (mCons (mMap gLen (mCons (mBin gIx (mVar 2) (mRet (.int 0))) (mRet []))) (mRet []))) (gNm 14) (sSeq (sIf (mMap gB (mBin gNe (mMap (lenIs 4 F_stairs) (mCons (mVar 8) (mCons (mVar 9) (mCons (mMap gTup (mRet [])) (mCons (mBin gAdd (mVar 14) (mVar 11)) (mRet [])))))) (mMap (lenIs 4 F_stairs) (mCons (mVar 2) (mCons (mVar 3) (mCons (mMap gTup (mRet [])) (mCons (mVar 14) (mRet [])))))))) (sSeq (sRet (mRet (.bool false)))
    sNil) sNil)
    sNil))
    (sSeq (sSet 15 (mMap gTup (mCons (mBin gIx (mVar 8) (mRet (.int 0))) (mCons (mBin gAdd (mBin gIx (mVar 8) (mRet (.int 1))) (mMap gTup (mCons (mMap gTup (mCons (mVar 10) (mRet []))) (mRet [])))) (mRet [])))))
    (sSeq (sSet 16 (mMap gTuple (mCons (mMap (fun ds => some (.list ds)) (mLc (mMap gSeq (mVar 9)) (gNm 17) (mRet true) (mBin gAdd (mVar 17) (mMap gTup (mCons (mRet .none) (mRet [])))) [17])) (mRet []))))
    (sSeq (sIf (mOr (mMap gB (mBin gNe (mMap (lenIs 3 F_how_many) (mCons (mVar 15) (mCons (mVar 16) (mCons (mMap gTup (mRet [])) (mRet []))))) (mVar 5))) (mMap gB (mBin gNe (mMap (lenIs 4 F_stairs) (mCons (mVar 15) (mCons (mVar 16) (mCons (mMap gTup (mRet [])) (mCons (mVar 10) (mRet [])))))) (mBin gMulB (mMap gLst (mCons (mMap gTup (mCons (mRet (.int 0)) (mCons (mRet (.int 0)) (mRet [])))) (mRet []))) (mMap gLen (mCons (mVar 3) (mRet []))))))) (sSeq (sRet (mRet (.bool false)))
    sNil) sNil)
    sNil)))))))))))))))
    (sSeq (sRet (mRet (.bool true)))
    sNil))
def F_law (ds : List D) : Option D := outF (B_law (envOf ["script", "bag", "hall", "book", "own", "whole", "by", "first", "wide", "written", "mine", "shift1", "times1", "tick", "rank", "shut1", "rows", "row"] ds))
section
variable {P : Program} {w : World} {K : PySem.W.Frag} {mg : Str → Option Value} {base : Heap}
abbrev s_is_whole : Stmt := topS 8
theorem sc_is_whole : FnScope ["thing"] ["thing"] (defScope s_is_whole) := ⟨rfl, rfl, rfl, by decide +kernel, rfl, by decide +kernel, by decide +kernel⟩
theorem fn_is_whole (d : Df K mg "is_whole" s_is_whole ["thing"]) (Z : Blt2 mg) (Y : Imps mg) : Fd P w K mg base "is_whole" 1 1 F_is_whole := by
  have nd := sc_is_whole.nd
  exact Fd.of (B := B_is_whole) d sc_is_whole rfl fun f cdv A outer s H E hr => (denss_cons (dens_ret (den_and (den_isi isi_int (dv 0) rfl Z.isinstance_ rfl Z.int_ (by decide +kernel)) (den_one (den_not (den_isi isi_bool (dv 0) rfl Z.isinstance_ rfl Z.bool_ (by decide +kernel))))))
    denss_nil)
abbrev s_are_whole : Stmt := topS 9
theorem sc_are_whole : FnScope ["things", "thing"] ["things"] (defScope s_are_whole) := ⟨rfl, rfl, rfl, by decide +kernel, rfl, by decide +kernel, by decide +kernel⟩
theorem fn_are_whole (d : Df K mg "are_whole" s_are_whole ["things"]) (Z : Blt2 mg) (Y : Imps mg) (h_is_whole : Fd P w K mg base "is_whole" 1 1 F_is_whole) : Fd P w K mg base "are_whole" 2 1 F_are_whole := by
  have nd := sc_are_whole.nd
  exact Fd.of (B := B_are_whole) d sc_are_whole rfl fun f cdv A outer s H E hr => (denss_cons (dens_for PassesOwn.never rfl (deni_seq (dv 0)) (deng_name 1 nd rfl (by first | exact .inl rfl | exact .inr rfl)) (denss_cons (dens_if (dent_w (denw_and (dent_tyNotInt (dv 1) rfl Z.type_ rfl Z.int_) (denw_and1 (dent_not (dent_val (den_call h_is_whole (hr.mono (by decide)) rfl (dena_cons (dv 1) dena_nil))))))) (denss_cons (dens_ret den_bl)
    denss_nil) denss_nil)
    denss_nil))
    (denss_cons (dens_ret den_bl)
    denss_nil))
abbrev s_is_from_to : Stmt := topS 10
theorem sc_is_from_to : FnScope ["thing", "low", "high"] ["thing", "low", "high"] (defScope s_is_from_to) := ⟨rfl, rfl, rfl, by decide +kernel, rfl, by decide +kernel, by decide +kernel⟩
theorem fn_is_from_to (d : Df K mg "is_from_to" s_is_from_to ["thing", "low", "high"]) (Z : Blt2 mg) (Y : Imps mg) (h_is_whole : Fd P w K mg base "is_whole" 1 1 F_is_whole) : Fd P w K mg base "is_from_to" 2 3 F_is_from_to := by
  have nd := sc_is_from_to.nd
  exact Fd.of (B := B_is_from_to) d sc_is_from_to rfl fun f cdv A outer s H E hr => (denss_cons (dens_ret (den_and (den_call h_is_whole (hr.mono (by decide)) rfl (dena_cons (dv 0) dena_nil)) (den_one (dene_chain opD_le opD_le (dv 1) (dv 0) (dv 2)))))
    denss_nil)
abbrev s_is_tuple : Stmt := topS 11
theorem sc_is_tuple : FnScope ["thing", "least", "most"] ["thing", "least", "most"] (defScope s_is_tuple) := ⟨rfl, rfl, rfl, by decide +kernel, rfl, by decide +kernel, by decide +kernel⟩
theorem fn_is_tuple (d : Df K mg "is_tuple" s_is_tuple ["thing", "least", "most"]) (Z : Blt2 mg) (Y : Imps mg) : Fd P w K mg base "is_tuple" 1 3 F_is_tuple := by
  have nd := sc_is_tuple.nd
  exact Fd.of (B := B_is_tuple) d sc_is_tuple rfl fun f cdv A outer s H E hr => (denss_cons (dens_ret (den_and (den_isi isi_tuple (dv 0) rfl Z.isinstance_ rfl Z.tuple_ (by decide +kernel)) (den_one (dene_chain opD_le opD_le (dv 1) (den_callB callD_len rfl Z.len_ (by decide +kernel) (dena_cons (dv 0) dena_nil)) (dv 2)))))
    denss_nil)
abbrev s_are_rows : Stmt := topS 12
theorem sc_are_rows : FnScope ["thing", "most", "wide", "row"] ["thing", "most", "wide"] (defScope s_are_rows) := ⟨rfl, rfl, rfl, by decide +kernel, rfl, by decide +kernel, by decide +kernel⟩
theorem fn_are_rows (d : Df K mg "are_rows" s_are_rows ["thing", "most", "wide"]) (Z : Blt2 mg) (Y : Imps mg) (h_is_tuple : Fd P w K mg base "is_tuple" 1 3 F_is_tuple) : Fd P w K mg base "are_rows" 2 3 F_are_rows := by
  have nd := sc_are_rows.nd
  exact Fd.of (B := B_are_rows) d sc_are_rows rfl fun f cdv A outer s H E hr => (denss_cons (dens_if (dent_not (dent_val (den_call h_is_tuple (hr.mono (by decide)) rfl (dena_cons (dv 0) (dena_cons den_int (dena_cons (dv 1) dena_nil)))))) (denss_cons (dens_ret den_bl)
    denss_nil) denss_nil)
    (denss_cons (dens_ret (den_cmp (opD_eq hr.units) (den_frz (denn_lc (vs := [3]) [("row", 3)] rfl nd (deni_seq (dv 0)) (blkOk_by (by rfl)) (fun _ _ _ _ _ => (deng_name 3 nd rfl (by first | exact .inl rfl | exact .inr rfl))) (fun _ _ _ _ _ => (dents_one (dent_val (den_isi isi_tuple (dv 3) rfl Z.isinstance_ rfl Z.tuple_ (by decide +kernel))))) (fun _ _ _ _ _ => (den_callB callD_len rfl Z.len_ (by decide +kernel) (dena_cons (dv 3) dena_nil))))) (den_bin opD_mulB (den_lst (dena_cons (dv 2) dena_nil)) (den_callB callD_len rfl Z.len_ (by decide +kernel) (dena_cons (dv 0) dena_nil)))))
    denss_nil))
abbrev s_is_rising : Stmt := topS 13
theorem sc_is_rising : FnScope ["things", "one", "other"] ["things"] (defScope s_is_rising) := ⟨rfl, rfl, rfl, by decide +kernel, rfl, by decide +kernel, by decide +kernel⟩
theorem fn_is_rising (d : Df K mg "is_rising" s_is_rising ["things"]) (Z : Blt2 mg) (Y : Imps mg) : Fd P w K mg base "is_rising" 1 1 F_is_rising := by
  have nd := sc_is_rising.nd
  exact Fd.of (B := B_is_rising) d sc_is_rising rfl fun f cdv A outer s H E hr => (denss_cons (dens_for PassesOwn.never rfl (deni_zip2 rfl Z.zip_ (dena_cons (dv 0) (dena_cons (den_slice (dv 0) (deno_some den_int) deno_none) dena_nil))) (deng_tup (n := 2) rfl (dengs_cons (deng_name 1 nd rfl (by first | exact .inl rfl | exact .inr rfl)) (dengs_cons (deng_name 2 nd rfl (by first | exact .inl rfl | exact .inr rfl)) dengs_nil))) (denss_cons (dens_if (dent_not (dent_cmp (opD_lt hr.units0) (dv 1) (dv 2))) (denss_cons (dens_ret den_bl)
    denss_nil) denss_nil)
    denss_nil))
    (denss_cons (dens_ret den_bl)
    denss_nil))
abbrev s_is_column : Stmt := topS 17
theorem sc_is_column : FnScope ["stays", "desk", "column", "free", "tick", "one"] ["stays", "desk", "column"] (defScope s_is_column) := ⟨rfl, rfl, rfl, by decide +kernel, rfl, by decide +kernel, by decide +kernel⟩
theorem fn_is_column (d : Df K mg "is_column" s_is_column ["stays", "desk", "column"]) (Z : Blt2 mg) (Y : Imps mg) (h_is_whole : Fd P w K mg base "is_whole" 1 1 F_is_whole) : Fd P w K mg base "is_column" 2 3 F_is_column := by
  have nd := sc_is_column.nd
  exact Fd.of (B := B_is_column) d sc_is_column rfl fun f cdv A outer s H E hr => (denss_cons (dens_set 3 nd rfl (by first | exact .inl rfl | exact .inr rfl) den_int)
    (denss_cons (dens_for PassesOwn.never rfl (deni_enum rfl Z.enumerate_ (dena_cons (dv 2) dena_nil)) (deng_tup (n := 2) rfl (dengs_cons (deng_name 4 nd rfl (by first | exact .inl rfl | exact .inr rfl)) (dengs_cons (deng_name 5 nd rfl (by first | exact .inl rfl | exact .inr rfl)) dengs_nil))) (denss_cons (dens_if (dent_notN (dv 5)) (denss_cons (dens_if (dent_w (denw_or (dent_cmp (opD_lt hr.units0) (dv 4) (dv 3)) (denw_or (dent_cmp opD_notIn (dv 5) (dv 1)) (denw_or1 (dent_w (denw_and (dent_tyNotInt (dv 5) rfl Z.type_ rfl Z.int_) (denw_and1 (dent_not (dent_val (den_call h_is_whole (hr.mono (by decide)) rfl (dena_cons (dv 5) dena_nil))))))))))) (denss_cons (dens_ret den_bl)
    denss_nil) denss_nil)
    (denss_cons (dens_set 3 nd rfl (by first | exact .inl rfl | exact .inr rfl) (den_bin opD_add (dv 4) (den_ix (dv 0) (dv 5))))
    denss_nil)) denss_nil)
    denss_nil))
    (denss_cons (dens_ret den_bl)
    denss_nil)))
abbrev s_turns_of : Stmt := topS 18
theorem sc_turns_of : FnScope ["stays", "column", "turns", "free", "tick", "one"] ["stays", "column"] (defScope s_turns_of) := ⟨rfl, rfl, rfl, by decide +kernel, rfl, by decide +kernel, by decide +kernel⟩
theorem fn_turns_of (d : Df K mg "turns_of" s_turns_of ["stays", "column"]) (Z : Blt2 mg) (Y : Imps mg) (g_BUSY : ∃ t, mg "BUSY" = some (.int (-1) t)) (g_NOBODY : ∃ t, mg "NOBODY" = some (.int (4) t)) : Fd P w K mg base "turns_of" 1 2 F_turns_of := by
  have nd := sc_turns_of.nd
  exact Fd.of (B := B_turns_of) d sc_turns_of rfl fun f cdv A outer s H E hr => (denss_cons (dens_setN 2 0 nd rfl (by first | exact .inl rfl | exact .inr rfl) (denn_lst dena_nil))
    (denss_cons (dens_set 3 nd rfl (by first | exact .inl rfl | exact .inr rfl) den_int)
    (denss_cons (dens_for PassesOwn.never rfl (deni_enum rfl Z.enumerate_ (dena_cons (dv 1) dena_nil)) (deng_tup (n := 2) rfl (dengs_cons (deng_name 4 nd rfl (by first | exact .inl rfl | exact .inr rfl)) (dengs_cons (deng_name 5 nd rfl (by first | exact .inl rfl | exact .inr rfl)) dengs_nil))) (denss_cons (dens_if (dent_notN (dv 5)) (denss_cons (dens_app 2 rfl (by first | exact .inl rfl | exact .inr (.inl rfl) | exact .inr (.inr rfl)) (dv 5))
    (denss_cons (dens_set 3 nd rfl (by first | exact .inl rfl | exact .inr rfl) (den_bin opD_add (dv 4) (den_ix (dv 0) (dv 5))))
    denss_nil)) (denss_cons (dens_app 2 rfl (by first | exact .inl rfl | exact .inr (.inl rfl) | exact .inr (.inr rfl)) (den_if (dent_cmp (opD_lt hr.units0) (dv 4) (dv 3)) (den_glb g_BUSY rfl) (den_glb g_NOBODY rfl)))
    denss_nil))
    denss_nil))
    (denss_frz 2 (denss_cons (dens_ret (dv 2))
    denss_nil)))))
abbrev s_all_stays : Stmt := topS 20
theorem sc_all_stays : FnScope ["hall", "_", "stay"] ["hall"] (defScope s_all_stays) := ⟨rfl, rfl, rfl, by decide +kernel, rfl, by decide +kernel, by decide +kernel⟩
theorem fn_all_stays (d : Df K mg "all_stays" s_all_stays ["hall"]) (Z : Blt2 mg) (Y : Imps mg) : Fd P w K mg base "all_stays" 1 1 F_all_stays := by
  have nd := sc_all_stays.nd
  exact Fd.of (B := B_all_stays) d sc_all_stays rfl fun f cdv A outer s H E hr => (denss_cons (dens_ret (den_frz (denn_lc (vs := [1, 2]) [("_", 1), ("stay", 2)] rfl nd (deni_seq (den_ix (dv 0) den_int)) (blkOk_by (by rfl)) (fun _ _ _ _ _ => (deng_tup (n := 2) rfl (dengs_cons (deng_name 1 nd rfl (by first | exact .inl rfl | exact .inr rfl)) (dengs_cons (deng_name 2 nd rfl (by first | exact .inl rfl | exact .inr rfl)) dengs_nil)))) (fun _ _ _ _ _ => dents_nil) (fun _ _ _ _ _ => (dv 2)))))
    denss_nil)
abbrev s_all_turns : Stmt := topS 19
theorem sc_all_turns : FnScope ["hall", "columns", "stays", "column"] ["hall", "columns"] (defScope s_all_turns) := ⟨rfl, rfl, rfl, by decide +kernel, rfl, by decide +kernel, by decide +kernel⟩
theorem fn_all_turns (d : Df K mg "all_turns" s_all_turns ["hall", "columns"]) (Z : Blt2 mg) (Y : Imps mg) (h_all_stays : Fd P w K mg base "all_stays" 1 1 F_all_stays) (h_turns_of : Fd P w K mg base "turns_of" 1 2 F_turns_of) : Fd P w K mg base "all_turns" 2 2 F_all_turns := by
  have nd := sc_all_turns.nd
  exact Fd.of (B := B_all_turns) d sc_all_turns rfl fun f cdv A outer s H E hr => (denss_cons (dens_set 2 nd rfl (by first | exact .inl rfl | exact .inr rfl) (den_call h_all_stays (hr.mono (by decide)) rfl (dena_cons (dv 0) dena_nil)))
    (denss_cons (dens_ret (den_frz (denn_lc (vs := [3]) [("column", 3)] rfl nd (deni_seq (dv 1)) (blkOk_by (by rfl)) (fun _ _ _ _ _ => (deng_name 3 nd rfl (by first | exact .inl rfl | exact .inr rfl))) (fun _ _ _ _ _ => dents_nil) (fun _ _ _ _ _ => (den_call h_turns_of (hr.mono (by decide)) rfl (dena_cons (dv 2) (dena_cons (dv 3) dena_nil)))))))
    denss_nil))
abbrev s__are_desks : Stmt := topS 37
theorem sc__are_desks : FnScope ["thing", "ranks", "desk", "low", "rank"] ["thing", "ranks"] (defScope s__are_desks) := ⟨rfl, rfl, rfl, by decide +kernel, rfl, by decide +kernel, by decide +kernel⟩
theorem fn__are_desks (d : Df K mg "_are_desks" s__are_desks ["thing", "ranks"]) (Z : Blt2 mg) (Y : Imps mg) (h_is_tuple : Fd P w K mg base "is_tuple" 1 3 F_is_tuple) (h_is_whole : Fd P w K mg base "is_whole" 1 1 F_is_whole) (g_DESKS_AT_MOST : ∃ t, mg "DESKS_AT_MOST" = some (.int (3) t)) : Fd P w K mg base "_are_desks" 2 2 F__are_desks := by
  have nd := sc__are_desks.nd
  exact Fd.of (B := B__are_desks) d sc__are_desks rfl fun f cdv A outer s H E hr => (denss_cons (dens_if (dent_not (dent_val (den_call h_is_tuple (hr.mono (by decide)) rfl (dena_cons (dv 0) (dena_cons den_int (dena_cons (den_glb g_DESKS_AT_MOST rfl) dena_nil)))))) (denss_cons (dens_ret den_bl)
    denss_nil) denss_nil)
    (denss_cons (dens_for PassesOwn.never rfl (deni_seq (dv 0)) (deng_name 2 nd rfl (by first | exact .inl rfl | exact .inr rfl)) (denss_cons (dens_if (dent_w (denw_or (dent_not (dent_val (den_isi isi_tuple (dv 2) rfl Z.isinstance_ rfl Z.tuple_ (by decide +kernel)))) (denw_or1 (dent_not (dent_val (dv 2)))))) (denss_cons (dens_ret den_bl)
    denss_nil) denss_nil)
    (denss_cons (dens_set 3 nd rfl (by first | exact .inl rfl | exact .inr rfl) den_int)
    (denss_cons (dens_for PassesOwn.never rfl (deni_seq (dv 2)) (deng_name 4 nd rfl (by first | exact .inl rfl | exact .inr rfl)) (denss_cons (dens_if (dent_w (denw_or (dent_w (denw_and (dent_tyNotInt (dv 4) rfl Z.type_ rfl Z.int_) (denw_and1 (dent_not (dent_val (den_call h_is_whole (hr.mono (by decide)) rfl (dena_cons (dv 4) dena_nil))))))) (denw_or1 (dent_not (dent_chain opD_le (opD_lt hr.units0) (dv 3) (dv 4) (dv 1)))))) (denss_cons (dens_ret den_bl)
    denss_nil) denss_nil)
    (denss_cons (dens_set 3 nd rfl (by first | exact .inl rfl | exact .inr rfl) (den_bin opD_add (dv 4) den_int))
    denss_nil)))
    denss_nil))))
    (denss_cons (dens_ret den_bl)
    denss_nil)))
abbrev s__are_ranks : Stmt := topS 36
theorem sc__are_ranks : FnScope ["thing", "pair", "most", "stay"] ["thing"] (defScope s__are_ranks) := ⟨rfl, rfl, rfl, by decide +kernel, rfl, by decide +kernel, by decide +kernel⟩
theorem fn__are_ranks (d : Df K mg "_are_ranks" s__are_ranks ["thing"]) (Z : Blt2 mg) (Y : Imps mg) (h_is_tuple : Fd P w K mg base "is_tuple" 1 3 F_is_tuple) (h_are_whole : Fd P w K mg base "are_whole" 2 1 F_are_whole) (g_RANKS_AT_MOST : ∃ t, mg "RANKS_AT_MOST" = some (.int (4) t)) (g_STAY_AT_MOST : ∃ t, mg "STAY_AT_MOST" = some (.int (10) t)) (g_COME_AT_MOST : ∃ t, mg "COME_AT_MOST" = some (.int (5) t)) : Fd P w K mg base "_are_ranks" 3 1 F__are_ranks := by
  have nd := sc__are_ranks.nd
  exact Fd.of (B := B__are_ranks) d sc__are_ranks rfl fun f cdv A outer s H E hr => (denss_cons (dens_if (dent_not (dent_val (den_call h_is_tuple (hr.mono (by decide)) rfl (dena_cons (dv 0) (dena_cons den_int (dena_cons (den_glb g_RANKS_AT_MOST rfl) dena_nil)))))) (denss_cons (dens_ret den_bl)
    denss_nil) denss_nil)
    (denss_cons (dens_for PassesOwn.never rfl (deni_seq (dv 0)) (deng_name 1 nd rfl (by first | exact .inl rfl | exact .inr rfl)) (denss_cons (dens_if (dent_w (denw_or (dent_not (dent_val (den_isi isi_tuple (dv 1) rfl Z.isinstance_ rfl Z.tuple_ (by decide +kernel)))) (denw_or (dent_cmp (opD_ne hr.units) (den_callB callD_len rfl Z.len_ (by decide +kernel) (dena_cons (dv 1) dena_nil)) den_int) (denw_or1 (dent_not (dent_val (den_call h_are_whole (hr.mono (by decide)) rfl (dena_cons (dv 1) dena_nil)))))))) (denss_cons (dens_ret den_bl)
    denss_nil) denss_nil)
    (denss_cons (dens_asg (dv 1) (deng_tup (n := 2) rfl (dengs_cons (deng_name 2 nd rfl (by first | exact .inl rfl | exact .inr rfl)) (dengs_cons (deng_name 3 nd rfl (by first | exact .inl rfl | exact .inr rfl)) dengs_nil))))
    (denss_cons (dens_if (dent_w (denw_or (dent_not (dent_chain opD_le opD_le den_int (dv 2) (den_glb g_COME_AT_MOST rfl))) (denw_or1 (dent_not (dent_chain opD_le opD_le den_int (dv 3) (den_glb g_STAY_AT_MOST rfl)))))) (denss_cons (dens_ret den_bl)
    denss_nil) denss_nil)
    denss_nil))))
    (denss_cons (dens_ret den_bl)
    denss_nil)))
abbrev s_is_hall : Stmt := topS 29
theorem sc_is_hall : FnScope ["thing", "ranks", "desks"] ["thing"] (defScope s_is_hall) := ⟨rfl, rfl, rfl, by decide +kernel, rfl, by decide +kernel, by decide +kernel⟩
theorem fn_is_hall (d : Df K mg "is_hall" s_is_hall ["thing"]) (Z : Blt2 mg) (Y : Imps mg) (h_is_tuple : Fd P w K mg base "is_tuple" 1 3 F_is_tuple) (h__are_desks : Fd P w K mg base "_are_desks" 2 2 F__are_desks) (h__are_ranks : Fd P w K mg base "_are_ranks" 3 1 F__are_ranks) : Fd P w K mg base "is_hall" 4 1 F_is_hall := by
  have nd := sc_is_hall.nd
  exact Fd.of (B := B_is_hall) d sc_is_hall rfl fun f cdv A outer s H E hr => (denss_cons (dens_if (dent_not (dent_val (den_call h_is_tuple (hr.mono (by decide)) rfl (dena_cons (dv 0) (dena_cons den_int (dena_cons den_int dena_nil)))))) (denss_cons (dens_ret den_bl)
    denss_nil) denss_nil)
    (denss_cons (dens_asg (dv 0) (deng_tup (n := 2) rfl (dengs_cons (deng_name 1 nd rfl (by first | exact .inl rfl | exact .inr rfl)) (dengs_cons (deng_name 2 nd rfl (by first | exact .inl rfl | exact .inr rfl)) dengs_nil))))
    (denss_cons (dens_ret (den_and (den_call h__are_ranks (hr.mono (by decide)) rfl (dena_cons (dv 1) dena_nil)) (den_one (den_call h__are_desks (hr.mono (by decide)) rfl (dena_cons (dv 2) (dena_cons (den_callB callD_len rfl Z.len_ (by decide +kernel) (dena_cons (dv 1) dena_nil)) dena_nil))))))
    denss_nil)))
abbrev s_columns_of : Stmt := topS 30
theorem sc_columns_of : FnScope ["hall", "thing", "desks", "stays", "columns", "column", "desk"] ["hall", "thing"] (defScope s_columns_of) := ⟨rfl, rfl, rfl, by decide +kernel, rfl, by decide +kernel, by decide +kernel⟩
theorem fn_columns_of (d : Df K mg "columns_of" s_columns_of ["hall", "thing"]) (Z : Blt2 mg) (Y : Imps mg) (h_are_rows : Fd P w K mg base "are_rows" 2 3 F_are_rows) (h_all_stays : Fd P w K mg base "all_stays" 1 1 F_all_stays) (h_is_column : Fd P w K mg base "is_column" 2 3 F_is_column) (g_TICKS_AT_MOST : ∃ t, mg "TICKS_AT_MOST" = some (.int (40) t)) : Fd P w K mg base "columns_of" 3 2 F_columns_of := by
  have nd := sc_columns_of.nd
  exact Fd.of (B := B_columns_of) d sc_columns_of rfl fun f cdv A outer s H E hr => (denss_cons (dens_set 2 nd rfl (by first | exact .inl rfl | exact .inr rfl) (den_ix (dv 0) den_int))
    (denss_cons (dens_if (dent_not (dent_val (den_call h_are_rows (hr.mono (by decide)) rfl (dena_cons (dv 1) (dena_cons (den_glb g_TICKS_AT_MOST rfl) (dena_cons (den_callB callD_len rfl Z.len_ (by decide +kernel) (dena_cons (dv 2) dena_nil)) dena_nil)))))) (denss_cons (dens_ret den_non)
    denss_nil) denss_nil)
    (denss_cons (dens_set 3 nd rfl (by first | exact .inl rfl | exact .inr rfl) (den_call h_all_stays (hr.mono (by decide)) rfl (dena_cons (dv 0) dena_nil)))
    (denss_cons (dens_set 4 nd rfl (by first | exact .inl rfl | exact .inr rfl) (den_listZipS (dv 1) rfl rfl Z.list_ rfl Z.zip_))
    (denss_cons (dens_for PassesOwn.never rfl (deni_zip2 rfl Z.zip_ (dena_cons (dv 4) (dena_cons (dv 2) dena_nil))) (deng_tup (n := 2) rfl (dengs_cons (deng_name 5 nd rfl (by first | exact .inl rfl | exact .inr rfl)) (dengs_cons (deng_name 6 nd rfl (by first | exact .inl rfl | exact .inr rfl)) dengs_nil))) (denss_cons (dens_if (dent_not (dent_val (den_call h_is_column (hr.mono (by decide)) rfl (dena_cons (dv 3) (dena_cons (dv 6) (dena_cons (dv 5) dena_nil)))))) (denss_cons (dens_ret den_non)
    denss_nil) denss_nil)
    denss_nil))
    (denss_cons (dens_ret (dv 4))
    denss_nil))))))
abbrev s_need_hall : Stmt := topS 31
theorem sc_need_hall : FnScope ["thing"] ["thing"] (defScope s_need_hall) := ⟨rfl, rfl, rfl, by decide +kernel, rfl, by decide +kernel, by decide +kernel⟩
theorem fn_need_hall (d : Df K mg "need_hall" s_need_hall ["thing"]) (Z : Blt2 mg) (Y : Imps mg) (h_is_hall : Fd P w K mg base "is_hall" 4 1 F_is_hall) : Fd P w K mg base "need_hall" 5 1 F_need_hall := by
  have nd := sc_need_hall.nd
  exact Fd.of (B := B_need_hall) d sc_need_hall rfl fun f cdv A outer s H E hr => (denss_cons (dens_if (dent_not (dent_val (den_call h_is_hall (hr.mono (by decide)) rfl (dena_cons (dv 0) dena_nil)))) (denss_cons dens_never
    denss_nil) denss_nil)
    denss_nil)
abbrev s_need_book : Stmt := topS 32
theorem sc_need_book : FnScope ["hall", "thing", "columns"] ["hall", "thing"] (defScope s_need_book) := ⟨rfl, rfl, rfl, by decide +kernel, rfl, by decide +kernel, by decide +kernel⟩
theorem fn_need_book (d : Df K mg "need_book" s_need_book ["hall", "thing"]) (Z : Blt2 mg) (Y : Imps mg) (h_columns_of : Fd P w K mg base "columns_of" 3 2 F_columns_of) : Fd P w K mg base "need_book" 4 2 F_need_book := by
  have nd := sc_need_book.nd
  exact Fd.of (B := B_need_book) d sc_need_book rfl fun f cdv A outer s H E hr => (denss_cons (dens_set 2 nd rfl (by first | exact .inl rfl | exact .inr rfl) (den_call h_columns_of (hr.mono (by decide)) rfl (dena_cons (dv 0) (dena_cons (dv 1) dena_nil))))
    (denss_cons (dens_if (dent_isN (dv 2)) (denss_cons dens_never
    denss_nil) denss_nil)
    (denss_cons (dens_ret (dv 2))
    denss_nil)))
abbrev s__are_looks_of : Stmt := topS 38
theorem sc__are_looks_of : FnScope ["hall", "book", "thing", "look"] ["hall", "book", "thing"] (defScope s__are_looks_of) := ⟨rfl, rfl, rfl, by decide +kernel, rfl, by decide +kernel, by decide +kernel⟩
theorem fn__are_looks_of (d : Df K mg "_are_looks_of" s__are_looks_of ["hall", "book", "thing"]) (Z : Blt2 mg) (Y : Imps mg) (h_is_tuple : Fd P w K mg base "is_tuple" 1 3 F_is_tuple) (h_is_rising : Fd P w K mg base "is_rising" 1 1 F_is_rising) (g_LOOKS_AT_MOST : ∃ t, mg "LOOKS_AT_MOST" = some (.int (6) t)) : Fd P w K mg base "_are_looks_of" 2 3 F__are_looks_of := by
  have nd := sc__are_looks_of.nd
  exact Fd.of (B := B__are_looks_of) d sc__are_looks_of rfl fun f cdv A outer s H E hr => (denss_cons (dens_if (dent_not (dent_val (den_call h_is_tuple (hr.mono (by decide)) rfl (dena_cons (dv 2) (dena_cons den_int (dena_cons (den_glb g_LOOKS_AT_MOST rfl) dena_nil)))))) (denss_cons (dens_ret den_bl)
    denss_nil) denss_nil)
    (denss_cons (dens_for PassesOwn.never rfl (deni_seq (dv 2)) (deng_name 3 nd rfl (by first | exact .inl rfl | exact .inr rfl)) denss_never)
    (denss_cons (dens_ret (den_call h_is_rising (hr.mono (by decide)) rfl (dena_cons (dv 2) dena_nil)))
    denss_nil)))
abbrev s_need_looks : Stmt := topS 33
theorem sc_need_looks : FnScope ["hall", "book", "thing"] ["hall", "book", "thing"] (defScope s_need_looks) := ⟨rfl, rfl, rfl, by decide +kernel, rfl, by decide +kernel, by decide +kernel⟩
theorem fn_need_looks (d : Df K mg "need_looks" s_need_looks ["hall", "book", "thing"]) (Z : Blt2 mg) (Y : Imps mg) (h__are_looks_of : Fd P w K mg base "_are_looks_of" 2 3 F__are_looks_of) : Fd P w K mg base "need_looks" 3 3 F_need_looks := by
  have nd := sc_need_looks.nd
  exact Fd.of (B := B_need_looks) d sc_need_looks rfl fun f cdv A outer s H E hr => (denss_cons (dens_if (dent_not (dent_val (den_call h__are_looks_of (hr.mono (by decide)) rfl (dena_cons (dv 0) (dena_cons (dv 1) (dena_cons (dv 2) dena_nil)))))) (denss_cons dens_never
    denss_nil) denss_nil)
    denss_nil)
abbrev s_need_written : Stmt := topS 34
theorem sc_need_written : FnScope ["hall", "book", "looks", "columns"] ["hall", "book", "looks"] (defScope s_need_written) := ⟨rfl, rfl, rfl, by decide +kernel, rfl, by decide +kernel, by decide +kernel⟩
theorem fn_need_written (d : Df K mg "need_written" s_need_written ["hall", "book", "looks"]) (Z : Blt2 mg) (Y : Imps mg) (h_need_hall : Fd P w K mg base "need_hall" 5 1 F_need_hall) (h_need_book : Fd P w K mg base "need_book" 4 2 F_need_book) (h_need_looks : Fd P w K mg base "need_looks" 3 3 F_need_looks) : Fd P w K mg base "need_written" 6 3 F_need_written := by
  have nd := sc_need_written.nd
  exact Fd.of (B := B_need_written) d sc_need_written rfl fun f cdv A outer s H E hr => (denss_cons (dens_expr (den_call h_need_hall (hr.mono (by decide)) rfl (dena_cons (dv 0) dena_nil)))
    (denss_cons (dens_set 3 nd rfl (by first | exact .inl rfl | exact .inr rfl) (den_call h_need_book (hr.mono (by decide)) rfl (dena_cons (dv 0) (dena_cons (dv 1) dena_nil))))
    (denss_cons (dens_expr (den_call h_need_looks (hr.mono (by decide)) rfl (dena_cons (dv 0) (dena_cons (dv 1) (dena_cons (dv 2) dena_nil)))))
    (denss_cons (dens_ret (dv 3))
    denss_nil))))
abbrev s_need_rank : Stmt := topS 35
theorem sc_need_rank : FnScope ["hall", "thing"] ["hall", "thing"] (defScope s_need_rank) := ⟨rfl, rfl, rfl, by decide +kernel, rfl, by decide +kernel, by decide +kernel⟩
theorem fn_need_rank (d : Df K mg "need_rank" s_need_rank ["hall", "thing"]) (Z : Blt2 mg) (Y : Imps mg) (h_is_from_to : Fd P w K mg base "is_from_to" 2 3 F_is_from_to) : Fd P w K mg base "need_rank" 3 2 F_need_rank := by
  have nd := sc_need_rank.nd
  exact Fd.of (B := B_need_rank) d sc_need_rank rfl fun f cdv A outer s H E hr => (denss_cons (dens_if (dent_not (dent_val (den_call h_is_from_to (hr.mono (by decide)) rfl (dena_cons (dv 1) (dena_cons den_int (dena_cons (den_bin opD_sub (den_callB callD_len rfl Z.len_ (by decide +kernel) (dena_cons (den_ix (dv 0) den_int) dena_nil)) den_int) dena_nil)))))) (denss_cons dens_never
    denss_nil) denss_nil)
    denss_nil)
abbrev s_told_of : Stmt := topS 41
theorem sc_told_of : FnScope ["hall", "turns", "rank", "behind", "gone", "over", "own", "rows", "least", "most", "row", "passed", "one", "column", "desk", "_"] ["hall", "turns", "rank", "behind", "gone"] (defScope s_told_of) := ⟨rfl, rfl, rfl, by decide +kernel, rfl, by decide +kernel, by decide +kernel⟩
theorem fn_told_of (d : Df K mg "told_of" s_told_of ["hall", "turns", "rank", "behind", "gone"]) (Z : Blt2 mg) (Y : Imps mg) (g_NOBODY : ∃ t, mg "NOBODY" = some (.int (4) t)) : Fd P w K mg base "told_of" 1 5 F_told_of := by
  have nd := sc_told_of.nd
  exact Fd.of (B := B_told_of) d sc_told_of rfl fun f cdv A outer s H E hr => (denss_cons (dens_setDc (vs := [12]) 5 [("one", 12)] rfl nd rfl rfl (swD_true rfl rfl rfl (by decide +kernel)) (deni_seq (den_tup (dena_cons (den_glb g_NOBODY rfl) (dena_star (dv 3) dena_nil)))) (blkOk_by (by rfl)) (fun _ _ _ _ _ => (deng_name 12 nd rfl (by first | exact .inl rfl | exact .inr rfl))) (fun _ _ _ _ _ => dents_nil) (fun _ _ _ _ _ => (dv 12)) (fun _ _ _ _ _ => den_bl))
    (denss_cons (dens_setLc (vs := [13, 14]) 6 [("column", 13), ("desk", 14)] rfl nd rfl rfl (sw_true rfl rfl rfl (by decide +kernel)) (deni_zip2 rfl Z.zip_ (dena_cons (dv 1) (dena_cons (den_ix (dv 0) den_int) dena_nil))) (blkOk_by (by rfl)) (fun _ _ _ _ _ => (deng_tup (n := 2) rfl (dengs_cons (deng_name 13 nd rfl (by first | exact .inl rfl | exact .inr rfl)) (dengs_cons (deng_name 14 nd rfl (by first | exact .inl rfl | exact .inr rfl)) dengs_nil)))) (fun _ _ _ _ _ => (dents_one (dent_cmp opD_in (dv 2) (dv 14)))) (fun _ _ _ _ _ => (dv 13)))
    (denss_cons (dens_set 7 nd rfl (by first | exact .inl rfl | exact .inr rfl) (den_if (dent_val (dv 6)) (den_listZipS (dv 6) rfl rfl Z.list_ rfl Z.zip_) (den_frz (denn_lc (vs := [15]) [("_", 15)] rfl nd (deni_seq (den_ix (dv 1) den_int)) (blkOk_by (by rfl)) (fun _ _ _ _ _ => (deng_name 15 nd rfl (by first | exact .inl rfl | exact .inr rfl))) (fun _ _ _ _ _ => dents_nil) (fun _ _ _ _ _ => (den_tup dena_nil))))))
    (denss_cons (dens_setN 8 0 nd rfl (by first | exact .inl rfl | exact .inr rfl) (denn_lst dena_nil))
    (denss_cons (dens_setN 9 0 nd rfl (by first | exact .inl rfl | exact .inr rfl) (denn_lst dena_nil))
    (denss_cons (dens_for PassesOwn.never rfl (deni_seq (dv 7)) (deng_name 10 nd rfl (by first | exact .inl rfl | exact .inr rfl)) (denss_cons (dens_set 11 nd rfl (by first | exact .inl rfl | exact .inr rfl) den_non)
    (denss_cons (dens_for PassesOwn.never rfl (deni_seq (dv 10)) (deng_name 12 nd rfl (by first | exact .inl rfl | exact .inr rfl)) (denss_cons (dens_if (dent_cmp (opD_eq hr.units) (dv 12) (dv 2)) (denss_cons (dens_aug 4 opD_iadd nd rfl (by first | exact .inl rfl | exact .inr rfl) den_int)
    denss_nil) (denss_cons (dens_if (dent_w (denw_and (dent_cmp (opD_inK hr.units0') (dv 12) (dv 5)) (denw_and1 (dent_isN (dv 11))))) (denss_cons (dens_set 11 nd rfl (by first | exact .inl rfl | exact .inr rfl) (dv 4))
    denss_nil) denss_nil)
    denss_nil))
    denss_nil))
    (denss_cons (dens_app 8 rfl (by first | exact .inl rfl | exact .inr (.inl rfl) | exact .inr (.inr rfl)) (dv 4))
    (denss_cons (dens_app 9 rfl (by first | exact .inl rfl | exact .inr (.inl rfl) | exact .inr (.inr rfl)) (dv 11))
    denss_nil)))))
    (denss_frz 9 (denss_frz 8 (denss_cons (dens_ret (den_tup (dena_cons (dv 8) (dena_cons (dv 9) dena_nil))))
    denss_nil)))))))))
abbrev s_told_with : Stmt := topS 42
theorem sc_told_with : FnScope ["told", "looks", "rank", "taken", "least", "most", "tick", "one", "few", "many"] ["told", "looks", "rank"] (defScope s_told_with) := ⟨rfl, rfl, rfl, by decide +kernel, rfl, by decide +kernel, by decide +kernel⟩
theorem fn_told_with (d : Df K mg "told_with" s_told_with ["told", "looks", "rank"]) (Z : Blt2 mg) (Y : Imps mg) : Fd P w K mg base "told_with" 1 3 F_told_with := by
  have nd := sc_told_with.nd
  exact Fd.of (B := B_told_with) d sc_told_with rfl fun f cdv A outer s H E hr => (denss_cons (dens_set 3 nd rfl (by first | exact .inl rfl | exact .inr rfl) (den_ix (dv 0) den_int))
    (denss_cons (dens_setN 4 0 nd rfl (by first | exact .inl rfl | exact .inr rfl) (denn_listc rfl Z.list_ (dena_cons (dv 3) dena_nil)))
    (denss_cons (dens_setN 5 0 nd rfl (by first | exact .inl rfl | exact .inr rfl) (denn_listc rfl Z.list_ (dena_cons (den_ix (dv 0) den_int) dena_nil)))
    (denss_cons (dens_for PassesOwn.never rfl (deni_seq (dv 1)) (deng_tup (n := 4) rfl (dengs_cons (deng_name 6 nd rfl (by first | exact .inl rfl | exact .inr rfl)) (dengs_cons (deng_name 7 nd rfl (by first | exact .inl rfl | exact .inr rfl)) (dengs_cons (deng_name 8 nd rfl (by first | exact .inl rfl | exact .inr rfl)) (dengs_cons (deng_name 9 nd rfl (by first | exact .inl rfl | exact .inr rfl)) dengs_nil))))) (denss_cons (dens_if (dent_cmp (opD_eq hr.units) (dv 7) (dv 2)) (denss_cons (dens_put 4 rfl (by first | exact .inl rfl | exact .inr (.inl rfl) | exact .inr (.inr rfl)) (den_lend (den_callB (callD_max2 rfl) rfl Z.max_ (by decide +kernel) (dena_cons (den_ix (dv 4) (dv 6)) (dena_cons (den_bin opD_add (den_ix (dv 3) (dv 6)) (dv 8)) dena_nil)))) (dv 6))
    (denss_cons (dens_put 5 rfl (by first | exact .inl rfl | exact .inr (.inl rfl) | exact .inr (.inr rfl)) (den_lend (den_if (dent_isN (den_ix (dv 5) (dv 6))) (den_bin opD_add (den_ix (dv 3) (dv 6)) (dv 9)) (den_callB (callD_min2 rfl) rfl Z.min_ (by decide +kernel) (dena_cons (den_ix (dv 5) (dv 6)) (dena_cons (den_bin opD_add (den_ix (dv 3) (dv 6)) (dv 9)) dena_nil))))) (dv 6))
    denss_nil)) denss_nil)
    denss_nil))
    (denss_frz 5 (denss_frz 4 (denss_cons (dens_ret (den_tup (dena_cons (dv 4) (dena_cons (dv 5) dena_nil))))
    denss_nil)))))))
abbrev s_ranks_behind : Stmt := topS 43
theorem sc_ranks_behind : FnScope ["hall", "rank"] ["hall", "rank"] (defScope s_ranks_behind) := ⟨rfl, rfl, rfl, by decide +kernel, rfl, by decide +kernel, by decide +kernel⟩
theorem fn_ranks_behind (d : Df K mg "ranks_behind" s_ranks_behind ["hall", "rank"]) (Z : Blt2 mg) (Y : Imps mg) : Fd P w K mg base "ranks_behind" 1 2 F_ranks_behind := by
  have nd := sc_ranks_behind.nd
  exact Fd.of (B := B_ranks_behind) d sc_ranks_behind rfl fun f cdv A outer s H E hr => (denss_cons (dens_ret (den_tupRange2 rfl Z.tuple_ rfl Z.range_ rfl (den_bin opD_add (dv 1) den_int) (den_callB callD_len rfl Z.len_ (by decide +kernel) (dena_cons (den_ix (dv 0) den_int) dena_nil))))
    denss_nil)
abbrev s_steps_up : Stmt := topS 45
theorem sc_steps_up : FnScope ["told", "most", "low", "high", "steps", "least", "limit"] ["told", "most", "low", "high"] (defScope s_steps_up) := ⟨rfl, rfl, rfl, by decide +kernel, rfl, by decide +kernel, by decide +kernel⟩
theorem fn_steps_up (d : Df K mg "steps_up" s_steps_up ["told", "most", "low", "high"]) (Z : Blt2 mg) (Y : Imps mg) : Fd P w K mg base "steps_up" 1 4 F_steps_up := by
  have nd := sc_steps_up.nd
  exact Fd.of (B := B_steps_up) d sc_steps_up rfl fun f cdv A outer s H E hr => (denss_cons (dens_setN 4 0 nd rfl (by first | exact .inl rfl | exact .inr rfl) (denn_lst dena_nil))
    (denss_cons (dens_for PassesOwn.never rfl (deni_zip2 rfl Z.zip_ (dena_cons (den_ix (dv 0) den_int) (dena_cons (den_ix (dv 0) den_int) dena_nil))) (deng_tup (n := 2) rfl (dengs_cons (deng_name 5 nd rfl (by first | exact .inl rfl | exact .inr rfl)) (dengs_cons (deng_name 6 nd rfl (by first | exact .inl rfl | exact .inr rfl)) dengs_nil))) (denss_cons (dens_aug 3 opD_iadd nd rfl (by first | exact .inl rfl | exact .inr rfl) (dv 1))
    (denss_cons (dens_if (dent_w (denw_and (dent_notN (dv 6)) (denw_and1 (dent_cmp (opD_lt hr.units0) (dv 6) (dv 3))))) (denss_cons (dens_set 3 nd rfl (by first | exact .inl rfl | exact .inr rfl) (dv 6))
    denss_nil) denss_nil)
    (denss_cons (dens_if (dent_cmp opD_gt (dv 5) (dv 2)) (denss_cons (dens_set 2 nd rfl (by first | exact .inl rfl | exact .inr rfl) (dv 5))
    denss_nil) denss_nil)
    (denss_cons (dens_app 4 rfl (by first | exact .inl rfl | exact .inr (.inl rfl) | exact .inr (.inr rfl)) (den_tup (dena_cons (dv 2) (dena_cons (dv 3) dena_nil))))
    (denss_cons (dens_if (dent_cmp opD_gt (dv 2) (dv 3)) (denss_cons dens_break
    denss_nil) denss_nil)
    denss_nil))))))
    (denss_frz 4 (denss_cons (dens_ret (dv 4))
    denss_nil))))
abbrev s_is_barred : Stmt := topS 46
theorem sc_is_barred : FnScope ["steps", "low", "high"] ["steps"] (defScope s_is_barred) := ⟨rfl, rfl, rfl, by decide +kernel, rfl, by decide +kernel, by decide +kernel⟩
theorem fn_is_barred (d : Df K mg "is_barred" s_is_barred ["steps"]) (Z : Blt2 mg) (Y : Imps mg) : Fd P w K mg base "is_barred" 1 1 F_is_barred := by
  have nd := sc_is_barred.nd
  exact Fd.of (B := B_is_barred) d sc_is_barred rfl fun f cdv A outer s H E hr => (denss_cons (dens_asg (den_ix (dv 0) (den_neg den_int)) (deng_tup (n := 2) rfl (dengs_cons (deng_name 1 nd rfl (by first | exact .inl rfl | exact .inr rfl)) (dengs_cons (deng_name 2 nd rfl (by first | exact .inl rfl | exact .inr rfl)) dengs_nil))))
    (denss_cons (dens_ret (den_cmp opD_gt (dv 1) (dv 2)))
    denss_nil))
abbrev s_steps_down : Stmt := topS 47
theorem sc_steps_down : FnScope ["steps", "most", "low", "high", "found", "low_up", "high_up"] ["steps", "most"] (defScope s_steps_down) := ⟨rfl, rfl, rfl, by decide +kernel, rfl, by decide +kernel, by decide +kernel⟩
theorem fn_steps_down (d : Df K mg "steps_down" s_steps_down ["steps", "most"]) (Z : Blt2 mg) (Y : Imps mg) : Fd P w K mg base "steps_down" 1 2 F_steps_down := by
  have nd := sc_steps_down.nd
  exact Fd.of (B := B_steps_down) d sc_steps_down rfl fun f cdv A outer s H E hr => (denss_cons (dens_asg (den_ix (dv 0) (den_neg den_int)) (deng_tup (n := 2) rfl (dengs_cons (deng_name 2 nd rfl (by first | exact .inl rfl | exact .inr rfl)) (dengs_cons (deng_name 3 nd rfl (by first | exact .inl rfl | exact .inr rfl)) dengs_nil))))
    (denss_cons (dens_setN 4 0 nd rfl (by first | exact .inl rfl | exact .inr rfl) (denn_lst dena_nil))
    (denss_cons (dens_for PassesOwn.never rfl (deni_rev rfl Z.reversed_ (dena_cons (dv 0) dena_nil)) (deng_tup (n := 2) rfl (dengs_cons (deng_name 5 nd rfl (by first | exact .inl rfl | exact .inr rfl)) (dengs_cons (deng_name 6 nd rfl (by first | exact .inl rfl | exact .inr rfl)) dengs_nil))) (denss_cons (dens_set 2 nd rfl (by first | exact .inl rfl | exact .inr rfl) (den_if (dent_cmp opD_gt (dv 5) (den_bin opD_sub (dv 2) (dv 1))) (dv 5) (den_bin opD_sub (dv 2) (dv 1))))
    (denss_cons (dens_set 3 nd rfl (by first | exact .inl rfl | exact .inr rfl) (den_if (dent_cmp (opD_lt hr.units0) (dv 6) (dv 3)) (dv 6) (dv 3)))
    (denss_cons (dens_app 4 rfl (by first | exact .inl rfl | exact .inr (.inl rfl) | exact .inr (.inr rfl)) (den_tup (dena_cons (dv 2) (dena_cons (dv 3) dena_nil))))
    denss_nil))))
    (denss_frz 4 (denss_cons (dens_ret (den_revL (dv 4)))
    denss_nil)))))
abbrev s_rank_up : Stmt := topS 48
theorem sc_rank_up : FnScope ["hall", "turns", "looks", "rank", "told"] ["hall", "turns", "looks", "rank"] (defScope s_rank_up) := ⟨rfl, rfl, rfl, by decide +kernel, rfl, by decide +kernel, by decide +kernel⟩
theorem fn_rank_up (d : Df K mg "rank_up" s_rank_up ["hall", "turns", "looks", "rank"]) (Z : Blt2 mg) (Y : Imps mg) (h_told_of : Fd P w K mg base "told_of" 1 5 F_told_of) (h_ranks_behind : Fd P w K mg base "ranks_behind" 1 2 F_ranks_behind) (h_steps_up : Fd P w K mg base "steps_up" 1 4 F_steps_up) (h_told_with : Fd P w K mg base "told_with" 1 3 F_told_with) : Fd P w K mg base "rank_up" 2 4 F_rank_up := by
  have nd := sc_rank_up.nd
  exact Fd.of (B := B_rank_up) d sc_rank_up rfl fun f cdv A outer s H E hr => (denss_cons (dens_set 4 nd rfl (by first | exact .inl rfl | exact .inr rfl) (den_call h_told_of (hr.mono (by decide)) rfl (dena_cons (dv 0) (dena_cons (dv 1) (dena_cons (dv 3) (dena_cons (den_call h_ranks_behind (hr.mono (by decide)) rfl (dena_cons (dv 0) (dena_cons (dv 3) dena_nil))) (dena_cons den_int dena_nil)))))))
    (denss_cons (dens_ret (den_call h_steps_up (hr.mono (by decide)) rfl (dena_cons (den_if (dent_val (dv 2)) (den_call h_told_with (hr.mono (by decide)) rfl (dena_cons (dv 4) (dena_cons (dv 2) (dena_cons (dv 3) dena_nil)))) (dv 4)) (dena_cons (den_ix (den_ix (den_ix (dv 0) den_int) (dv 3)) den_int) (dena_cons den_int (dena_cons den_int dena_nil))))))
    denss_nil))
abbrev s_all_up : Stmt := topS 49
theorem sc_all_up : FnScope ["hall", "columns", "looks", "turns", "found", "rank", "steps"] ["hall", "columns", "looks"] (defScope s_all_up) := ⟨rfl, rfl, rfl, by decide +kernel, rfl, by decide +kernel, by decide +kernel⟩
theorem fn_all_up (d : Df K mg "all_up" s_all_up ["hall", "columns", "looks"]) (Z : Blt2 mg) (Y : Imps mg) (h_all_turns : Fd P w K mg base "all_turns" 2 2 F_all_turns) (h_rank_up : Fd P w K mg base "rank_up" 2 4 F_rank_up) (h_is_barred : Fd P w K mg base "is_barred" 1 1 F_is_barred) : Fd P w K mg base "all_up" 3 3 F_all_up := by
  have nd := sc_all_up.nd
  exact Fd.of (B := B_all_up) d sc_all_up rfl fun f cdv A outer s H E hr => (denss_cons (dens_set 3 nd rfl (by first | exact .inl rfl | exact .inr rfl) (den_call h_all_turns (hr.mono (by decide)) rfl (dena_cons (dv 0) (dena_cons (dv 1) dena_nil))))
    (denss_cons (dens_setN 4 0 nd rfl (by first | exact .inl rfl | exact .inr rfl) (denn_lst dena_nil))
    (denss_cons (dens_for PassesOwn.never rfl (deni_range1 rfl Z.range_ (dena_cons (den_callB callD_len rfl Z.len_ (by decide +kernel) (dena_cons (den_ix (dv 0) den_int) dena_nil)) dena_nil)) (deng_name 5 nd rfl (by first | exact .inl rfl | exact .inr rfl)) (denss_cons (dens_set 6 nd rfl (by first | exact .inl rfl | exact .inr rfl) (den_call h_rank_up (hr.mono (by decide)) rfl (dena_cons (dv 0) (dena_cons (dv 3) (dena_cons (dv 2) (dena_cons (dv 5) dena_nil))))))
    (denss_cons (dens_if (dent_val (den_call h_is_barred (hr.mono (by decide)) rfl (dena_cons (dv 6) dena_nil))) (denss_cons (dens_ret den_non)
    denss_nil) denss_nil)
    (denss_cons (dens_app 4 rfl (by first | exact .inl rfl | exact .inr (.inl rfl) | exact .inr (.inr rfl)) (dv 6))
    denss_nil))))
    (denss_frz 4 (denss_cons (dens_ret (dv 4))
    denss_nil)))))
abbrev s_all_steps : Stmt := topS 50
theorem sc_all_steps : FnScope ["hall", "columns", "looks", "every", "steps", "most", "_"] ["hall", "columns", "looks"] (defScope s_all_steps) := ⟨rfl, rfl, rfl, by decide +kernel, rfl, by decide +kernel, by decide +kernel⟩
theorem fn_all_steps (d : Df K mg "all_steps" s_all_steps ["hall", "columns", "looks"]) (Z : Blt2 mg) (Y : Imps mg) (h_all_up : Fd P w K mg base "all_up" 3 3 F_all_up) (h_steps_down : Fd P w K mg base "steps_down" 1 2 F_steps_down) : Fd P w K mg base "all_steps" 4 3 F_all_steps := by
  have nd := sc_all_steps.nd
  exact Fd.of (B := B_all_steps) d sc_all_steps rfl fun f cdv A outer s H E hr => (denss_cons (dens_set 3 nd rfl (by first | exact .inl rfl | exact .inr rfl) (den_call h_all_up (hr.mono (by decide)) rfl (dena_cons (dv 0) (dena_cons (dv 1) (dena_cons (dv 2) dena_nil)))))
    (denss_cons (dens_ret (den_if (dent_isN (dv 3)) den_non (den_frz (denn_lc (vs := [4, 5, 6]) [("steps", 4), ("most", 5), ("_", 6)] rfl nd (deni_zip2 rfl Z.zip_ (dena_cons (dv 3) (dena_cons (den_ix (dv 0) den_int) dena_nil))) (blkOk_by (by rfl)) (fun _ _ _ _ _ => (deng_tup (n := 2) rfl (dengs_cons (deng_name 4 nd rfl (by first | exact .inl rfl | exact .inr rfl)) (dengs_cons (deng_tup (n := 2) rfl (dengs_cons (deng_name 5 nd rfl (by first | exact .inl rfl | exact .inr rfl)) (dengs_cons (deng_name 6 nd rfl (by first | exact .inl rfl | exact .inr rfl)) dengs_nil))) dengs_nil)))) (fun _ _ _ _ _ => dents_nil) (fun _ _ _ _ _ => (den_call h_steps_down (hr.mono (by decide)) rfl (dena_cons (dv 4) (dena_cons (dv 5) dena_nil))))))))
    denss_nil))
abbrev s_steps_of : Stmt := topS 51
theorem sc_steps_of : FnScope ["hall", "columns", "looks", "rank", "every"] ["hall", "columns", "looks", "rank"] (defScope s_steps_of) := ⟨rfl, rfl, rfl, by decide +kernel, rfl, by decide +kernel, by decide +kernel⟩
theorem fn_steps_of (d : Df K mg "steps_of" s_steps_of ["hall", "columns", "looks", "rank"]) (Z : Blt2 mg) (Y : Imps mg) (h_all_up : Fd P w K mg base "all_up" 3 3 F_all_up) (h_steps_down : Fd P w K mg base "steps_down" 1 2 F_steps_down) : Fd P w K mg base "steps_of" 4 4 F_steps_of := by
  have nd := sc_steps_of.nd
  exact Fd.of (B := B_steps_of) d sc_steps_of rfl fun f cdv A outer s H E hr => (denss_cons (dens_set 4 nd rfl (by first | exact .inl rfl | exact .inr rfl) (den_call h_all_up (hr.mono (by decide)) rfl (dena_cons (dv 0) (dena_cons (dv 1) (dena_cons (dv 2) dena_nil)))))
    (denss_cons (dens_ret (den_if (dent_isN (dv 4)) den_non (den_call h_steps_down (hr.mono (by decide)) rfl (dena_cons (den_ix (dv 4) (dv 3)) (dena_cons (den_ix (den_ix (den_ix (dv 0) den_int) (dv 3)) den_int) dena_nil)))))
    denss_nil))
abbrev s_stairs : Stmt := topS 53
theorem sc_stairs : FnScope ["hall", "book", "looks", "rank", "columns"] ["hall", "book", "looks", "rank"] (defScope s_stairs) := ⟨rfl, rfl, rfl, by decide +kernel, rfl, by decide +kernel, by decide +kernel⟩
theorem fn_stairs (d : Df K mg "stairs" s_stairs ["hall", "book", "looks", "rank"]) (Z : Blt2 mg) (Y : Imps mg) (h_need_written : Fd P w K mg base "need_written" 6 3 F_need_written) (h_need_rank : Fd P w K mg base "need_rank" 3 2 F_need_rank) (h_steps_of : Fd P w K mg base "steps_of" 4 4 F_steps_of) : Fd P w K mg base "stairs" 7 4 F_stairs := by
  have nd := sc_stairs.nd
  exact Fd.of (B := B_stairs) d sc_stairs rfl fun f cdv A outer s H E hr => (denss_cons (dens_set 4 nd rfl (by first | exact .inl rfl | exact .inr rfl) (den_call h_need_written (hr.mono (by decide)) rfl (dena_cons (dv 0) (dena_cons (dv 1) (dena_cons (dv 2) dena_nil)))))
    (denss_cons (dens_expr (den_call h_need_rank (hr.mono (by decide)) rfl (dena_cons (dv 0) (dena_cons (dv 3) dena_nil))))
    (denss_cons (dens_ret (den_call h_steps_of (hr.mono (by decide)) rfl (dena_cons (dv 0) (dena_cons (dv 4) (dena_cons (dv 2) (dena_cons (dv 3) dena_nil))))))
    denss_nil)))
abbrev s_ways_within : Stmt := topS 58
theorem sc_ways_within : FnScope ["ways", "most", "start", "many", "by", "behind", "one", "other"] ["ways", "most", "start", "many"] (defScope s_ways_within) := ⟨rfl, rfl, rfl, by decide +kernel, rfl, by decide +kernel, by decide +kernel⟩
theorem fn_ways_within (d : Df K mg "ways_within" s_ways_within ["ways", "most", "start", "many"]) (Z : Blt2 mg) (Y : Imps mg) : Fd P w K mg base "ways_within" 1 4 F_ways_within := by
  have nd := sc_ways_within.nd
  exact Fd.of (B := B_ways_within) d sc_ways_within rfl fun f cdv A outer s H E hr => (denss_cons (dens_set 4 nd rfl (by first | exact .inl rfl | exact .inr rfl) (den_listAcc (dv 0) rfl rfl Z.list_ rfl Y.acc))
    (denss_cons (dens_set 4 nd rfl (by first | exact .inl rfl | exact .inr rfl) (den_bin opD_add (den_bin opD_add (den_bin opD_mulB (den_lst (dena_cons den_int dena_nil)) (den_bin opD_add (dv 1) den_int)) (dv 4)) (den_bin opD_mulB (den_lst (dena_cons (den_ix (dv 4) (den_neg den_int)) dena_nil)) (dv 1))))
    (denss_cons (dens_set 5 nd rfl (by first | exact .inl rfl | exact .inr rfl) (den_bin opD_add (den_bin opD_add (dv 2) (dv 1)) den_int))
    (denss_cons (dens_ret (den_frz (denn_lc (vs := [6, 7]) [("one", 6), ("other", 7)] rfl nd (deni_zip2 rfl Z.zip_ (dena_cons (den_slice (dv 4) (deno_some (dv 5)) (deno_some (den_bin opD_add (dv 5) (dv 3)))) (dena_cons (den_slice (dv 4) (deno_some (dv 2)) (deno_some (den_bin opD_add (dv 2) (dv 3)))) dena_nil))) (blkOk_by (by rfl)) (fun _ _ _ _ _ => (deng_tup (n := 2) rfl (dengs_cons (deng_name 6 nd rfl (by first | exact .inl rfl | exact .inr rfl)) (dengs_cons (deng_name 7 nd rfl (by first | exact .inl rfl | exact .inr rfl)) dengs_nil)))) (fun _ _ _ _ _ => dents_nil) (fun _ _ _ _ _ => (den_bin opD_sub (dv 6) (dv 7))))))
    denss_nil))))
abbrev s_ways_to : Stmt := topS 55
theorem sc_ways_to : FnScope ["steps", "most", "found", "ahead", "low_ahead", "low", "high"] ["steps", "most"] (defScope s_ways_to) := ⟨rfl, rfl, rfl, by decide +kernel, rfl, by decide +kernel, by decide +kernel⟩
theorem fn_ways_to (d : Df K mg "ways_to" s_ways_to ["steps", "most"]) (Z : Blt2 mg) (Y : Imps mg) (h_ways_within : Fd P w K mg base "ways_within" 1 4 F_ways_within) : Fd P w K mg base "ways_to" 2 2 F_ways_to := by
  have nd := sc_ways_to.nd
  exact Fd.of (B := B_ways_to) d sc_ways_to rfl fun f cdv A outer s H E hr => (denss_cons (dens_setN 2 0 nd rfl (by first | exact .inl rfl | exact .inr rfl) (denn_lst dena_nil))
    (denss_cons (dens_set 3 nd rfl (by first | exact .inl rfl | exact .inr rfl) (den_lst (dena_cons den_int dena_nil)))
    (denss_cons (dens_set 4 nd rfl (by first | exact .inl rfl | exact .inr rfl) den_int)
    (denss_cons (dens_for PassesOwn.never rfl (deni_seq (dv 0)) (deng_tup (n := 2) rfl (dengs_cons (deng_name 5 nd rfl (by first | exact .inl rfl | exact .inr rfl)) (dengs_cons (deng_name 6 nd rfl (by first | exact .inl rfl | exact .inr rfl)) dengs_nil))) (denss_cons (dens_set 3 nd rfl (by first | exact .inl rfl | exact .inr rfl) (den_call h_ways_within (hr.mono (by decide)) rfl (dena_cons (dv 3) (dena_cons (dv 1) (dena_cons (den_bin opD_sub (dv 5) (dv 4)) (dena_cons (den_bin opD_add (den_bin opD_sub (dv 6) (dv 5)) den_int) dena_nil))))))
    (denss_cons (dens_app 2 rfl (by first | exact .inl rfl | exact .inr (.inl rfl) | exact .inr (.inr rfl)) (dv 3))
    (denss_cons (dens_set 4 nd rfl (by first | exact .inl rfl | exact .inr rfl) (dv 5))
    denss_nil))))
    (denss_frz 2 (denss_cons (dens_ret (dv 2))
    denss_nil))))))
abbrev s_all_ways : Stmt := topS 56
theorem sc_all_ways : FnScope ["steps", "most"] ["steps", "most"] (defScope s_all_ways) := ⟨rfl, rfl, rfl, by decide +kernel, rfl, by decide +kernel, by decide +kernel⟩
theorem fn_all_ways (d : Df K mg "all_ways" s_all_ways ["steps", "most"]) (Z : Blt2 mg) (Y : Imps mg) (h_ways_to : Fd P w K mg base "ways_to" 2 2 F_ways_to) : Fd P w K mg base "all_ways" 3 2 F_all_ways := by
  have nd := sc_all_ways.nd
  exact Fd.of (B := B_all_ways) d sc_all_ways rfl fun f cdv A outer s H E hr => (denss_cons (dens_ret (den_callB (callD_sum rfl) rfl Z.sum_ (by decide +kernel) (dena_cons (den_ix (den_call h_ways_to (hr.mono (by decide)) rfl (dena_cons (dv 0) (dena_cons (dv 1) dena_nil))) (den_neg den_int)) dena_nil)))
    denss_nil)
abbrev s_all_comings : Stmt := topS 57
theorem sc_all_comings : FnScope ["hall", "every", "many", "steps", "most", "_"] ["hall", "every"] (defScope s_all_comings) := ⟨rfl, rfl, rfl, by decide +kernel, rfl, by decide +kernel, by decide +kernel⟩
theorem fn_all_comings (d : Df K mg "all_comings" s_all_comings ["hall", "every"]) (Z : Blt2 mg) (Y : Imps mg) (h_all_ways : Fd P w K mg base "all_ways" 3 2 F_all_ways) : Fd P w K mg base "all_comings" 4 2 F_all_comings := by
  have nd := sc_all_comings.nd
  exact Fd.of (B := B_all_comings) d sc_all_comings rfl fun f cdv A outer s H E hr => (denss_cons (dens_set 2 nd rfl (by first | exact .inl rfl | exact .inr rfl) den_int)
    (denss_cons (dens_for PassesOwn.never rfl (deni_zip2 rfl Z.zip_ (dena_cons (dv 1) (dena_cons (den_ix (dv 0) den_int) dena_nil))) (deng_tup (n := 2) rfl (dengs_cons (deng_name 3 nd rfl (by first | exact .inl rfl | exact .inr rfl)) (dengs_cons (deng_tup (n := 2) rfl (dengs_cons (deng_name 4 nd rfl (by first | exact .inl rfl | exact .inr rfl)) (dengs_cons (deng_name 5 nd rfl (by first | exact .inl rfl | exact .inr rfl)) dengs_nil))) dengs_nil))) (denss_cons (dens_set 2 nd rfl (by first | exact .inl rfl | exact .inr rfl) (den_bin opD_mulB (dv 2) (den_call h_all_ways (hr.mono (by decide)) rfl (dena_cons (dv 3) (dena_cons (dv 4) dena_nil)))))
    denss_nil))
    (denss_cons (dens_ret (dv 2))
    denss_nil)))
abbrev s_how_many : Stmt := topS 60
theorem sc_how_many : FnScope ["hall", "book", "looks", "columns", "every"] ["hall", "book", "looks"] (defScope s_how_many) := ⟨rfl, rfl, rfl, by decide +kernel, rfl, by decide +kernel, by decide +kernel⟩
theorem fn_how_many (d : Df K mg "how_many" s_how_many ["hall", "book", "looks"]) (Z : Blt2 mg) (Y : Imps mg) (h_need_written : Fd P w K mg base "need_written" 6 3 F_need_written) (h_all_steps : Fd P w K mg base "all_steps" 4 3 F_all_steps) (h_all_comings : Fd P w K mg base "all_comings" 4 2 F_all_comings) : Fd P w K mg base "how_many" 7 3 F_how_many := by
  have nd := sc_how_many.nd
  exact Fd.of (B := B_how_many) d sc_how_many rfl fun f cdv A outer s H E hr => (denss_cons (dens_set 3 nd rfl (by first | exact .inl rfl | exact .inr rfl) (den_call h_need_written (hr.mono (by decide)) rfl (dena_cons (dv 0) (dena_cons (dv 1) (dena_cons (dv 2) dena_nil)))))
    (denss_cons (dens_set 4 nd rfl (by first | exact .inl rfl | exact .inr rfl) (den_call h_all_steps (hr.mono (by decide)) rfl (dena_cons (dv 0) (dena_cons (dv 3) (dena_cons (dv 2) dena_nil)))))
    (denss_cons (dens_ret (den_if (dent_isN (dv 4)) den_int (den_call h_all_comings (hr.mono (by decide)) rfl (dena_cons (dv 0) (dena_cons (dv 4) dena_nil)))))
    denss_nil)))
abbrev s_how_many_of : Stmt := topS 61
theorem sc_how_many_of : FnScope ["hall", "book", "looks", "rank", "columns", "steps"] ["hall", "book", "looks", "rank"] (defScope s_how_many_of) := ⟨rfl, rfl, rfl, by decide +kernel, rfl, by decide +kernel, by decide +kernel⟩
theorem fn_how_many_of (d : Df K mg "how_many_of" s_how_many_of ["hall", "book", "looks", "rank"]) (Z : Blt2 mg) (Y : Imps mg) (h_need_written : Fd P w K mg base "need_written" 6 3 F_need_written) (h_need_rank : Fd P w K mg base "need_rank" 3 2 F_need_rank) (h_steps_of : Fd P w K mg base "steps_of" 4 4 F_steps_of) (h_all_ways : Fd P w K mg base "all_ways" 3 2 F_all_ways) : Fd P w K mg base "how_many_of" 7 4 F_how_many_of := by
  have nd := sc_how_many_of.nd
  exact Fd.of (B := B_how_many_of) d sc_how_many_of rfl fun f cdv A outer s H E hr => (denss_cons (dens_set 4 nd rfl (by first | exact .inl rfl | exact .inr rfl) (den_call h_need_written (hr.mono (by decide)) rfl (dena_cons (dv 0) (dena_cons (dv 1) (dena_cons (dv 2) dena_nil)))))
    (denss_cons (dens_expr (den_call h_need_rank (hr.mono (by decide)) rfl (dena_cons (dv 0) (dena_cons (dv 3) dena_nil))))
    (denss_cons (dens_set 5 nd rfl (by first | exact .inl rfl | exact .inr rfl) (den_call h_steps_of (hr.mono (by decide)) rfl (dena_cons (dv 0) (dena_cons (dv 4) (dena_cons (dv 2) (dena_cons (dv 3) dena_nil))))))
    (denss_cons (dens_ret (den_if (dent_isN (dv 5)) den_int (den_call h_all_ways (hr.mono (by decide)) rfl (dena_cons (dv 5) (dena_cons (den_ix (den_ix (den_ix (dv 0) den_int) (dv 3)) den_int) dena_nil)))))
    denss_nil))))
abbrev s__law_well : Stmt := topS 63
theorem sc__law_well : FnScope ["cell", "turn"] ["cell", "turn"] (defScope s__law_well) := ⟨rfl, rfl, rfl, by decide +kernel, rfl, by decide +kernel, by decide +kernel⟩
theorem fn__law_well (d : Df K mg "_law_well" s__law_well ["cell", "turn"]) (Z : Blt2 mg) (Y : Imps mg) : FdN P w K mg base "_law_well" 1 2 1 F__law_well := by
  have nd := sc__law_well.nd
  exact FdN.of (B := B__law_well) d sc__law_well rfl fun f cdv A outer s H E hr => (denssN_if (dent_cmp opD_ge (dv 0) (den_bin opD_pow den_int den_int)) (denssN_ret (denn_lst (dena_cons (den_bin opD_sub (dv 0) (den_bin opD_pow den_int den_int)) (dena_cons (den_bin opD_mod (dv 0) den_int) (dena_cons (dv 1) dena_nil))))) (denssN_ret (denn_lst (dena_cons den_int (dena_cons (den_bin opD_mod (dv 0) den_int) (dena_cons (dv 1) dena_nil))))))
abbrev s__law_take : Stmt := topS 64
theorem sc__law_take : FnScope ["bag", "many", "found", "p", "n"] ["bag", "many"] (defScope s__law_take) := ⟨rfl, rfl, rfl, by decide +kernel, rfl, by decide +kernel, by decide +kernel⟩
theorem fn__law_take (d : Df K mg "_law_take" s__law_take ["bag", "many"]) (Z : Blt2 mg) (Y : Imps mg) : FdIO P w K mg base "_law_take" 1 [some 0, none] F__law_take := by
  have nd := sc__law_take.nd
  exact FdIO.of (B := B__law_take) d sc__law_take rfl fun f cdv A outer s H E hr => (denss_cons (dens_if (dent_lend (dent_cmp opD_gt (den_ix (dv 0) den_int) den_int)) (denss_cons (dens_set 2 nd rfl (by first | exact .inl rfl | exact .inr rfl) (den_lend (den_bin opD_mod (den_ix (dv 0) den_int) (dv 1))))
    (denss_cons (dens_put 0 rfl (by first | exact .inl rfl | exact .inr (.inl rfl) | exact .inr (.inr rfl)) (den_lend (den_bin opD_div (den_ix (dv 0) den_int) (dv 1))) den_int)
    (denss_cons (dens_ret (dv 2))
    denss_nil))) denss_nil)
    (denss_cons (dens_put 0 rfl (by first | exact .inl rfl | exact .inr (.inl rfl) | exact .inr (.inr rfl)) (den_lend (den_bin opD_add (den_ix (dv 0) den_int) den_int)) den_int)
    (denss_cons (dens_set 3 nd rfl (by first | exact .inl rfl | exact .inr rfl) den_int)
    (denss_cons (dens_set 4 nd rfl (by first | exact .inl rfl | exact .inr rfl) (den_lend (den_bin opD_mod (den_bin opD_add (den_ix (dv 0) den_int) (den_bin opD_mulB den_int (den_ix (dv 0) den_int))) (dv 3))))
    (denss_cons (dens_set 4 nd rfl (by first | exact .inl rfl | exact .inr rfl) (den_lend (den_bin opD_mod (den_bin opD_add (den_bin opD_add (den_bin opD_mulB (dv 4) (dv 4)) (den_bin opD_mulB den_int (den_bin opD_pow (den_ix (dv 0) den_int) den_int))) den_int) (dv 3))))
    (denss_cons (dens_ret (den_bin opD_mod (den_bin opD_div (den_bin opD_mod (den_bin opD_pow (dv 4) den_int) (dv 3)) den_int) (dv 1)))
    denss_nil))))))
abbrev s__law_bags : Stmt := topS 65
theorem sc__law_bags : FnScope ["script", "most", "k", "cell"] ["script", "most"] (defScope s__law_bags) := ⟨rfl, rfl, rfl, by decide +kernel, rfl, by decide +kernel, by decide +kernel⟩
theorem fn__law_bags (d : Df K mg "_law_bags" s__law_bags ["script", "most"]) (Z : Blt2 mg) (Y : Imps mg) (h__law_well : FdN P w K mg base "_law_well" 1 2 1 F__law_well) : FdN P w K mg base "_law_bags" 2 2 2 F__law_bags := by
  have nd := sc__law_bags.nd
  exact FdN.of (B := B__law_bags) d sc__law_bags rfl fun f cdv A outer s H E hr => (denssN_ret (denn_lc2 (vs := [2, 3]) [("k", 2), ("cell", 3)] rfl nd (deni_enum rfl Z.enumerate_ (dena_cons (den_bin opD_add (den_slice (dv 0) deno_none (deno_some (dv 1))) (den_lst (dena_cons den_int dena_nil))) dena_nil)) (blkOk_by (by rfl)) (fun _ _ _ _ _ => (deng_tup (n := 2) rfl (dengs_cons (deng_name 2 nd rfl (by first | exact .inl rfl | exact .inr rfl)) (dengs_cons (deng_name 3 nd rfl (by first | exact .inl rfl | exact .inr rfl)) dengs_nil)))) (fun _ _ _ _ _ => dents_nil) (fun _ _ _ _ _ => (denn_call h__law_well (hr.mono (by decide)) rfl (dena_cons (dv 3) (dena_cons (den_bin opD_mulB den_int (dv 2)) dena_nil))))))
abbrev s__law_some : Stmt := topS 66
theorem sc__law_some : FnScope ["bag", "ranks1", "found", "rank"] ["bag", "ranks1"] (defScope s__law_some) := ⟨rfl, rfl, rfl, by decide +kernel, rfl, by decide +kernel, by decide +kernel⟩
theorem fn__law_some (d : Df K mg "_law_some" s__law_some ["bag", "ranks1"]) (Z : Blt2 mg) (Y : Imps mg) (h__law_take : FdIO P w K mg base "_law_take" 1 [some 0, none] F__law_take) : FdIO P w K mg base "_law_some" 2 [some 0, none] F__law_some := by
  have nd := sc__law_some.nd
  exact FdIO.of (B := B__law_some) d sc__law_some rfl fun f cdv A outer s H E hr => (denss_cons (dens_setLc (vs := [3]) 2 [("rank", 3)] rfl nd rfl rfl (sw_true rfl rfl rfl (by decide +kernel)) (deni_range1 rfl Z.range_ (dena_cons (dv 1) dena_nil)) (blkOk_by (by rfl)) (fun _ _ _ _ _ => (deng_name 3 nd rfl (by first | exact .inl rfl | exact .inr rfl))) (fun _ _ _ _ _ => (dents_one (dent_cmp opD_gt (den_callIO h__law_take (hr.mono (by decide)) rfl (denr_io 0 rfl (by first | exact .inl rfl | exact .inr (.inl rfl) | exact .inr (.inr rfl)) (denr_cons den_int denr_nil))) den_int))) (fun _ _ _ _ _ => (dv 3)))
    (denss_cons (dens_ret (den_if (dent_cmp (opD_ne hr.units) (dv 2) (den_lst dena_nil)) (den_callTy callD_tuple rfl Z.tuple_ (by decide +kernel) (dena_cons (dv 2) dena_nil)) (den_tup (dena_cons (den_callIO h__law_take (hr.mono (by decide)) rfl (denr_io 0 rfl (by first | exact .inl rfl | exact .inr (.inl rfl) | exact .inr (.inr rfl)) (denr_cons (dv 1) denr_nil))) dena_nil))))
    denss_nil))
abbrev s__law_hall : Stmt := topS 67
theorem sc__law_hall : FnScope ["bag", "ranks1", "desks1", "most", "stay1", "alike", "many", "one", "ranks", "rank", "desks", "desk"] ["bag", "ranks1", "desks1", "most", "stay1", "alike"] (defScope s__law_hall) := ⟨rfl, rfl, rfl, by decide +kernel, rfl, by decide +kernel, by decide +kernel⟩
theorem fn__law_hall (d : Df K mg "_law_hall" s__law_hall ["bag", "ranks1", "desks1", "most", "stay1", "alike"]) (Z : Blt2 mg) (Y : Imps mg) (h__law_take : FdIO P w K mg base "_law_take" 1 [some 0, none] F__law_take) (h__law_some : FdIO P w K mg base "_law_some" 2 [some 0, none] F__law_some) : FdIO P w K mg base "_law_hall" 3 [some 0, none, none, none, none, none] F__law_hall := by
  have nd := sc__law_hall.nd
  exact FdIO.of (B := B__law_hall) d sc__law_hall rfl fun f cdv A outer s H E hr => (denss_cons (dens_set 6 nd rfl (by first | exact .inl rfl | exact .inr rfl) (den_bin opD_add den_int (den_callIO h__law_take (hr.mono (by decide)) rfl (denr_io 0 rfl (by first | exact .inl rfl | exact .inr (.inl rfl) | exact .inr (.inr rfl)) (denr_cons (dv 1) denr_nil)))))
    (denss_cons (dens_set 7 nd rfl (by first | exact .inl rfl | exact .inr rfl) (den_bin opD_add den_int (den_callIO h__law_take (hr.mono (by decide)) rfl (denr_io 0 rfl (by first | exact .inl rfl | exact .inr (.inl rfl) | exact .inr (.inr rfl)) (denr_cons (dv 4) denr_nil)))))
    (denss_cons (dens_setN 8 0 nd rfl (by first | exact .inl rfl | exact .inr rfl) (denn_lst dena_nil))
    (denss_cons (dens_for PassesOwn.never rfl (deni_range1 rfl Z.range_ (dena_cons (dv 6) dena_nil)) (deng_name 9 nd rfl (by first | exact .inl rfl | exact .inr rfl)) (denss_cons (dens_app 8 rfl (by first | exact .inl rfl | exact .inr (.inl rfl) | exact .inr (.inr rfl)) (den_tup (dena_cons (den_bin opD_add den_int (den_callIO h__law_take (hr.mono (by decide)) rfl (denr_io 0 rfl (by first | exact .inl rfl | exact .inr (.inl rfl) | exact .inr (.inr rfl)) (denr_cons (dv 3) denr_nil)))) (dena_cons (den_if (dent_val (dv 5)) (dv 7) (den_bin opD_add den_int (den_callIO h__law_take (hr.mono (by decide)) rfl (denr_io 0 rfl (by first | exact .inl rfl | exact .inr (.inl rfl) | exact .inr (.inr rfl)) (denr_cons (dv 4) denr_nil))))) dena_nil))))
    denss_nil))
    (denss_cons (dens_setN 10 0 nd rfl (by first | exact .inl rfl | exact .inr rfl) (denn_lst dena_nil))
    (denss_cons (dens_for PassesOwn.never rfl (deni_range1 rfl Z.range_ (dena_cons (den_bin opD_add den_int (den_callIO h__law_take (hr.mono (by decide)) rfl (denr_io 0 rfl (by first | exact .inl rfl | exact .inr (.inl rfl) | exact .inr (.inr rfl)) (denr_cons (dv 2) denr_nil)))) dena_nil)) (deng_name 11 nd rfl (by first | exact .inl rfl | exact .inr rfl)) (denss_cons (dens_app 10 rfl (by first | exact .inl rfl | exact .inr (.inl rfl) | exact .inr (.inr rfl)) (den_if (dent_w (denw_or (dent_val (dv 5)) (denw_or1 (dent_cmp (opD_eq hr.units) (den_callIO h__law_take (hr.mono (by decide)) rfl (denr_io 0 rfl (by first | exact .inl rfl | exact .inr (.inl rfl) | exact .inr (.inr rfl)) (denr_cons den_int denr_nil))) den_int)))) (den_tupRange rfl Z.tuple_ rfl Z.range_ rfl (dv 6)) (den_callIO h__law_some (hr.mono (by decide)) rfl (denr_io 0 rfl (by first | exact .inl rfl | exact .inr (.inl rfl) | exact .inr (.inr rfl)) (denr_cons (dv 6) denr_nil)))))
    denss_nil))
    (denss_frz 10 (denss_frz 8 (denss_cons (dens_ret (den_tup (dena_cons (den_callTy callD_tuple rfl Z.tuple_ (by decide +kernel) (dena_cons (dv 8) dena_nil)) (dena_cons (den_callTy callD_tuple rfl Z.tuple_ (by decide +kernel) (dena_cons (dv 10) dena_nil)) dena_nil))))
    denss_nil)))))))))
abbrev s__law_comings : Stmt := topS 68
theorem sc__law_comings : FnScope ["bag", "hall", "ticks1", "idle", "found", "tick", "row", "rank", "lazy"] ["bag", "hall", "ticks1"] (defScope s__law_comings) := ⟨rfl, rfl, rfl, by decide +kernel, rfl, by decide +kernel, by decide +kernel⟩
theorem fn__law_comings (d : Df K mg "_law_comings" s__law_comings ["bag", "hall", "ticks1"]) (Z : Blt2 mg) (Y : Imps mg) (h__law_take : FdIO P w K mg base "_law_take" 1 [some 0, none] F__law_take) : FdIO P w K mg base "_law_comings" 2 [some 0, none, none] F__law_comings := by
  have nd := sc__law_comings.nd
  exact FdIO.of (B := B__law_comings) d sc__law_comings rfl fun f cdv A outer s H E hr => (denss_cons (dens_setLc (vs := [7]) 3 [("rank", 7)] rfl nd rfl rfl (sw_true rfl rfl rfl (by decide +kernel)) (deni_seq (den_ix (dv 1) den_int)) (blkOk_by (by rfl)) (fun _ _ _ _ _ => (deng_name 7 nd rfl (by first | exact .inl rfl | exact .inr rfl))) (fun _ _ _ _ _ => dents_nil) (fun _ _ _ _ _ => (den_callIO h__law_take (hr.mono (by decide)) rfl (denr_io 0 rfl (by first | exact .inl rfl | exact .inr (.inl rfl) | exact .inr (.inr rfl)) (denr_cons den_int denr_nil)))))
    (denss_cons (dens_setN 4 0 nd rfl (by first | exact .inl rfl | exact .inr rfl) (denn_lst dena_nil))
    (denss_cons (dens_for PassesOwn.never rfl (deni_range1 rfl Z.range_ (dena_cons (dv 2) dena_nil)) (deng_name 5 nd rfl (by first | exact .inl rfl | exact .inr rfl)) (denss_cons (dens_setN 6 0 nd rfl (by first | exact .inl rfl | exact .inr rfl) (denn_lst dena_nil))
    (denss_cons (dens_for PassesOwn.never rfl (deni_zip2 rfl Z.zip_ (dena_cons (den_ix (dv 1) den_int) (dena_cons (dv 3) dena_nil))) (deng_tup (n := 2) rfl (dengs_cons (deng_name 7 nd rfl (by first | exact .inl rfl | exact .inr rfl)) (dengs_cons (deng_name 8 nd rfl (by first | exact .inl rfl | exact .inr rfl)) dengs_nil))) (denss_cons (dens_app 6 rfl (by first | exact .inl rfl | exact .inr (.inl rfl) | exact .inr (.inr rfl)) (den_if (dent_cmp (opD_lt hr.units0) (den_callIO h__law_take (hr.mono (by decide)) rfl (denr_io 0 rfl (by first | exact .inl rfl | exact .inr (.inl rfl) | exact .inr (.inr rfl)) (denr_cons den_int denr_nil))) (dv 8)) den_int (den_callIO h__law_take (hr.mono (by decide)) rfl (denr_io 0 rfl (by first | exact .inl rfl | exact .inr (.inl rfl) | exact .inr (.inr rfl)) (denr_cons (den_bin opD_add (den_ix (dv 7) den_int) den_int) denr_nil)))))
    denss_nil))
    (denss_frz 6 (denss_cons (dens_app 4 rfl (by first | exact .inl rfl | exact .inr (.inl rfl) | exact .inr (.inr rfl)) (den_callTy callD_tuple rfl Z.tuple_ (by decide +kernel) (dena_cons (dv 6) dena_nil)))
    denss_nil)))))
    (denss_frz 4 (denss_cons (dens_ret (den_callTy callD_tuple rfl Z.tuple_ (by decide +kernel) (dena_cons (dv 4) dena_nil)))
    denss_nil)))))
abbrev s__law_order : Stmt := topS 69
theorem sc__law_order : FnScope ["desk", "waiting1", "order", "rank"] ["desk", "waiting1", "order"] (defScope s__law_order) := ⟨rfl, rfl, rfl, by decide +kernel, rfl, by decide +kernel, by decide +kernel⟩
theorem fn__law_order (d : Df K mg "_law_order" s__law_order ["desk", "waiting1", "order"]) (Z : Blt2 mg) (Y : Imps mg) : Fd P w K mg base "_law_order" 1 3 F__law_order := by
  have nd := sc__law_order.nd
  exact Fd.of (B := B__law_order) d sc__law_order rfl fun f cdv A outer s H E hr => (denss_cons (dens_for PassesOwn.never rfl (deni_seq (dv 2)) (deng_name 3 nd rfl (by first | exact .inl rfl | exact .inr rfl)) (denss_cons (dens_if (dent_w (denw_and (dent_cmp opD_in (dv 3) (dv 0)) (denw_and1 (dent_cmp (opD_ne hr.units) (den_ix (dv 1) (dv 3)) (den_lst dena_nil))))) (denss_cons (dens_ret (dv 3))
    denss_nil) denss_nil)
    denss_nil))
    (denss_cons (dens_ret den_non)
    denss_nil))
abbrev s__law_run_by : Stmt := topS 71
theorem sc__law_run_by : FnScope ["hall", "comings", "order", "ranks", "desks", "waiting1", "again", "book", "left1", "waits1", "tick", "row", "rank", "many", "taken1", "at", "desk", "one", "some"] ["hall", "comings", "order"] (defScope s__law_run_by) := ⟨rfl, rfl, rfl, by decide +kernel, rfl, by decide +kernel, by decide +kernel⟩
theorem fn__law_run_by (d : Df K mg "_law_run_by" s__law_run_by ["hall", "comings", "order"]) (Z : Blt2 mg) (Y : Imps mg) (h__law_order : Fd P w K mg base "_law_order" 1 3 F__law_order) : Fd P w K mg base "_law_run_by" 2 3 F__law_run_by := by
  have nd := sc__law_run_by.nd
  exact Fd.of (B := B__law_run_by) d sc__law_run_by rfl fun f cdv A outer s H E hr => (denss_cons (dens_asg (dv 0) (deng_tup (n := 2) rfl (dengs_cons (deng_name 3 nd rfl (by first | exact .inl rfl | exact .inr rfl)) (dengs_cons (deng_name 4 nd rfl (by first | exact .inl rfl | exact .inr rfl)) dengs_nil))))
    (denss_cons (dens_parsN [5, 6, 7, 8, 9] rfl (pgs_names_cons 5 nd rfl (by first | exact .inl rfl | exact .inr rfl) (pgs_names_cons 6 nd rfl (by first | exact .inl rfl | exact .inr rfl) (pgs_names_cons 7 nd rfl (by first | exact .inl rfl | exact .inr rfl) (pgs_names_cons 8 nd rfl (by first | exact .inl rfl | exact .inr rfl) (pgs_names_cons 9 nd rfl (by first | exact .inl rfl | exact .inr rfl) pgs_names_nil))))) (denm_new 1 (denn_lc2 (vs := [12]) [("rank", 12)] rfl nd (deni_seq (dv 3)) (blkOk_by (by rfl)) (fun _ _ _ _ _ => (deng_name 12 nd rfl (by first | exact .inl rfl | exact .inr rfl))) (fun _ _ _ _ _ => dents_nil) (fun _ _ _ _ _ => (denn_lst dena_nil))) (denm_new 0 (denn_rep (den_lst (dena_cons den_int dena_nil)) (den_callB callD_len rfl Z.len_ (by decide +kernel) (dena_cons (dv 4) dena_nil))) (denm_new 0 (denn_lst dena_nil) (denm_new 0 (denn_lst dena_nil) (denm_new 1 (denn_lc2 (vs := [12]) [("rank", 12)] rfl nd (deni_seq (dv 3)) (blkOk_by (by rfl)) (fun _ _ _ _ _ => (deng_name 12 nd rfl (by first | exact .inl rfl | exact .inr rfl))) (fun _ _ _ _ _ => dents_nil) (fun _ _ _ _ _ => (denn_lst dena_nil))) denm_nil))))))
    (denss_cons (dens_for PassesOwn.never rfl (deni_enum rfl Z.enumerate_ (dena_cons (dv 1) dena_nil)) (deng_tup (n := 2) rfl (dengs_cons (deng_name 10 nd rfl (by first | exact .inl rfl | exact .inr rfl)) (dengs_cons (deng_name 11 nd rfl (by first | exact .inl rfl | exact .inr rfl)) dengs_nil))) (denss_cons (dens_for PassesOwn.never rfl (deni_enum rfl Z.enumerate_ (dena_cons (dv 11) dena_nil)) (deng_tup (n := 2) rfl (dengs_cons (deng_name 12 nd rfl (by first | exact .inl rfl | exact .inr rfl)) (dengs_cons (deng_name 13 nd rfl (by first | exact .inl rfl | exact .inr rfl)) dengs_nil))) (denss_cons (dens_put2 5 rfl (by first | exact .inl rfl | exact .inr (.inl rfl) | exact .inr (.inr rfl)) (dv 12) (denn_add2 5 rfl (by first | exact .inl rfl | exact .inr (.inl rfl) | exact .inr (.inr rfl)) (dv 12) (den_bin opD_mulB (den_lst (dena_cons (dv 10) dena_nil)) (dv 13))))
    denss_nil))
    (denss_cons (dens_setN 14 0 nd rfl (by first | exact .inl rfl | exact .inr rfl) (denn_lst dena_nil))
    (denss_cons (dens_for PassesOwn.never rfl (deni_enum rfl Z.enumerate_ (dena_cons (dv 4) dena_nil)) (deng_tup (n := 2) rfl (dengs_cons (deng_name 15 nd rfl (by first | exact .inl rfl | exact .inr rfl)) (dengs_cons (deng_name 16 nd rfl (by first | exact .inl rfl | exact .inr rfl)) dengs_nil))) (denss_cons (dens_set 17 nd rfl (by first | exact .inl rfl | exact .inr rfl) (den_lend (den_if (dent_cmp opD_le (den_ix (dv 6) (dv 15)) (dv 10)) (den_call h__law_order (hr.mono (by decide)) rfl (dena_cons (dv 16) (dena_cons (dv 5) (dena_cons (dv 2) dena_nil)))) den_non)))
    (denss_cons (dens_app 14 rfl (by first | exact .inl rfl | exact .inr (.inl rfl) | exact .inr (.inr rfl)) (dv 17))
    (denss_cons (dens_if (dent_notN (dv 17)) (denss_cons (dens_app2 9 rfl (by first | exact .inl rfl | exact .inr (.inl rfl) | exact .inr (.inr rfl)) (dv 17) (den_bin opD_sub (dv 10) (den_pop2 5 rfl (by first | exact .inl rfl | exact .inr (.inl rfl) | exact .inr (.inr rfl)) (dv 17) den_int)))
    (denss_cons (dens_put 6 rfl (by first | exact .inl rfl | exact .inr (.inl rfl) | exact .inr (.inr rfl)) (den_bin opD_add (dv 10) (den_ix (den_ix (dv 3) (dv 17)) den_int)) (dv 15))
    denss_nil)) denss_nil)
    denss_nil))))
    (denss_frz 14 (denss_cons (dens_app 7 rfl (by first | exact .inl rfl | exact .inr (.inl rfl) | exact .inr (.inr rfl)) (den_callTy callD_tuple rfl Z.tuple_ (by decide +kernel) (dena_cons (dv 14) dena_nil)))
    (denss_cons (dens_app 8 rfl (by first | exact .inl rfl | exact .inr (.inl rfl) | exact .inr (.inr rfl)) (den_copy2 5 18 rfl nd rfl (by first | exact .inl rfl | exact .inr (.inl rfl) | exact .inr (.inr rfl)) (blkOk_by (by rfl)) Z.list_ (fun _ _ _ _ _ => pg_name nd rfl (by first | exact .inl rfl | exact .inr rfl)) (fun _ _ _ _ _ => pe_callTy call_list_of rfl Z.list_ (by decide +kernel) (pa_cons (pe_var rfl (by first | exact .inl rfl | exact .inr (.inl rfl) | exact .inr (.inr rfl))) pa_nil) (by decide) (by decide))))
    denss_nil)))))))
    (denss_frz 9 (denss_frz 8 (denss_frz 7 (denss_cons (dens_ret (den_tup (dena_cons (den_callTy callD_tuple rfl Z.tuple_ (by decide +kernel) (dena_cons (dv 7) dena_nil)) (dena_cons (dv 8) (dena_cons (dv 9) dena_nil)))))
    denss_nil)))))))
abbrev s__law_run : Stmt := topS 72
theorem sc__law_run : FnScope ["hall", "comings"] ["hall", "comings"] (defScope s__law_run) := ⟨rfl, rfl, rfl, by decide +kernel, rfl, by decide +kernel, by decide +kernel⟩
theorem fn__law_run (d : Df K mg "_law_run" s__law_run ["hall", "comings"]) (Z : Blt2 mg) (Y : Imps mg) (h__law_run_by : Fd P w K mg base "_law_run_by" 2 3 F__law_run_by) : Fd P w K mg base "_law_run" 3 2 F__law_run := by
  have nd := sc__law_run.nd
  exact Fd.of (B := B__law_run) d sc__law_run rfl fun f cdv A outer s H E hr => (denss_cons (dens_ret (den_call h__law_run_by (hr.mono (by decide)) rfl (dena_cons (dv 0) (dena_cons (dv 1) (dena_cons (den_lstRange rfl Z.list_ rfl Z.range_ rfl (den_callB callD_len rfl Z.len_ (by decide +kernel) (dena_cons (den_ix (dv 0) den_int) dena_nil))) dena_nil)))))
    denss_nil)
abbrev s__law_own : Stmt := topS 70
theorem sc__law_own : FnScope ["bag", "hall", "ticks1", "comings"] ["bag", "hall", "ticks1"] (defScope s__law_own) := ⟨rfl, rfl, rfl, by decide +kernel, rfl, by decide +kernel, by decide +kernel⟩
theorem fn__law_own (d : Df K mg "_law_own" s__law_own ["bag", "hall", "ticks1"]) (Z : Blt2 mg) (Y : Imps mg) (h__law_comings : FdIO P w K mg base "_law_comings" 2 [some 0, none, none] F__law_comings) (h__law_run : Fd P w K mg base "_law_run" 3 2 F__law_run) : FdIO P w K mg base "_law_own" 4 [some 0, none, none] F__law_own := by
  have nd := sc__law_own.nd
  exact FdIO.of (B := B__law_own) d sc__law_own rfl fun f cdv A outer s H E hr => (denss_cons (dens_set 3 nd rfl (by first | exact .inl rfl | exact .inr rfl) (den_callIO h__law_comings (hr.mono (by decide)) rfl (denr_io 0 rfl (by first | exact .inl rfl | exact .inr (.inl rfl) | exact .inr (.inr rfl)) (denr_cons (dv 1) (denr_cons (dv 2) denr_nil)))))
    (denss_cons (dens_ret (den_tup (dena_cons (den_ix (den_call h__law_run (hr.mono (by decide)) rfl (dena_cons (dv 1) (dena_cons (dv 3) dena_nil))) den_int) (dena_cons (dv 3) dena_nil))))
    denss_nil))
abbrev s__law_moved : Stmt := topS 73
theorem sc__law_moved : FnScope ["hall", "book", "by", "first", "desks", "rows", "desk", "one", "row"] ["hall", "book", "by", "first"] (defScope s__law_moved) := ⟨rfl, rfl, rfl, by decide +kernel, rfl, by decide +kernel, by decide +kernel⟩
theorem fn__law_moved (d : Df K mg "_law_moved" s__law_moved ["hall", "book", "by", "first"]) (Z : Blt2 mg) (Y : Imps mg) : Fd P w K mg base "_law_moved" 1 4 F__law_moved := by
  have nd := sc__law_moved.nd
  exact Fd.of (B := B__law_moved) d sc__law_moved rfl fun f cdv A outer s H E hr => (denss_cons (dens_if (dent_not (dent_val (dv 3))) (denss_cons (dens_ret (den_tup (dena_cons (den_tup (dena_cons (den_bin opD_add (den_ix (dv 0) den_int) (den_tup (dena_cons (dv 2) dena_nil))) (dena_cons (den_ix (dv 0) den_int) dena_nil))) (dena_cons (dv 1) dena_nil))))
    denss_nil) denss_nil)
    (denss_cons (dens_set 4 nd rfl (by first | exact .inl rfl | exact .inr rfl) (den_callTy callD_tuple rfl Z.tuple_ (by decide +kernel) (dena_cons (den_frz (denn_lc (vs := [6]) [("desk", 6)] rfl nd (deni_seq (den_ix (dv 0) den_int)) (blkOk_by (by rfl)) (fun _ _ _ _ _ => (deng_name 6 nd rfl (by first | exact .inl rfl | exact .inr rfl))) (fun _ _ _ _ _ => dents_nil) (fun _ _ _ _ _ => (den_callTy callD_tuple rfl Z.tuple_ (by decide +kernel) (dena_cons (den_frz (denn_lc (vs := [7]) [("one", 7)] rfl nd (deni_seq (dv 6)) (blkOk_by (by rfl)) (fun _ _ _ _ _ => (deng_name 7 nd rfl (by first | exact .inl rfl | exact .inr rfl))) (fun _ _ _ _ _ => dents_nil) (fun _ _ _ _ _ => (den_bin opD_add (dv 7) den_int)))) dena_nil))))) dena_nil)))
    (denss_cons (dens_setLc (vs := [8]) 5 [("row", 8)] rfl nd rfl rfl (sw_true rfl rfl rfl (by decide +kernel)) (deni_seq (dv 1)) (blkOk_by (by rfl)) (fun _ _ _ _ _ => (deng_name 8 nd rfl (by first | exact .inl rfl | exact .inr rfl))) (fun _ _ _ _ _ => dents_nil) (fun _ _ _ _ _ => (den_callTy callD_tuple rfl Z.tuple_ (by decide +kernel) (dena_cons (den_frz (denn_lc (vs := [7]) [("one", 7)] rfl nd (deni_seq (dv 8)) (blkOk_by (by rfl)) (fun _ _ _ _ _ => (deng_name 7 nd rfl (by first | exact .inl rfl | exact .inr rfl))) (fun _ _ _ _ _ => dents_nil) (fun _ _ _ _ _ => (den_if (dent_isN (dv 7)) den_non (den_bin opD_add (dv 7) den_int))))) dena_nil))))
    (denss_cons (dens_ret (den_tup (dena_cons (den_tup (dena_cons (den_bin opD_add (den_tup (dena_cons (dv 2) dena_nil)) (den_ix (dv 0) den_int)) (dena_cons (dv 4) dena_nil))) (dena_cons (den_callTy callD_tuple rfl Z.tuple_ (by decide +kernel) (dena_cons (dv 5) dena_nil)) dena_nil))))
    denss_nil))))
abbrev s_law : Stmt := topS 74
theorem sc_law : FnScope ["script", "bag", "hall", "book", "own", "whole", "by", "first", "wide", "written", "mine", "shift1", "times1", "tick", "rank", "shut1", "rows", "row"] ["script"] (defScope s_law) := ⟨rfl, rfl, rfl, by decide +kernel, rfl, by decide +kernel, by decide +kernel⟩
theorem fn_law {f : Addr} {fd : FuncData} (d : Fun K "law" "law" s_law f fd) (Z : Blt2 mg) (Y : Imps mg) (h__law_bags : ∀ base : Heap, FdN P w K mg base "_law_bags" 2 2 2 F__law_bags) (h__law_hall : ∀ base : Heap, FdIO P w K mg base "_law_hall" 3 [some 0, none, none, none, none, none] F__law_hall) (h__law_take : ∀ base : Heap, FdIO P w K mg base "_law_take" 1 [some 0, none] F__law_take) (h__law_own : ∀ base : Heap, FdIO P w K mg base "_law_own" 4 [some 0, none, none] F__law_own) (h_how_many : ∀ base : Heap, Fd P w K mg base "how_many" 7 3 F_how_many) (h__law_moved : ∀ base : Heap, Fd P w K mg base "_law_moved" 1 4 F__law_moved) (h_how_many_of : ∀ base : Heap, Fd P w K mg base "how_many_of" 7 4 F_how_many_of) (h_stairs : ∀ base : Heap, Fd P w K mg base "stairs" 7 4 F_stairs) : ∀ base : Heap, FnOk P w K mg base CX0 8 f fd ["script"] (spF 1 F_law) := by
  have nd := sc_law.nd
  exact fun base => fnOk_of (B := B_law) d sc_law fun cdv A outer s H E hr => (denss_cons (dens_forOwn 1 PassesOwn.never rfl nd rfl (by first | exact .inl rfl | exact .inr rfl) (denn_call (h__law_bags base) (hr.mono (by decide)) rfl (dena_cons (dv 0) (dena_cons den_int dena_nil))) (denss_cons (dens_set 2 nd rfl (by first | exact .inl rfl | exact .inr rfl) (den_callIO (h__law_hall base) (hr.mono (by decide)) rfl (denr_io 1 rfl (by first | exact .inl rfl | exact .inr (.inl rfl) | exact .inr (.inr rfl)) (denr_cons den_int (denr_cons den_int (denr_cons (den_ix (den_lst (dena_cons den_int (dena_cons den_int dena_nil))) (den_callIO (h__law_take base) (hr.mono (by decide)) rfl (denr_io 1 rfl (by first | exact .inl rfl | exact .inr (.inl rfl) | exact .inr (.inr rfl)) (denr_cons den_int denr_nil)))) (denr_cons (den_ix (den_lst (dena_cons den_int (dena_cons den_int dena_nil))) (den_callIO (h__law_take base) (hr.mono (by decide)) rfl (denr_io 1 rfl (by first | exact .inl rfl | exact .inr (.inl rfl) | exact .inr (.inr rfl)) (denr_cons den_int denr_nil)))) (denr_cons den_bl denr_nil))))))))
    (denss_cons (dens_asg (den_callIO (h__law_own base) (hr.mono (by decide)) rfl (denr_io 1 rfl (by first | exact .inl rfl | exact .inr (.inl rfl) | exact .inr (.inr rfl)) (denr_cons (dv 2) (denr_cons (den_bin opD_add den_int (den_callIO (h__law_take base) (hr.mono (by decide)) rfl (denr_io 1 rfl (by first | exact .inl rfl | exact .inr (.inl rfl) | exact .inr (.inr rfl)) (denr_cons den_int denr_nil)))) denr_nil)))) (deng_tup (n := 2) rfl (dengs_cons (deng_name 3 nd rfl (by first | exact .inl rfl | exact .inr rfl)) (dengs_cons (deng_name 4 nd rfl (by first | exact .inl rfl | exact .inr rfl)) dengs_nil))))
    (denss_cons (dens_set 5 nd rfl (by first | exact .inl rfl | exact .inr rfl) (den_call (h_how_many base) (hr.mono (by decide)) rfl (dena_cons (dv 2) (dena_cons (dv 3) (dena_cons (den_tup dena_nil) dena_nil)))))
    (denss_cons (dens_parsN [6, 7] rfl (pgs_names_cons 6 nd rfl (by first | exact .inl rfl | exact .inr rfl) (pgs_names_cons 7 nd rfl (by first | exact .inl rfl | exact .inr rfl) pgs_names_nil)) (denm_cons (den_tup (dena_cons (den_bin opD_add den_int (den_callIO (h__law_take base) (hr.mono (by decide)) rfl (denr_io 1 rfl (by first | exact .inl rfl | exact .inr (.inl rfl) | exact .inr (.inr rfl)) (denr_cons den_int denr_nil)))) (dena_cons (den_bin opD_add den_int (den_callIO (h__law_take base) (hr.mono (by decide)) rfl (denr_io 1 rfl (by first | exact .inl rfl | exact .inr (.inl rfl) | exact .inr (.inr rfl)) (denr_cons den_int denr_nil)))) dena_nil))) (denm_cons (den_cmp (opD_eq hr.units) (den_callIO (h__law_take base) (hr.mono (by decide)) rfl (denr_io 1 rfl (by first | exact .inl rfl | exact .inr (.inl rfl) | exact .inr (.inr rfl)) (denr_cons den_int denr_nil))) den_int) denm_nil)))
    (denss_cons (dens_asg (den_call (h__law_moved base) (hr.mono (by decide)) rfl (dena_cons (dv 2) (dena_cons (dv 3) (dena_cons (dv 6) (dena_cons (dv 7) dena_nil))))) (deng_tup (n := 2) rfl (dengs_cons (deng_name 8 nd rfl (by first | exact .inl rfl | exact .inr rfl)) (dengs_cons (deng_name 9 nd rfl (by first | exact .inl rfl | exact .inr rfl)) dengs_nil))))
    (denss_cons (dens_asg (den_if (dent_val (dv 7)) (den_tup (dena_cons den_int (dena_cons den_int dena_nil))) (den_tup (dena_cons (den_callB callD_len rfl Z.len_ (by decide +kernel) (dena_cons (den_ix (dv 2) den_int) dena_nil)) (dena_cons den_int dena_nil)))) (deng_tup (n := 2) rfl (dengs_cons (deng_name 10 nd rfl (by first | exact .inl rfl | exact .inr rfl)) (dengs_cons (deng_name 11 nd rfl (by first | exact .inl rfl | exact .inr rfl)) dengs_nil))))
    (denss_cons (dens_set 12 nd rfl (by first | exact .inl rfl | exact .inr rfl) den_int)
    (denss_cons (dens_for PassesOwn.never rfl (deni_range1 rfl Z.range_ (dena_cons (den_callB callD_len rfl Z.len_ (by decide +kernel) (dena_cons (dv 3) dena_nil)) dena_nil)) (deng_name 13 nd rfl (by first | exact .inl rfl | exact .inr rfl)) (denss_cons (dens_set 12 nd rfl (by first | exact .inl rfl | exact .inr rfl) (den_bin opD_mulB (dv 12) (den_bin opD_add (den_ix (dv 6) den_int) den_int)))
    denss_nil))
    (denss_cons (dens_if (dent_w (denw_or (dent_cmp (opD_ne hr.units) (den_call (h_how_many base) (hr.mono (by decide)) rfl (dena_cons (dv 8) (dena_cons (dv 9) (dena_cons (den_tup dena_nil) dena_nil)))) (den_bin opD_mulB (dv 5) (dv 12))) (denw_or1 (dent_cmp (opD_ne hr.units) (den_call (h_how_many_of base) (hr.mono (by decide)) rfl (dena_cons (dv 8) (dena_cons (dv 9) (dena_cons (den_tup dena_nil) (dena_cons (dv 10) dena_nil))))) (dv 12))))) (denss_cons (dens_ret den_bl)
    denss_nil) denss_nil)
    (denss_cons (dens_if (dent_cmp (opD_ne hr.units) (den_call (h_stairs base) (hr.mono (by decide)) rfl (dena_cons (dv 8) (dena_cons (dv 9) (dena_cons (den_tup dena_nil) (dena_cons (dv 10) dena_nil))))) (den_frz (denn_lc (vs := [13]) [("tick", 13)] rfl nd (deni_range1 rfl Z.range_ (dena_cons (den_callB callD_len rfl Z.len_ (by decide +kernel) (dena_cons (dv 3) dena_nil)) dena_nil)) (blkOk_by (by rfl)) (fun _ _ _ _ _ => (deng_name 13 nd rfl (by first | exact .inl rfl | exact .inr rfl))) (fun _ _ _ _ _ => dents_nil) (fun _ _ _ _ _ => (den_tup (dena_cons den_int (dena_cons (den_bin opD_mulB (den_ix (dv 6) den_int) (den_bin opD_add (dv 13) den_int)) dena_nil))))))) (denss_cons (dens_ret den_bl)
    denss_nil) denss_nil)
    (denss_cons (dens_for PassesOwn.never rfl (deni_range1 rfl Z.range_ (dena_cons (den_callB callD_len rfl Z.len_ (by decide +kernel) (dena_cons (den_ix (dv 2) den_int) dena_nil)) dena_nil)) (deng_name 14 nd rfl (by first | exact .inl rfl | exact .inr rfl)) (denss_cons (dens_if (dent_cmp (opD_ne hr.units) (den_call (h_stairs base) (hr.mono (by decide)) rfl (dena_cons (dv 8) (dena_cons (dv 9) (dena_cons (den_tup dena_nil) (dena_cons (den_bin opD_add (dv 14) (dv 11)) dena_nil))))) (den_call (h_stairs base) (hr.mono (by decide)) rfl (dena_cons (dv 2) (dena_cons (dv 3) (dena_cons (den_tup dena_nil) (dena_cons (dv 14) dena_nil)))))) (denss_cons (dens_ret den_bl)
    denss_nil) denss_nil)
    denss_nil))
    (denss_cons (dens_set 15 nd rfl (by first | exact .inl rfl | exact .inr rfl) (den_tup (dena_cons (den_ix (dv 8) den_int) (dena_cons (den_bin opD_add (den_ix (dv 8) den_int) (den_tup (dena_cons (den_tup (dena_cons (dv 10) dena_nil)) dena_nil))) dena_nil))))
    (denss_cons (dens_set 16 nd rfl (by first | exact .inl rfl | exact .inr rfl) (den_callTy callD_tuple rfl Z.tuple_ (by decide +kernel) (dena_cons (den_frz (denn_lc (vs := [17]) [("row", 17)] rfl nd (deni_seq (dv 9)) (blkOk_by (by rfl)) (fun _ _ _ _ _ => (deng_name 17 nd rfl (by first | exact .inl rfl | exact .inr rfl))) (fun _ _ _ _ _ => dents_nil) (fun _ _ _ _ _ => (den_bin opD_add (dv 17) (den_tup (dena_cons den_non dena_nil)))))) dena_nil)))
    (denss_cons (dens_if (dent_w (denw_or (dent_cmp (opD_ne hr.units) (den_call (h_how_many base) (hr.mono (by decide)) rfl (dena_cons (dv 15) (dena_cons (dv 16) (dena_cons (den_tup dena_nil) dena_nil)))) (dv 5)) (denw_or1 (dent_cmp (opD_ne hr.units) (den_call (h_stairs base) (hr.mono (by decide)) rfl (dena_cons (dv 15) (dena_cons (dv 16) (dena_cons (den_tup dena_nil) (dena_cons (dv 10) dena_nil))))) (den_bin opD_mulB (den_lst (dena_cons (den_tup (dena_cons den_int (dena_cons den_int dena_nil))) dena_nil)) (den_callB callD_len rfl Z.len_ (by decide +kernel) (dena_cons (dv 3) dena_nil))))))) (denss_cons (dens_ret den_bl)
    denss_nil) denss_nil)
    denss_nil)))))))))))))))
    (denss_cons (dens_ret den_bl)
    denss_nil))
end
end Dn

set_option maxHeartbeats 0
namespace Dn
open PySem PySem.Spec PyProof.Rows L2
def d_is_whole : He.DefD := ⟨("is_whole", none), "is_whole", "is_whole", defArgs s_is_whole, defBody s_is_whole, defScope s_is_whole, [], []⟩
def d_are_whole : He.DefD := ⟨("are_whole", none), "are_whole", "are_whole", defArgs s_are_whole, defBody s_are_whole, defScope s_are_whole, [], []⟩
def d_is_from_to : He.DefD := ⟨("is_from_to", none), "is_from_to", "is_from_to", defArgs s_is_from_to, defBody s_is_from_to, defScope s_is_from_to, [], []⟩
def d_is_tuple : He.DefD := ⟨("is_tuple", none), "is_tuple", "is_tuple", defArgs s_is_tuple, defBody s_is_tuple, defScope s_is_tuple, [], []⟩
def d_are_rows : He.DefD := ⟨("are_rows", none), "are_rows", "are_rows", defArgs s_are_rows, defBody s_are_rows, defScope s_are_rows, [], []⟩
def d_is_rising : He.DefD := ⟨("is_rising", none), "is_rising", "is_rising", defArgs s_is_rising, defBody s_is_rising, defScope s_is_rising, [], []⟩
def d_is_column : He.DefD := ⟨("is_column", none), "is_column", "is_column", defArgs s_is_column, defBody s_is_column, defScope s_is_column, [], []⟩
def d_turns_of : He.DefD := ⟨("turns_of", none), "turns_of", "turns_of", defArgs s_turns_of, defBody s_turns_of, defScope s_turns_of, [], []⟩
def d_all_stays : He.DefD := ⟨("all_stays", none), "all_stays", "all_stays", defArgs s_all_stays, defBody s_all_stays, defScope s_all_stays, [], []⟩
def d_all_turns : He.DefD := ⟨("all_turns", none), "all_turns", "all_turns", defArgs s_all_turns, defBody s_all_turns, defScope s_all_turns, [], []⟩
def d__are_desks : He.DefD := ⟨("_are_desks", none), "_are_desks", "_are_desks", defArgs s__are_desks, defBody s__are_desks, defScope s__are_desks, [], []⟩
def d__are_ranks : He.DefD := ⟨("_are_ranks", none), "_are_ranks", "_are_ranks", defArgs s__are_ranks, defBody s__are_ranks, defScope s__are_ranks, [], []⟩
def d_is_hall : He.DefD := ⟨("is_hall", none), "is_hall", "is_hall", defArgs s_is_hall, defBody s_is_hall, defScope s_is_hall, [], []⟩
def d_columns_of : He.DefD := ⟨("columns_of", none), "columns_of", "columns_of", defArgs s_columns_of, defBody s_columns_of, defScope s_columns_of, [], []⟩
def d_need_hall : He.DefD := ⟨("need_hall", none), "need_hall", "need_hall", defArgs s_need_hall, defBody s_need_hall, defScope s_need_hall, [], []⟩
def d_need_book : He.DefD := ⟨("need_book", none), "need_book", "need_book", defArgs s_need_book, defBody s_need_book, defScope s_need_book, [], []⟩
def d__are_looks_of : He.DefD := ⟨("_are_looks_of", none), "_are_looks_of", "_are_looks_of", defArgs s__are_looks_of, defBody s__are_looks_of, defScope s__are_looks_of, [], []⟩
def d_need_looks : He.DefD := ⟨("need_looks", none), "need_looks", "need_looks", defArgs s_need_looks, defBody s_need_looks, defScope s_need_looks, [], []⟩
def d_need_written : He.DefD := ⟨("need_written", none), "need_written", "need_written", defArgs s_need_written, defBody s_need_written, defScope s_need_written, [], []⟩
def d_need_rank : He.DefD := ⟨("need_rank", none), "need_rank", "need_rank", defArgs s_need_rank, defBody s_need_rank, defScope s_need_rank, [], []⟩
def d_told_of : He.DefD := ⟨("told_of", none), "told_of", "told_of", defArgs s_told_of, defBody s_told_of, defScope s_told_of, [], []⟩
def d_told_with : He.DefD := ⟨("told_with", none), "told_with", "told_with", defArgs s_told_with, defBody s_told_with, defScope s_told_with, [], []⟩
def d_ranks_behind : He.DefD := ⟨("ranks_behind", none), "ranks_behind", "ranks_behind", defArgs s_ranks_behind, defBody s_ranks_behind, defScope s_ranks_behind, [], []⟩
def d_steps_up : He.DefD := ⟨("steps_up", none), "steps_up", "steps_up", defArgs s_steps_up, defBody s_steps_up, defScope s_steps_up, [], []⟩
def d_is_barred : He.DefD := ⟨("is_barred", none), "is_barred", "is_barred", defArgs s_is_barred, defBody s_is_barred, defScope s_is_barred, [], []⟩
def d_steps_down : He.DefD := ⟨("steps_down", none), "steps_down", "steps_down", defArgs s_steps_down, defBody s_steps_down, defScope s_steps_down, [], []⟩
def d_rank_up : He.DefD := ⟨("rank_up", none), "rank_up", "rank_up", defArgs s_rank_up, defBody s_rank_up, defScope s_rank_up, [], []⟩
def d_all_up : He.DefD := ⟨("all_up", none), "all_up", "all_up", defArgs s_all_up, defBody s_all_up, defScope s_all_up, [], []⟩
def d_all_steps : He.DefD := ⟨("all_steps", none), "all_steps", "all_steps", defArgs s_all_steps, defBody s_all_steps, defScope s_all_steps, [], []⟩
def d_steps_of : He.DefD := ⟨("steps_of", none), "steps_of", "steps_of", defArgs s_steps_of, defBody s_steps_of, defScope s_steps_of, [], []⟩
def d_stairs : He.DefD := ⟨("stairs", none), "stairs", "stairs", defArgs s_stairs, defBody s_stairs, defScope s_stairs, [], []⟩
def d_ways_within : He.DefD := ⟨("ways_within", none), "ways_within", "ways_within", defArgs s_ways_within, defBody s_ways_within, defScope s_ways_within, [], []⟩
def d_ways_to : He.DefD := ⟨("ways_to", none), "ways_to", "ways_to", defArgs s_ways_to, defBody s_ways_to, defScope s_ways_to, [], []⟩
def d_all_ways : He.DefD := ⟨("all_ways", none), "all_ways", "all_ways", defArgs s_all_ways, defBody s_all_ways, defScope s_all_ways, [], []⟩
def d_all_comings : He.DefD := ⟨("all_comings", none), "all_comings", "all_comings", defArgs s_all_comings, defBody s_all_comings, defScope s_all_comings, [], []⟩
def d_how_many : He.DefD := ⟨("how_many", none), "how_many", "how_many", defArgs s_how_many, defBody s_how_many, defScope s_how_many, [], []⟩
def d_how_many_of : He.DefD := ⟨("how_many_of", none), "how_many_of", "how_many_of", defArgs s_how_many_of, defBody s_how_many_of, defScope s_how_many_of, [], []⟩
def d__law_well : He.DefD := ⟨("_law_well", none), "_law_well", "_law_well", defArgs s__law_well, defBody s__law_well, defScope s__law_well, [], []⟩
def d__law_take : He.DefD := ⟨("_law_take", none), "_law_take", "_law_take", defArgs s__law_take, defBody s__law_take, defScope s__law_take, [], []⟩
def d__law_bags : He.DefD := ⟨("_law_bags", none), "_law_bags", "_law_bags", defArgs s__law_bags, defBody s__law_bags, defScope s__law_bags, [], []⟩
def d__law_some : He.DefD := ⟨("_law_some", none), "_law_some", "_law_some", defArgs s__law_some, defBody s__law_some, defScope s__law_some, [], []⟩
def d__law_hall : He.DefD := ⟨("_law_hall", none), "_law_hall", "_law_hall", defArgs s__law_hall, defBody s__law_hall, defScope s__law_hall, [], []⟩
def d__law_comings : He.DefD := ⟨("_law_comings", none), "_law_comings", "_law_comings", defArgs s__law_comings, defBody s__law_comings, defScope s__law_comings, [], []⟩
def d__law_order : He.DefD := ⟨("_law_order", none), "_law_order", "_law_order", defArgs s__law_order, defBody s__law_order, defScope s__law_order, [], []⟩
def d__law_run_by : He.DefD := ⟨("_law_run_by", none), "_law_run_by", "_law_run_by", defArgs s__law_run_by, defBody s__law_run_by, defScope s__law_run_by, [], []⟩
def d__law_run : He.DefD := ⟨("_law_run", none), "_law_run", "_law_run", defArgs s__law_run, defBody s__law_run, defScope s__law_run, [], []⟩
def d__law_own : He.DefD := ⟨("_law_own", none), "_law_own", "_law_own", defArgs s__law_own, defBody s__law_own, defScope s__law_own, [], []⟩
def d__law_moved : He.DefD := ⟨("_law_moved", none), "_law_moved", "_law_moved", defArgs s__law_moved, defBody s__law_moved, defScope s__law_moved, [], []⟩
def d_law : He.DefD := ⟨("law", none), "law", "law", defArgs s_law, defBody s_law, defScope s_law, [], []⟩
def fnD : List He.DefD := [d_is_whole, d_are_whole, d_is_from_to, d_is_tuple, d_are_rows, d_is_rising, d_is_column, d_turns_of, d_all_stays, d_all_turns, d__are_desks, d__are_ranks, d_is_hall, d_columns_of, d_need_hall, d_need_book, d__are_looks_of, d_need_looks, d_need_written, d_need_rank, d_told_of, d_told_with, d_ranks_behind, d_steps_up, d_is_barred, d_steps_down, d_rank_up, d_all_up, d_all_steps, d_steps_of, d_stairs, d_ways_within, d_ways_to, d_all_ways, d_all_comings, d_how_many, d_how_many_of, d__law_well, d__law_take, d__law_bags, d__law_some, d__law_hall, d__law_comings, d__law_order, d__law_run_by, d__law_run, d__law_own, d__law_moved, d_law]
def faD : List He.Fa := [.glo "is_whole", .glo "are_whole", .glo "is_from_to", .glo "is_tuple", .glo "are_rows", .glo "is_rising", .glo "is_column", .glo "turns_of", .glo "all_stays", .glo "all_turns", .glo "_are_desks", .glo "_are_ranks", .glo "is_hall", .glo "columns_of", .glo "need_hall", .glo "need_book", .glo "_are_looks_of", .glo "need_looks", .glo "need_written", .glo "need_rank", .glo "told_of", .glo "told_with", .glo "ranks_behind", .glo "steps_up", .glo "is_barred", .glo "steps_down", .glo "rank_up", .glo "all_up", .glo "all_steps", .glo "steps_of", .glo "stairs", .glo "ways_within", .glo "ways_to", .glo "all_ways", .glo "all_comings", .glo "how_many", .glo "how_many_of", .glo "_law_well", .glo "_law_take", .glo "_law_bags", .glo "_law_some", .glo "_law_hall", .glo "_law_comings", .glo "_law_order", .glo "_law_run_by", .glo "_law_run", .glo "_law_own", .glo "_law_moved", .glo "law", .int "BUSY" (-1), .int "NOBODY" (4), .int "DESKS_AT_MOST" (3), .int "RANKS_AT_MOST" (4), .int "STAY_AT_MOST" (10), .int "COME_AT_MOST" (5), .int "TICKS_AT_MOST" (40), .int "LOOKS_AT_MOST" (6), .free "len", .free "sum", .free "all", .free "any", .free "tuple", .free "list", .free "sorted", .free "max", .free "min", .free "range", .free "zip", .free "enumerate", .free "reversed", .free "set", .free "isinstance", .free "int", .free "bool", .free "str", .free "type"]
def noLst (K : PySem.W.Frag) : Bool := K.all fun p => !(p.2.cls == .type "list")
def accB (K : PySem.W.Frag) : Bool := noLst K && He.eqO (PySem.W.nsIn K mainGlobals "accumulate") (some (some (.type "itertools.accumulate")))
abbrev RW : PySem.W.OpenRow := PySem.W.OpenLaw.row PySem.Challenge.rw_hallback_k19_whole_ranks_that_no_desk_ta
def obs2 (g : Addr → Option Obj) : He.AlD × Bool := (He.obsDG 4 faD fnD g, accB (He.frG g (He.asD g 4)))
def hk : PySem.W.Hook where
  α := He.AlD × Bool
  obs := fun s => obs2 s.heap.get?
  val := fun _ => (He.valD fnD, true)
  says := fun _ h => ∃ K : PySem.W.Frag, K.In h ∧ He.SaysD faD fnD K ∧ accB K = true
  of := fun _ _ e => ⟨_, He.frG_in, congrArg (fun z : He.AlD × Bool => z.1) e, congrArg (fun z : He.AlD × Bool => z.2) e⟩
  keeps := fun _ _ _ ⟨K, hK, c⟩ k => ⟨K, PySem.W.Frag.In.keeps hK k, c⟩
def ob (s : PySem.W.SharedT) : He.AlD × Bool := obs2 (HandSHeadRun.getT s)
theorem ob_eq (s : PySem.W.SharedT) : ob s = hk.obs s.abs := by
  have e : HandSHeadRun.getT s = s.abs.heap.get? := funext (HandSHeadRun.getT_eq s)
  show obs2 (HandSHeadRun.getT s) = obs2 s.abs.heap.get?
  rw [e]
def looseN : List Str := (["__name__", "HallError", "NoHall", "NoBook", "NoLooks", "NoRank", "is_whole", "are_whole", "is_from_to", "is_tuple", "are_rows", "is_rising", "NOBODY", "BUSY", "is_column", "turns_of", "all_turns", "all_stays", "RANKS_AT_MOST", "COME_AT_MOST", "STAY_AT_MOST", "DESKS_AT_MOST", "TICKS_AT_MOST", "LOOKS_AT_MOST", "LOOK_AT_MOST", "is_hall", "columns_of", "need_hall", "need_book", "need_looks"] : List Str) ++ (["need_written", "need_rank", "_are_ranks", "_are_desks", "_are_looks_of", "_is_look", "told_of", "told_with", "ranks_behind", "steps_up", "is_barred", "steps_down", "rank_up", "all_up", "all_steps", "steps_of", "stairs", "ways_to", "all_ways", "all_comings", "ways_within", "how_many", "how_many_of", "_law_well", "_law_take", "_law_bags", "_law_some", "_law_hall", "_law_comings", "_law_order"] : List Str) ++ (["_law_own", "_law_run_by", "_law_run", "_law_moved"] : List Str)
theorem run (w : World) : HandSHeadRun.RunEqI RW (PySem.W.view RW.prog [0, 74]) hk ob 6000 looseN w := by
  unfold HandSHeadRun.RunEqI
  kernel_rfl
section
variable {P : Program} {w : World} {K : PySem.W.Frag} {mg : Str → Option Value} {base h : Heap}
theorem df_is_whole (X : K.In h) (G : h.Ns mainGlobals mg) (c : He.SaysD faD fnD K) : Df K mg "is_whole" s_is_whole ["thing"] := by
  obtain ⟨fd, F⟩ := c.def_ 0 (d := d_is_whole) rfl
  obtain ⟨oc, od, dV, kV, doc, pm, an, cdv, ct, osl, e1, e2, e3, e4, e5⟩ := F.ex
  rcases e4 with ⟨_, e4⟩ | ⟨e4, _⟩
  · subst e4
    exact ⟨_, fd, He.glo_ok X G (c.fact 0 (f := .glo "is_whole") rfl), ⟨⟨oc, od, kV, doc, pm, an, cdv, ct, osl, e1, e2, e3⟩, F.kp⟩, F.bindsN fun _ _ _ _ _ _ us hl => match us, hl with | [_], _ => rfl⟩
  · exact absurd rfl e4
theorem df_are_whole (X : K.In h) (G : h.Ns mainGlobals mg) (c : He.SaysD faD fnD K) : Df K mg "are_whole" s_are_whole ["things"] := by
  obtain ⟨fd, F⟩ := c.def_ 1 (d := d_are_whole) rfl
  obtain ⟨oc, od, dV, kV, doc, pm, an, cdv, ct, osl, e1, e2, e3, e4, e5⟩ := F.ex
  rcases e4 with ⟨_, e4⟩ | ⟨e4, _⟩
  · subst e4
    exact ⟨_, fd, He.glo_ok X G (c.fact 1 (f := .glo "are_whole") rfl), ⟨⟨oc, od, kV, doc, pm, an, cdv, ct, osl, e1, e2, e3⟩, F.kp⟩, F.bindsN fun _ _ _ _ _ _ us hl => match us, hl with | [_], _ => rfl⟩
  · exact absurd rfl e4
theorem df_is_from_to (X : K.In h) (G : h.Ns mainGlobals mg) (c : He.SaysD faD fnD K) : Df K mg "is_from_to" s_is_from_to ["thing", "low", "high"] := by
  obtain ⟨fd, F⟩ := c.def_ 2 (d := d_is_from_to) rfl
  obtain ⟨oc, od, dV, kV, doc, pm, an, cdv, ct, osl, e1, e2, e3, e4, e5⟩ := F.ex
  rcases e4 with ⟨_, e4⟩ | ⟨e4, _⟩
  · subst e4
    exact ⟨_, fd, He.glo_ok X G (c.fact 2 (f := .glo "is_from_to") rfl), ⟨⟨oc, od, kV, doc, pm, an, cdv, ct, osl, e1, e2, e3⟩, F.kp⟩, F.bindsN fun _ _ _ _ _ _ us hl => match us, hl with | [_, _, _], _ => rfl⟩
  · exact absurd rfl e4
theorem df_is_tuple (X : K.In h) (G : h.Ns mainGlobals mg) (c : He.SaysD faD fnD K) : Df K mg "is_tuple" s_is_tuple ["thing", "least", "most"] := by
  obtain ⟨fd, F⟩ := c.def_ 3 (d := d_is_tuple) rfl
  obtain ⟨oc, od, dV, kV, doc, pm, an, cdv, ct, osl, e1, e2, e3, e4, e5⟩ := F.ex
  rcases e4 with ⟨_, e4⟩ | ⟨e4, _⟩
  · subst e4
    exact ⟨_, fd, He.glo_ok X G (c.fact 3 (f := .glo "is_tuple") rfl), ⟨⟨oc, od, kV, doc, pm, an, cdv, ct, osl, e1, e2, e3⟩, F.kp⟩, F.bindsN fun _ _ _ _ _ _ us hl => match us, hl with | [_, _, _], _ => rfl⟩
  · exact absurd rfl e4
theorem df_are_rows (X : K.In h) (G : h.Ns mainGlobals mg) (c : He.SaysD faD fnD K) : Df K mg "are_rows" s_are_rows ["thing", "most", "wide"] := by
  obtain ⟨fd, F⟩ := c.def_ 4 (d := d_are_rows) rfl
  obtain ⟨oc, od, dV, kV, doc, pm, an, cdv, ct, osl, e1, e2, e3, e4, e5⟩ := F.ex
  rcases e4 with ⟨_, e4⟩ | ⟨e4, _⟩
  · subst e4
    exact ⟨_, fd, He.glo_ok X G (c.fact 4 (f := .glo "are_rows") rfl), ⟨⟨oc, od, kV, doc, pm, an, cdv, ct, osl, e1, e2, e3⟩, F.kp⟩, F.bindsN fun _ _ _ _ _ _ us hl => match us, hl with | [_, _, _], _ => rfl⟩
  · exact absurd rfl e4
theorem df_is_rising (X : K.In h) (G : h.Ns mainGlobals mg) (c : He.SaysD faD fnD K) : Df K mg "is_rising" s_is_rising ["things"] := by
  obtain ⟨fd, F⟩ := c.def_ 5 (d := d_is_rising) rfl
  obtain ⟨oc, od, dV, kV, doc, pm, an, cdv, ct, osl, e1, e2, e3, e4, e5⟩ := F.ex
  rcases e4 with ⟨_, e4⟩ | ⟨e4, _⟩
  · subst e4
    exact ⟨_, fd, He.glo_ok X G (c.fact 5 (f := .glo "is_rising") rfl), ⟨⟨oc, od, kV, doc, pm, an, cdv, ct, osl, e1, e2, e3⟩, F.kp⟩, F.bindsN fun _ _ _ _ _ _ us hl => match us, hl with | [_], _ => rfl⟩
  · exact absurd rfl e4
theorem df_is_column (X : K.In h) (G : h.Ns mainGlobals mg) (c : He.SaysD faD fnD K) : Df K mg "is_column" s_is_column ["stays", "desk", "column"] := by
  obtain ⟨fd, F⟩ := c.def_ 6 (d := d_is_column) rfl
  obtain ⟨oc, od, dV, kV, doc, pm, an, cdv, ct, osl, e1, e2, e3, e4, e5⟩ := F.ex
  rcases e4 with ⟨_, e4⟩ | ⟨e4, _⟩
  · subst e4
    exact ⟨_, fd, He.glo_ok X G (c.fact 6 (f := .glo "is_column") rfl), ⟨⟨oc, od, kV, doc, pm, an, cdv, ct, osl, e1, e2, e3⟩, F.kp⟩, F.bindsN fun _ _ _ _ _ _ us hl => match us, hl with | [_, _, _], _ => rfl⟩
  · exact absurd rfl e4
theorem df_turns_of (X : K.In h) (G : h.Ns mainGlobals mg) (c : He.SaysD faD fnD K) : Df K mg "turns_of" s_turns_of ["stays", "column"] := by
  obtain ⟨fd, F⟩ := c.def_ 7 (d := d_turns_of) rfl
  obtain ⟨oc, od, dV, kV, doc, pm, an, cdv, ct, osl, e1, e2, e3, e4, e5⟩ := F.ex
  rcases e4 with ⟨_, e4⟩ | ⟨e4, _⟩
  · subst e4
    exact ⟨_, fd, He.glo_ok X G (c.fact 7 (f := .glo "turns_of") rfl), ⟨⟨oc, od, kV, doc, pm, an, cdv, ct, osl, e1, e2, e3⟩, F.kp⟩, F.bindsN fun _ _ _ _ _ _ us hl => match us, hl with | [_, _], _ => rfl⟩
  · exact absurd rfl e4
theorem df_all_stays (X : K.In h) (G : h.Ns mainGlobals mg) (c : He.SaysD faD fnD K) : Df K mg "all_stays" s_all_stays ["hall"] := by
  obtain ⟨fd, F⟩ := c.def_ 8 (d := d_all_stays) rfl
  obtain ⟨oc, od, dV, kV, doc, pm, an, cdv, ct, osl, e1, e2, e3, e4, e5⟩ := F.ex
  rcases e4 with ⟨_, e4⟩ | ⟨e4, _⟩
  · subst e4
    exact ⟨_, fd, He.glo_ok X G (c.fact 8 (f := .glo "all_stays") rfl), ⟨⟨oc, od, kV, doc, pm, an, cdv, ct, osl, e1, e2, e3⟩, F.kp⟩, F.bindsN fun _ _ _ _ _ _ us hl => match us, hl with | [_], _ => rfl⟩
  · exact absurd rfl e4
theorem df_all_turns (X : K.In h) (G : h.Ns mainGlobals mg) (c : He.SaysD faD fnD K) : Df K mg "all_turns" s_all_turns ["hall", "columns"] := by
  obtain ⟨fd, F⟩ := c.def_ 9 (d := d_all_turns) rfl
  obtain ⟨oc, od, dV, kV, doc, pm, an, cdv, ct, osl, e1, e2, e3, e4, e5⟩ := F.ex
  rcases e4 with ⟨_, e4⟩ | ⟨e4, _⟩
  · subst e4
    exact ⟨_, fd, He.glo_ok X G (c.fact 9 (f := .glo "all_turns") rfl), ⟨⟨oc, od, kV, doc, pm, an, cdv, ct, osl, e1, e2, e3⟩, F.kp⟩, F.bindsN fun _ _ _ _ _ _ us hl => match us, hl with | [_, _], _ => rfl⟩
  · exact absurd rfl e4
theorem df__are_desks (X : K.In h) (G : h.Ns mainGlobals mg) (c : He.SaysD faD fnD K) : Df K mg "_are_desks" s__are_desks ["thing", "ranks"] := by
  obtain ⟨fd, F⟩ := c.def_ 10 (d := d__are_desks) rfl
  obtain ⟨oc, od, dV, kV, doc, pm, an, cdv, ct, osl, e1, e2, e3, e4, e5⟩ := F.ex
  rcases e4 with ⟨_, e4⟩ | ⟨e4, _⟩
  · subst e4
    exact ⟨_, fd, He.glo_ok X G (c.fact 10 (f := .glo "_are_desks") rfl), ⟨⟨oc, od, kV, doc, pm, an, cdv, ct, osl, e1, e2, e3⟩, F.kp⟩, F.bindsN fun _ _ _ _ _ _ us hl => match us, hl with | [_, _], _ => rfl⟩
  · exact absurd rfl e4
theorem df__are_ranks (X : K.In h) (G : h.Ns mainGlobals mg) (c : He.SaysD faD fnD K) : Df K mg "_are_ranks" s__are_ranks ["thing"] := by
  obtain ⟨fd, F⟩ := c.def_ 11 (d := d__are_ranks) rfl
  obtain ⟨oc, od, dV, kV, doc, pm, an, cdv, ct, osl, e1, e2, e3, e4, e5⟩ := F.ex
  rcases e4 with ⟨_, e4⟩ | ⟨e4, _⟩
  · subst e4
    exact ⟨_, fd, He.glo_ok X G (c.fact 11 (f := .glo "_are_ranks") rfl), ⟨⟨oc, od, kV, doc, pm, an, cdv, ct, osl, e1, e2, e3⟩, F.kp⟩, F.bindsN fun _ _ _ _ _ _ us hl => match us, hl with | [_], _ => rfl⟩
  · exact absurd rfl e4
theorem df_is_hall (X : K.In h) (G : h.Ns mainGlobals mg) (c : He.SaysD faD fnD K) : Df K mg "is_hall" s_is_hall ["thing"] := by
  obtain ⟨fd, F⟩ := c.def_ 12 (d := d_is_hall) rfl
  obtain ⟨oc, od, dV, kV, doc, pm, an, cdv, ct, osl, e1, e2, e3, e4, e5⟩ := F.ex
  rcases e4 with ⟨_, e4⟩ | ⟨e4, _⟩
  · subst e4
    exact ⟨_, fd, He.glo_ok X G (c.fact 12 (f := .glo "is_hall") rfl), ⟨⟨oc, od, kV, doc, pm, an, cdv, ct, osl, e1, e2, e3⟩, F.kp⟩, F.bindsN fun _ _ _ _ _ _ us hl => match us, hl with | [_], _ => rfl⟩
  · exact absurd rfl e4
theorem df_columns_of (X : K.In h) (G : h.Ns mainGlobals mg) (c : He.SaysD faD fnD K) : Df K mg "columns_of" s_columns_of ["hall", "thing"] := by
  obtain ⟨fd, F⟩ := c.def_ 13 (d := d_columns_of) rfl
  obtain ⟨oc, od, dV, kV, doc, pm, an, cdv, ct, osl, e1, e2, e3, e4, e5⟩ := F.ex
  rcases e4 with ⟨_, e4⟩ | ⟨e4, _⟩
  · subst e4
    exact ⟨_, fd, He.glo_ok X G (c.fact 13 (f := .glo "columns_of") rfl), ⟨⟨oc, od, kV, doc, pm, an, cdv, ct, osl, e1, e2, e3⟩, F.kp⟩, F.bindsN fun _ _ _ _ _ _ us hl => match us, hl with | [_, _], _ => rfl⟩
  · exact absurd rfl e4
theorem df_need_hall (X : K.In h) (G : h.Ns mainGlobals mg) (c : He.SaysD faD fnD K) : Df K mg "need_hall" s_need_hall ["thing"] := by
  obtain ⟨fd, F⟩ := c.def_ 14 (d := d_need_hall) rfl
  obtain ⟨oc, od, dV, kV, doc, pm, an, cdv, ct, osl, e1, e2, e3, e4, e5⟩ := F.ex
  rcases e4 with ⟨_, e4⟩ | ⟨e4, _⟩
  · subst e4
    exact ⟨_, fd, He.glo_ok X G (c.fact 14 (f := .glo "need_hall") rfl), ⟨⟨oc, od, kV, doc, pm, an, cdv, ct, osl, e1, e2, e3⟩, F.kp⟩, F.bindsN fun _ _ _ _ _ _ us hl => match us, hl with | [_], _ => rfl⟩
  · exact absurd rfl e4
theorem df_need_book (X : K.In h) (G : h.Ns mainGlobals mg) (c : He.SaysD faD fnD K) : Df K mg "need_book" s_need_book ["hall", "thing"] := by
  obtain ⟨fd, F⟩ := c.def_ 15 (d := d_need_book) rfl
  obtain ⟨oc, od, dV, kV, doc, pm, an, cdv, ct, osl, e1, e2, e3, e4, e5⟩ := F.ex
  rcases e4 with ⟨_, e4⟩ | ⟨e4, _⟩
  · subst e4
    exact ⟨_, fd, He.glo_ok X G (c.fact 15 (f := .glo "need_book") rfl), ⟨⟨oc, od, kV, doc, pm, an, cdv, ct, osl, e1, e2, e3⟩, F.kp⟩, F.bindsN fun _ _ _ _ _ _ us hl => match us, hl with | [_, _], _ => rfl⟩
  · exact absurd rfl e4
theorem df__are_looks_of (X : K.In h) (G : h.Ns mainGlobals mg) (c : He.SaysD faD fnD K) : Df K mg "_are_looks_of" s__are_looks_of ["hall", "book", "thing"] := by
  obtain ⟨fd, F⟩ := c.def_ 16 (d := d__are_looks_of) rfl
  obtain ⟨oc, od, dV, kV, doc, pm, an, cdv, ct, osl, e1, e2, e3, e4, e5⟩ := F.ex
  rcases e4 with ⟨_, e4⟩ | ⟨e4, _⟩
  · subst e4
    exact ⟨_, fd, He.glo_ok X G (c.fact 16 (f := .glo "_are_looks_of") rfl), ⟨⟨oc, od, kV, doc, pm, an, cdv, ct, osl, e1, e2, e3⟩, F.kp⟩, F.bindsN fun _ _ _ _ _ _ us hl => match us, hl with | [_, _, _], _ => rfl⟩
  · exact absurd rfl e4
theorem df_need_looks (X : K.In h) (G : h.Ns mainGlobals mg) (c : He.SaysD faD fnD K) : Df K mg "need_looks" s_need_looks ["hall", "book", "thing"] := by
  obtain ⟨fd, F⟩ := c.def_ 17 (d := d_need_looks) rfl
  obtain ⟨oc, od, dV, kV, doc, pm, an, cdv, ct, osl, e1, e2, e3, e4, e5⟩ := F.ex
  rcases e4 with ⟨_, e4⟩ | ⟨e4, _⟩
  · subst e4
    exact ⟨_, fd, He.glo_ok X G (c.fact 17 (f := .glo "need_looks") rfl), ⟨⟨oc, od, kV, doc, pm, an, cdv, ct, osl, e1, e2, e3⟩, F.kp⟩, F.bindsN fun _ _ _ _ _ _ us hl => match us, hl with | [_, _, _], _ => rfl⟩
  · exact absurd rfl e4
theorem df_need_written (X : K.In h) (G : h.Ns mainGlobals mg) (c : He.SaysD faD fnD K) : Df K mg "need_written" s_need_written ["hall", "book", "looks"] := by
  obtain ⟨fd, F⟩ := c.def_ 18 (d := d_need_written) rfl
  obtain ⟨oc, od, dV, kV, doc, pm, an, cdv, ct, osl, e1, e2, e3, e4, e5⟩ := F.ex
  rcases e4 with ⟨_, e4⟩ | ⟨e4, _⟩
  · subst e4
    exact ⟨_, fd, He.glo_ok X G (c.fact 18 (f := .glo "need_written") rfl), ⟨⟨oc, od, kV, doc, pm, an, cdv, ct, osl, e1, e2, e3⟩, F.kp⟩, F.bindsN fun _ _ _ _ _ _ us hl => match us, hl with | [_, _, _], _ => rfl⟩
  · exact absurd rfl e4
theorem df_need_rank (X : K.In h) (G : h.Ns mainGlobals mg) (c : He.SaysD faD fnD K) : Df K mg "need_rank" s_need_rank ["hall", "thing"] := by
  obtain ⟨fd, F⟩ := c.def_ 19 (d := d_need_rank) rfl
  obtain ⟨oc, od, dV, kV, doc, pm, an, cdv, ct, osl, e1, e2, e3, e4, e5⟩ := F.ex
  rcases e4 with ⟨_, e4⟩ | ⟨e4, _⟩
  · subst e4
    exact ⟨_, fd, He.glo_ok X G (c.fact 19 (f := .glo "need_rank") rfl), ⟨⟨oc, od, kV, doc, pm, an, cdv, ct, osl, e1, e2, e3⟩, F.kp⟩, F.bindsN fun _ _ _ _ _ _ us hl => match us, hl with | [_, _], _ => rfl⟩
  · exact absurd rfl e4
theorem df_told_of (X : K.In h) (G : h.Ns mainGlobals mg) (c : He.SaysD faD fnD K) : Df K mg "told_of" s_told_of ["hall", "turns", "rank", "behind", "gone"] := by
  obtain ⟨fd, F⟩ := c.def_ 20 (d := d_told_of) rfl
  obtain ⟨oc, od, dV, kV, doc, pm, an, cdv, ct, osl, e1, e2, e3, e4, e5⟩ := F.ex
  rcases e4 with ⟨_, e4⟩ | ⟨e4, _⟩
  · subst e4
    exact ⟨_, fd, He.glo_ok X G (c.fact 20 (f := .glo "told_of") rfl), ⟨⟨oc, od, kV, doc, pm, an, cdv, ct, osl, e1, e2, e3⟩, F.kp⟩, F.bindsN fun _ _ _ _ _ _ us hl => match us, hl with | [_, _, _, _, _], _ => rfl⟩
  · exact absurd rfl e4
theorem df_told_with (X : K.In h) (G : h.Ns mainGlobals mg) (c : He.SaysD faD fnD K) : Df K mg "told_with" s_told_with ["told", "looks", "rank"] := by
  obtain ⟨fd, F⟩ := c.def_ 21 (d := d_told_with) rfl
  obtain ⟨oc, od, dV, kV, doc, pm, an, cdv, ct, osl, e1, e2, e3, e4, e5⟩ := F.ex
  rcases e4 with ⟨_, e4⟩ | ⟨e4, _⟩
  · subst e4
    exact ⟨_, fd, He.glo_ok X G (c.fact 21 (f := .glo "told_with") rfl), ⟨⟨oc, od, kV, doc, pm, an, cdv, ct, osl, e1, e2, e3⟩, F.kp⟩, F.bindsN fun _ _ _ _ _ _ us hl => match us, hl with | [_, _, _], _ => rfl⟩
  · exact absurd rfl e4
theorem df_ranks_behind (X : K.In h) (G : h.Ns mainGlobals mg) (c : He.SaysD faD fnD K) : Df K mg "ranks_behind" s_ranks_behind ["hall", "rank"] := by
  obtain ⟨fd, F⟩ := c.def_ 22 (d := d_ranks_behind) rfl
  obtain ⟨oc, od, dV, kV, doc, pm, an, cdv, ct, osl, e1, e2, e3, e4, e5⟩ := F.ex
  rcases e4 with ⟨_, e4⟩ | ⟨e4, _⟩
  · subst e4
    exact ⟨_, fd, He.glo_ok X G (c.fact 22 (f := .glo "ranks_behind") rfl), ⟨⟨oc, od, kV, doc, pm, an, cdv, ct, osl, e1, e2, e3⟩, F.kp⟩, F.bindsN fun _ _ _ _ _ _ us hl => match us, hl with | [_, _], _ => rfl⟩
  · exact absurd rfl e4
theorem df_steps_up (X : K.In h) (G : h.Ns mainGlobals mg) (c : He.SaysD faD fnD K) : Df K mg "steps_up" s_steps_up ["told", "most", "low", "high"] := by
  obtain ⟨fd, F⟩ := c.def_ 23 (d := d_steps_up) rfl
  obtain ⟨oc, od, dV, kV, doc, pm, an, cdv, ct, osl, e1, e2, e3, e4, e5⟩ := F.ex
  rcases e4 with ⟨_, e4⟩ | ⟨e4, _⟩
  · subst e4
    exact ⟨_, fd, He.glo_ok X G (c.fact 23 (f := .glo "steps_up") rfl), ⟨⟨oc, od, kV, doc, pm, an, cdv, ct, osl, e1, e2, e3⟩, F.kp⟩, F.bindsN fun _ _ _ _ _ _ us hl => match us, hl with | [_, _, _, _], _ => rfl⟩
  · exact absurd rfl e4
theorem df_is_barred (X : K.In h) (G : h.Ns mainGlobals mg) (c : He.SaysD faD fnD K) : Df K mg "is_barred" s_is_barred ["steps"] := by
  obtain ⟨fd, F⟩ := c.def_ 24 (d := d_is_barred) rfl
  obtain ⟨oc, od, dV, kV, doc, pm, an, cdv, ct, osl, e1, e2, e3, e4, e5⟩ := F.ex
  rcases e4 with ⟨_, e4⟩ | ⟨e4, _⟩
  · subst e4
    exact ⟨_, fd, He.glo_ok X G (c.fact 24 (f := .glo "is_barred") rfl), ⟨⟨oc, od, kV, doc, pm, an, cdv, ct, osl, e1, e2, e3⟩, F.kp⟩, F.bindsN fun _ _ _ _ _ _ us hl => match us, hl with | [_], _ => rfl⟩
  · exact absurd rfl e4
theorem df_steps_down (X : K.In h) (G : h.Ns mainGlobals mg) (c : He.SaysD faD fnD K) : Df K mg "steps_down" s_steps_down ["steps", "most"] := by
  obtain ⟨fd, F⟩ := c.def_ 25 (d := d_steps_down) rfl
  obtain ⟨oc, od, dV, kV, doc, pm, an, cdv, ct, osl, e1, e2, e3, e4, e5⟩ := F.ex
  rcases e4 with ⟨_, e4⟩ | ⟨e4, _⟩
  · subst e4
    exact ⟨_, fd, He.glo_ok X G (c.fact 25 (f := .glo "steps_down") rfl), ⟨⟨oc, od, kV, doc, pm, an, cdv, ct, osl, e1, e2, e3⟩, F.kp⟩, F.bindsN fun _ _ _ _ _ _ us hl => match us, hl with | [_, _], _ => rfl⟩
  · exact absurd rfl e4
theorem df_rank_up (X : K.In h) (G : h.Ns mainGlobals mg) (c : He.SaysD faD fnD K) : Df K mg "rank_up" s_rank_up ["hall", "turns", "looks", "rank"] := by
  obtain ⟨fd, F⟩ := c.def_ 26 (d := d_rank_up) rfl
  obtain ⟨oc, od, dV, kV, doc, pm, an, cdv, ct, osl, e1, e2, e3, e4, e5⟩ := F.ex
  rcases e4 with ⟨_, e4⟩ | ⟨e4, _⟩
  · subst e4
    exact ⟨_, fd, He.glo_ok X G (c.fact 26 (f := .glo "rank_up") rfl), ⟨⟨oc, od, kV, doc, pm, an, cdv, ct, osl, e1, e2, e3⟩, F.kp⟩, F.bindsN fun _ _ _ _ _ _ us hl => match us, hl with | [_, _, _, _], _ => rfl⟩
  · exact absurd rfl e4
theorem df_all_up (X : K.In h) (G : h.Ns mainGlobals mg) (c : He.SaysD faD fnD K) : Df K mg "all_up" s_all_up ["hall", "columns", "looks"] := by
  obtain ⟨fd, F⟩ := c.def_ 27 (d := d_all_up) rfl
  obtain ⟨oc, od, dV, kV, doc, pm, an, cdv, ct, osl, e1, e2, e3, e4, e5⟩ := F.ex
  rcases e4 with ⟨_, e4⟩ | ⟨e4, _⟩
  · subst e4
    exact ⟨_, fd, He.glo_ok X G (c.fact 27 (f := .glo "all_up") rfl), ⟨⟨oc, od, kV, doc, pm, an, cdv, ct, osl, e1, e2, e3⟩, F.kp⟩, F.bindsN fun _ _ _ _ _ _ us hl => match us, hl with | [_, _, _], _ => rfl⟩
  · exact absurd rfl e4
theorem df_all_steps (X : K.In h) (G : h.Ns mainGlobals mg) (c : He.SaysD faD fnD K) : Df K mg "all_steps" s_all_steps ["hall", "columns", "looks"] := by
  obtain ⟨fd, F⟩ := c.def_ 28 (d := d_all_steps) rfl
  obtain ⟨oc, od, dV, kV, doc, pm, an, cdv, ct, osl, e1, e2, e3, e4, e5⟩ := F.ex
  rcases e4 with ⟨_, e4⟩ | ⟨e4, _⟩
  · subst e4
    exact ⟨_, fd, He.glo_ok X G (c.fact 28 (f := .glo "all_steps") rfl), ⟨⟨oc, od, kV, doc, pm, an, cdv, ct, osl, e1, e2, e3⟩, F.kp⟩, F.bindsN fun _ _ _ _ _ _ us hl => match us, hl with | [_, _, _], _ => rfl⟩
  · exact absurd rfl e4
theorem df_steps_of (X : K.In h) (G : h.Ns mainGlobals mg) (c : He.SaysD faD fnD K) : Df K mg "steps_of" s_steps_of ["hall", "columns", "looks", "rank"] := by
  obtain ⟨fd, F⟩ := c.def_ 29 (d := d_steps_of) rfl
  obtain ⟨oc, od, dV, kV, doc, pm, an, cdv, ct, osl, e1, e2, e3, e4, e5⟩ := F.ex
  rcases e4 with ⟨_, e4⟩ | ⟨e4, _⟩
  · subst e4
    exact ⟨_, fd, He.glo_ok X G (c.fact 29 (f := .glo "steps_of") rfl), ⟨⟨oc, od, kV, doc, pm, an, cdv, ct, osl, e1, e2, e3⟩, F.kp⟩, F.bindsN fun _ _ _ _ _ _ us hl => match us, hl with | [_, _, _, _], _ => rfl⟩
  · exact absurd rfl e4
theorem df_stairs (X : K.In h) (G : h.Ns mainGlobals mg) (c : He.SaysD faD fnD K) : Df K mg "stairs" s_stairs ["hall", "book", "looks", "rank"] := by
  obtain ⟨fd, F⟩ := c.def_ 30 (d := d_stairs) rfl
  obtain ⟨oc, od, dV, kV, doc, pm, an, cdv, ct, osl, e1, e2, e3, e4, e5⟩ := F.ex
  rcases e4 with ⟨_, e4⟩ | ⟨e4, _⟩
  · subst e4
    exact ⟨_, fd, He.glo_ok X G (c.fact 30 (f := .glo "stairs") rfl), ⟨⟨oc, od, kV, doc, pm, an, cdv, ct, osl, e1, e2, e3⟩, F.kp⟩, F.bindsN fun _ _ _ _ _ _ us hl => match us, hl with | [_, _, _, _], _ => rfl⟩
  · exact absurd rfl e4
theorem df_ways_within (X : K.In h) (G : h.Ns mainGlobals mg) (c : He.SaysD faD fnD K) : Df K mg "ways_within" s_ways_within ["ways", "most", "start", "many"] := by
  obtain ⟨fd, F⟩ := c.def_ 31 (d := d_ways_within) rfl
  obtain ⟨oc, od, dV, kV, doc, pm, an, cdv, ct, osl, e1, e2, e3, e4, e5⟩ := F.ex
  rcases e4 with ⟨_, e4⟩ | ⟨e4, _⟩
  · subst e4
    exact ⟨_, fd, He.glo_ok X G (c.fact 31 (f := .glo "ways_within") rfl), ⟨⟨oc, od, kV, doc, pm, an, cdv, ct, osl, e1, e2, e3⟩, F.kp⟩, F.bindsN fun _ _ _ _ _ _ us hl => match us, hl with | [_, _, _, _], _ => rfl⟩
  · exact absurd rfl e4
theorem df_ways_to (X : K.In h) (G : h.Ns mainGlobals mg) (c : He.SaysD faD fnD K) : Df K mg "ways_to" s_ways_to ["steps", "most"] := by
  obtain ⟨fd, F⟩ := c.def_ 32 (d := d_ways_to) rfl
  obtain ⟨oc, od, dV, kV, doc, pm, an, cdv, ct, osl, e1, e2, e3, e4, e5⟩ := F.ex
  rcases e4 with ⟨_, e4⟩ | ⟨e4, _⟩
  · subst e4
    exact ⟨_, fd, He.glo_ok X G (c.fact 32 (f := .glo "ways_to") rfl), ⟨⟨oc, od, kV, doc, pm, an, cdv, ct, osl, e1, e2, e3⟩, F.kp⟩, F.bindsN fun _ _ _ _ _ _ us hl => match us, hl with | [_, _], _ => rfl⟩
  · exact absurd rfl e4
theorem df_all_ways (X : K.In h) (G : h.Ns mainGlobals mg) (c : He.SaysD faD fnD K) : Df K mg "all_ways" s_all_ways ["steps", "most"] := by
  obtain ⟨fd, F⟩ := c.def_ 33 (d := d_all_ways) rfl
  obtain ⟨oc, od, dV, kV, doc, pm, an, cdv, ct, osl, e1, e2, e3, e4, e5⟩ := F.ex
  rcases e4 with ⟨_, e4⟩ | ⟨e4, _⟩
  · subst e4
    exact ⟨_, fd, He.glo_ok X G (c.fact 33 (f := .glo "all_ways") rfl), ⟨⟨oc, od, kV, doc, pm, an, cdv, ct, osl, e1, e2, e3⟩, F.kp⟩, F.bindsN fun _ _ _ _ _ _ us hl => match us, hl with | [_, _], _ => rfl⟩
  · exact absurd rfl e4
theorem df_all_comings (X : K.In h) (G : h.Ns mainGlobals mg) (c : He.SaysD faD fnD K) : Df K mg "all_comings" s_all_comings ["hall", "every"] := by
  obtain ⟨fd, F⟩ := c.def_ 34 (d := d_all_comings) rfl
  obtain ⟨oc, od, dV, kV, doc, pm, an, cdv, ct, osl, e1, e2, e3, e4, e5⟩ := F.ex
  rcases e4 with ⟨_, e4⟩ | ⟨e4, _⟩
  · subst e4
    exact ⟨_, fd, He.glo_ok X G (c.fact 34 (f := .glo "all_comings") rfl), ⟨⟨oc, od, kV, doc, pm, an, cdv, ct, osl, e1, e2, e3⟩, F.kp⟩, F.bindsN fun _ _ _ _ _ _ us hl => match us, hl with | [_, _], _ => rfl⟩
  · exact absurd rfl e4
theorem df_how_many (X : K.In h) (G : h.Ns mainGlobals mg) (c : He.SaysD faD fnD K) : Df K mg "how_many" s_how_many ["hall", "book", "looks"] := by
  obtain ⟨fd, F⟩ := c.def_ 35 (d := d_how_many) rfl
  obtain ⟨oc, od, dV, kV, doc, pm, an, cdv, ct, osl, e1, e2, e3, e4, e5⟩ := F.ex
  rcases e4 with ⟨_, e4⟩ | ⟨e4, _⟩
  · subst e4
    exact ⟨_, fd, He.glo_ok X G (c.fact 35 (f := .glo "how_many") rfl), ⟨⟨oc, od, kV, doc, pm, an, cdv, ct, osl, e1, e2, e3⟩, F.kp⟩, F.bindsN fun _ _ _ _ _ _ us hl => match us, hl with | [_, _, _], _ => rfl⟩
  · exact absurd rfl e4
theorem df_how_many_of (X : K.In h) (G : h.Ns mainGlobals mg) (c : He.SaysD faD fnD K) : Df K mg "how_many_of" s_how_many_of ["hall", "book", "looks", "rank"] := by
  obtain ⟨fd, F⟩ := c.def_ 36 (d := d_how_many_of) rfl
  obtain ⟨oc, od, dV, kV, doc, pm, an, cdv, ct, osl, e1, e2, e3, e4, e5⟩ := F.ex
  rcases e4 with ⟨_, e4⟩ | ⟨e4, _⟩
  · subst e4
    exact ⟨_, fd, He.glo_ok X G (c.fact 36 (f := .glo "how_many_of") rfl), ⟨⟨oc, od, kV, doc, pm, an, cdv, ct, osl, e1, e2, e3⟩, F.kp⟩, F.bindsN fun _ _ _ _ _ _ us hl => match us, hl with | [_, _, _, _], _ => rfl⟩
  · exact absurd rfl e4
theorem df__law_well (X : K.In h) (G : h.Ns mainGlobals mg) (c : He.SaysD faD fnD K) : Df K mg "_law_well" s__law_well ["cell", "turn"] := by
  obtain ⟨fd, F⟩ := c.def_ 37 (d := d__law_well) rfl
  obtain ⟨oc, od, dV, kV, doc, pm, an, cdv, ct, osl, e1, e2, e3, e4, e5⟩ := F.ex
  rcases e4 with ⟨_, e4⟩ | ⟨e4, _⟩
  · subst e4
    exact ⟨_, fd, He.glo_ok X G (c.fact 37 (f := .glo "_law_well") rfl), ⟨⟨oc, od, kV, doc, pm, an, cdv, ct, osl, e1, e2, e3⟩, F.kp⟩, F.bindsN fun _ _ _ _ _ _ us hl => match us, hl with | [_, _], _ => rfl⟩
  · exact absurd rfl e4
theorem df__law_take (X : K.In h) (G : h.Ns mainGlobals mg) (c : He.SaysD faD fnD K) : Df K mg "_law_take" s__law_take ["bag", "many"] := by
  obtain ⟨fd, F⟩ := c.def_ 38 (d := d__law_take) rfl
  obtain ⟨oc, od, dV, kV, doc, pm, an, cdv, ct, osl, e1, e2, e3, e4, e5⟩ := F.ex
  rcases e4 with ⟨_, e4⟩ | ⟨e4, _⟩
  · subst e4
    exact ⟨_, fd, He.glo_ok X G (c.fact 38 (f := .glo "_law_take") rfl), ⟨⟨oc, od, kV, doc, pm, an, cdv, ct, osl, e1, e2, e3⟩, F.kp⟩, F.bindsN fun _ _ _ _ _ _ us hl => match us, hl with | [_, _], _ => rfl⟩
  · exact absurd rfl e4
theorem df__law_bags (X : K.In h) (G : h.Ns mainGlobals mg) (c : He.SaysD faD fnD K) : Df K mg "_law_bags" s__law_bags ["script", "most"] := by
  obtain ⟨fd, F⟩ := c.def_ 39 (d := d__law_bags) rfl
  obtain ⟨oc, od, dV, kV, doc, pm, an, cdv, ct, osl, e1, e2, e3, e4, e5⟩ := F.ex
  rcases e4 with ⟨_, e4⟩ | ⟨e4, _⟩
  · subst e4
    exact ⟨_, fd, He.glo_ok X G (c.fact 39 (f := .glo "_law_bags") rfl), ⟨⟨oc, od, kV, doc, pm, an, cdv, ct, osl, e1, e2, e3⟩, F.kp⟩, F.bindsN fun _ _ _ _ _ _ us hl => match us, hl with | [_, _], _ => rfl⟩
  · exact absurd rfl e4
theorem df__law_some (X : K.In h) (G : h.Ns mainGlobals mg) (c : He.SaysD faD fnD K) : Df K mg "_law_some" s__law_some ["bag", "ranks1"] := by
  obtain ⟨fd, F⟩ := c.def_ 40 (d := d__law_some) rfl
  obtain ⟨oc, od, dV, kV, doc, pm, an, cdv, ct, osl, e1, e2, e3, e4, e5⟩ := F.ex
  rcases e4 with ⟨_, e4⟩ | ⟨e4, _⟩
  · subst e4
    exact ⟨_, fd, He.glo_ok X G (c.fact 40 (f := .glo "_law_some") rfl), ⟨⟨oc, od, kV, doc, pm, an, cdv, ct, osl, e1, e2, e3⟩, F.kp⟩, F.bindsN fun _ _ _ _ _ _ us hl => match us, hl with | [_, _], _ => rfl⟩
  · exact absurd rfl e4
theorem df__law_hall (X : K.In h) (G : h.Ns mainGlobals mg) (c : He.SaysD faD fnD K) : Df K mg "_law_hall" s__law_hall ["bag", "ranks1", "desks1", "most", "stay1", "alike"] := by
  obtain ⟨fd, F⟩ := c.def_ 41 (d := d__law_hall) rfl
  obtain ⟨oc, od, dV, kV, doc, pm, an, cdv, ct, osl, e1, e2, e3, e4, e5⟩ := F.ex
  rcases e4 with ⟨_, e4⟩ | ⟨e4, _⟩
  · subst e4
    exact ⟨_, fd, He.glo_ok X G (c.fact 41 (f := .glo "_law_hall") rfl), ⟨⟨oc, od, kV, doc, pm, an, cdv, ct, osl, e1, e2, e3⟩, F.kp⟩, F.bindsN fun _ _ _ _ _ _ us hl => match us, hl with | [_, _, _, _, _, _], _ => rfl⟩
  · exact absurd rfl e4
theorem df__law_comings (X : K.In h) (G : h.Ns mainGlobals mg) (c : He.SaysD faD fnD K) : Df K mg "_law_comings" s__law_comings ["bag", "hall", "ticks1"] := by
  obtain ⟨fd, F⟩ := c.def_ 42 (d := d__law_comings) rfl
  obtain ⟨oc, od, dV, kV, doc, pm, an, cdv, ct, osl, e1, e2, e3, e4, e5⟩ := F.ex
  rcases e4 with ⟨_, e4⟩ | ⟨e4, _⟩
  · subst e4
    exact ⟨_, fd, He.glo_ok X G (c.fact 42 (f := .glo "_law_comings") rfl), ⟨⟨oc, od, kV, doc, pm, an, cdv, ct, osl, e1, e2, e3⟩, F.kp⟩, F.bindsN fun _ _ _ _ _ _ us hl => match us, hl with | [_, _, _], _ => rfl⟩
  · exact absurd rfl e4
theorem df__law_order (X : K.In h) (G : h.Ns mainGlobals mg) (c : He.SaysD faD fnD K) : Df K mg "_law_order" s__law_order ["desk", "waiting1", "order"] := by
  obtain ⟨fd, F⟩ := c.def_ 43 (d := d__law_order) rfl
  obtain ⟨oc, od, dV, kV, doc, pm, an, cdv, ct, osl, e1, e2, e3, e4, e5⟩ := F.ex
  rcases e4 with ⟨_, e4⟩ | ⟨e4, _⟩
  · subst e4
    exact ⟨_, fd, He.glo_ok X G (c.fact 43 (f := .glo "_law_order") rfl), ⟨⟨oc, od, kV, doc, pm, an, cdv, ct, osl, e1, e2, e3⟩, F.kp⟩, F.bindsN fun _ _ _ _ _ _ us hl => match us, hl with | [_, _, _], _ => rfl⟩
  · exact absurd rfl e4
theorem df__law_run_by (X : K.In h) (G : h.Ns mainGlobals mg) (c : He.SaysD faD fnD K) : Df K mg "_law_run_by" s__law_run_by ["hall", "comings", "order"] := by
  obtain ⟨fd, F⟩ := c.def_ 44 (d := d__law_run_by) rfl
  obtain ⟨oc, od, dV, kV, doc, pm, an, cdv, ct, osl, e1, e2, e3, e4, e5⟩ := F.ex
  rcases e4 with ⟨_, e4⟩ | ⟨e4, _⟩
  · subst e4
    exact ⟨_, fd, He.glo_ok X G (c.fact 44 (f := .glo "_law_run_by") rfl), ⟨⟨oc, od, kV, doc, pm, an, cdv, ct, osl, e1, e2, e3⟩, F.kp⟩, F.bindsN fun _ _ _ _ _ _ us hl => match us, hl with | [_, _, _], _ => rfl⟩
  · exact absurd rfl e4
theorem df__law_run (X : K.In h) (G : h.Ns mainGlobals mg) (c : He.SaysD faD fnD K) : Df K mg "_law_run" s__law_run ["hall", "comings"] := by
  obtain ⟨fd, F⟩ := c.def_ 45 (d := d__law_run) rfl
  obtain ⟨oc, od, dV, kV, doc, pm, an, cdv, ct, osl, e1, e2, e3, e4, e5⟩ := F.ex
  rcases e4 with ⟨_, e4⟩ | ⟨e4, _⟩
  · subst e4
    exact ⟨_, fd, He.glo_ok X G (c.fact 45 (f := .glo "_law_run") rfl), ⟨⟨oc, od, kV, doc, pm, an, cdv, ct, osl, e1, e2, e3⟩, F.kp⟩, F.bindsN fun _ _ _ _ _ _ us hl => match us, hl with | [_, _], _ => rfl⟩
  · exact absurd rfl e4
theorem df__law_own (X : K.In h) (G : h.Ns mainGlobals mg) (c : He.SaysD faD fnD K) : Df K mg "_law_own" s__law_own ["bag", "hall", "ticks1"] := by
  obtain ⟨fd, F⟩ := c.def_ 46 (d := d__law_own) rfl
  obtain ⟨oc, od, dV, kV, doc, pm, an, cdv, ct, osl, e1, e2, e3, e4, e5⟩ := F.ex
  rcases e4 with ⟨_, e4⟩ | ⟨e4, _⟩
  · subst e4
    exact ⟨_, fd, He.glo_ok X G (c.fact 46 (f := .glo "_law_own") rfl), ⟨⟨oc, od, kV, doc, pm, an, cdv, ct, osl, e1, e2, e3⟩, F.kp⟩, F.bindsN fun _ _ _ _ _ _ us hl => match us, hl with | [_, _, _], _ => rfl⟩
  · exact absurd rfl e4
theorem df__law_moved (X : K.In h) (G : h.Ns mainGlobals mg) (c : He.SaysD faD fnD K) : Df K mg "_law_moved" s__law_moved ["hall", "book", "by", "first"] := by
  obtain ⟨fd, F⟩ := c.def_ 47 (d := d__law_moved) rfl
  obtain ⟨oc, od, dV, kV, doc, pm, an, cdv, ct, osl, e1, e2, e3, e4, e5⟩ := F.ex
  rcases e4 with ⟨_, e4⟩ | ⟨e4, _⟩
  · subst e4
    exact ⟨_, fd, He.glo_ok X G (c.fact 47 (f := .glo "_law_moved") rfl), ⟨⟨oc, od, kV, doc, pm, an, cdv, ct, osl, e1, e2, e3⟩, F.kp⟩, F.bindsN fun _ _ _ _ _ _ us hl => match us, hl with | [_, _, _, _], _ => rfl⟩
  · exact absurd rfl e4
theorem blt_ok (X : K.In h) (G : h.Ns mainGlobals mg) (c : He.SaysD faD fnD K) : Blt2 mg :=
  { len_ := He.free_ok X G (c.fact 57 (f := .free "len") rfl), sum_ := He.free_ok X G (c.fact 58 (f := .free "sum") rfl), all_ := He.free_ok X G (c.fact 59 (f := .free "all") rfl), any_ := He.free_ok X G (c.fact 60 (f := .free "any") rfl), tuple_ := He.free_ok X G (c.fact 61 (f := .free "tuple") rfl), list_ := He.free_ok X G (c.fact 62 (f := .free "list") rfl), sorted_ := He.free_ok X G (c.fact 63 (f := .free "sorted") rfl), max_ := He.free_ok X G (c.fact 64 (f := .free "max") rfl), min_ := He.free_ok X G (c.fact 65 (f := .free "min") rfl), range_ := He.free_ok X G (c.fact 66 (f := .free "range") rfl), zip_ := He.free_ok X G (c.fact 67 (f := .free "zip") rfl), enumerate_ := He.free_ok X G (c.fact 68 (f := .free "enumerate") rfl), reversed_ := He.free_ok X G (c.fact 69 (f := .free "reversed") rfl), set_ := He.free_ok X G (c.fact 70 (f := .free "set") rfl), isinstance_ := He.free_ok X G (c.fact 71 (f := .free "isinstance") rfl), int_ := He.free_ok X G (c.fact 72 (f := .free "int") rfl), bool_ := He.free_ok X G (c.fact 73 (f := .free "bool") rfl), str_ := He.free_ok X G (c.fact 74 (f := .free "str") rfl), type_ := He.free_ok X G (c.fact 75 (f := .free "type") rfl) }
theorem all_ok (X : K.In h) (G : h.Ns mainGlobals mg) (c : He.SaysD faD fnD K) (ca : accB K = true) : ∃ (f : Addr) (fd : FuncData), mg "law" = some (.ref f) ∧ (∀ (s : Shared) (v : Value), BindsTo s fd ⟨[v], []⟩ [("script", v)]) ∧ ∀ base : Heap, FnOk P w K mg base CX0 20 f fd ["script"] (spF 1 F_law) := by
  have Z : Blt2 mg := blt_ok X G c
  have Y : Imps mg := ⟨PySem.W.mg_of X G (He.eqO_ok (Bool.and_eq_true_iff.mp ca).2)⟩
  have g_BUSY : ∃ t, mg "BUSY" = some (.int (-1) t) := He.int_ok X G (c.fact 49 (f := .int "BUSY" (-1)) rfl)
  have g_NOBODY : ∃ t, mg "NOBODY" = some (.int (4) t) := He.int_ok X G (c.fact 50 (f := .int "NOBODY" (4)) rfl)
  have g_DESKS_AT_MOST : ∃ t, mg "DESKS_AT_MOST" = some (.int (3) t) := He.int_ok X G (c.fact 51 (f := .int "DESKS_AT_MOST" (3)) rfl)
  have g_RANKS_AT_MOST : ∃ t, mg "RANKS_AT_MOST" = some (.int (4) t) := He.int_ok X G (c.fact 52 (f := .int "RANKS_AT_MOST" (4)) rfl)
  have g_STAY_AT_MOST : ∃ t, mg "STAY_AT_MOST" = some (.int (10) t) := He.int_ok X G (c.fact 53 (f := .int "STAY_AT_MOST" (10)) rfl)
  have g_COME_AT_MOST : ∃ t, mg "COME_AT_MOST" = some (.int (5) t) := He.int_ok X G (c.fact 54 (f := .int "COME_AT_MOST" (5)) rfl)
  have g_TICKS_AT_MOST : ∃ t, mg "TICKS_AT_MOST" = some (.int (40) t) := He.int_ok X G (c.fact 55 (f := .int "TICKS_AT_MOST" (40)) rfl)
  have g_LOOKS_AT_MOST : ∃ t, mg "LOOKS_AT_MOST" = some (.int (6) t) := He.int_ok X G (c.fact 56 (f := .int "LOOKS_AT_MOST" (6)) rfl)
  have h_is_whole := fun base : Heap => fn_is_whole (P := P) (w := w) (base := base) (df_is_whole X G c) Z Y
  have h_are_whole := fun base : Heap => fn_are_whole (P := P) (w := w) (base := base) (df_are_whole X G c) Z Y (h_is_whole base)
  have h_is_from_to := fun base : Heap => fn_is_from_to (P := P) (w := w) (base := base) (df_is_from_to X G c) Z Y (h_is_whole base)
  have h_is_tuple := fun base : Heap => fn_is_tuple (P := P) (w := w) (base := base) (df_is_tuple X G c) Z Y
  have h_are_rows := fun base : Heap => fn_are_rows (P := P) (w := w) (base := base) (df_are_rows X G c) Z Y (h_is_tuple base)
  have h_is_rising := fun base : Heap => fn_is_rising (P := P) (w := w) (base := base) (df_is_rising X G c) Z Y
  have h_is_column := fun base : Heap => fn_is_column (P := P) (w := w) (base := base) (df_is_column X G c) Z Y (h_is_whole base)
  have h_turns_of := fun base : Heap => fn_turns_of (P := P) (w := w) (base := base) (df_turns_of X G c) Z Y g_BUSY g_NOBODY
  have h_all_stays := fun base : Heap => fn_all_stays (P := P) (w := w) (base := base) (df_all_stays X G c) Z Y
  have h_all_turns := fun base : Heap => fn_all_turns (P := P) (w := w) (base := base) (df_all_turns X G c) Z Y (h_all_stays base) (h_turns_of base)
  have h__are_desks := fun base : Heap => fn__are_desks (P := P) (w := w) (base := base) (df__are_desks X G c) Z Y (h_is_tuple base) (h_is_whole base) g_DESKS_AT_MOST
  have h__are_ranks := fun base : Heap => fn__are_ranks (P := P) (w := w) (base := base) (df__are_ranks X G c) Z Y (h_is_tuple base) (h_are_whole base) g_RANKS_AT_MOST g_STAY_AT_MOST g_COME_AT_MOST
  have h_is_hall := fun base : Heap => fn_is_hall (P := P) (w := w) (base := base) (df_is_hall X G c) Z Y (h_is_tuple base) (h__are_desks base) (h__are_ranks base)
  have h_columns_of := fun base : Heap => fn_columns_of (P := P) (w := w) (base := base) (df_columns_of X G c) Z Y (h_are_rows base) (h_all_stays base) (h_is_column base) g_TICKS_AT_MOST
  have h_need_hall := fun base : Heap => fn_need_hall (P := P) (w := w) (base := base) (df_need_hall X G c) Z Y (h_is_hall base)
  have h_need_book := fun base : Heap => fn_need_book (P := P) (w := w) (base := base) (df_need_book X G c) Z Y (h_columns_of base)
  have h__are_looks_of := fun base : Heap => fn__are_looks_of (P := P) (w := w) (base := base) (df__are_looks_of X G c) Z Y (h_is_tuple base) (h_is_rising base) g_LOOKS_AT_MOST
  have h_need_looks := fun base : Heap => fn_need_looks (P := P) (w := w) (base := base) (df_need_looks X G c) Z Y (h__are_looks_of base)
  have h_need_written := fun base : Heap => fn_need_written (P := P) (w := w) (base := base) (df_need_written X G c) Z Y (h_need_hall base) (h_need_book base) (h_need_looks base)
  have h_need_rank := fun base : Heap => fn_need_rank (P := P) (w := w) (base := base) (df_need_rank X G c) Z Y (h_is_from_to base)
  have h_told_of := fun base : Heap => fn_told_of (P := P) (w := w) (base := base) (df_told_of X G c) Z Y g_NOBODY
  have h_told_with := fun base : Heap => fn_told_with (P := P) (w := w) (base := base) (df_told_with X G c) Z Y
  have h_ranks_behind := fun base : Heap => fn_ranks_behind (P := P) (w := w) (base := base) (df_ranks_behind X G c) Z Y
  have h_steps_up := fun base : Heap => fn_steps_up (P := P) (w := w) (base := base) (df_steps_up X G c) Z Y
  have h_is_barred := fun base : Heap => fn_is_barred (P := P) (w := w) (base := base) (df_is_barred X G c) Z Y
  have h_steps_down := fun base : Heap => fn_steps_down (P := P) (w := w) (base := base) (df_steps_down X G c) Z Y
  have h_rank_up := fun base : Heap => fn_rank_up (P := P) (w := w) (base := base) (df_rank_up X G c) Z Y (h_told_of base) (h_ranks_behind base) (h_steps_up base) (h_told_with base)
  have h_all_up := fun base : Heap => fn_all_up (P := P) (w := w) (base := base) (df_all_up X G c) Z Y (h_all_turns base) (h_rank_up base) (h_is_barred base)
  have h_all_steps := fun base : Heap => fn_all_steps (P := P) (w := w) (base := base) (df_all_steps X G c) Z Y (h_all_up base) (h_steps_down base)
  have h_steps_of := fun base : Heap => fn_steps_of (P := P) (w := w) (base := base) (df_steps_of X G c) Z Y (h_all_up base) (h_steps_down base)
  have h_stairs := fun base : Heap => fn_stairs (P := P) (w := w) (base := base) (df_stairs X G c) Z Y (h_need_written base) (h_need_rank base) (h_steps_of base)
  have h_ways_within := fun base : Heap => fn_ways_within (P := P) (w := w) (base := base) (df_ways_within X G c) Z Y
  have h_ways_to := fun base : Heap => fn_ways_to (P := P) (w := w) (base := base) (df_ways_to X G c) Z Y (h_ways_within base)
  have h_all_ways := fun base : Heap => fn_all_ways (P := P) (w := w) (base := base) (df_all_ways X G c) Z Y (h_ways_to base)
  have h_all_comings := fun base : Heap => fn_all_comings (P := P) (w := w) (base := base) (df_all_comings X G c) Z Y (h_all_ways base)
  have h_how_many := fun base : Heap => fn_how_many (P := P) (w := w) (base := base) (df_how_many X G c) Z Y (h_need_written base) (h_all_steps base) (h_all_comings base)
  have h_how_many_of := fun base : Heap => fn_how_many_of (P := P) (w := w) (base := base) (df_how_many_of X G c) Z Y (h_need_written base) (h_need_rank base) (h_steps_of base) (h_all_ways base)
  have h__law_well := fun base : Heap => fn__law_well (P := P) (w := w) (base := base) (df__law_well X G c) Z Y
  have h__law_take := fun base : Heap => fn__law_take (P := P) (w := w) (base := base) (df__law_take X G c) Z Y
  have h__law_bags := fun base : Heap => fn__law_bags (P := P) (w := w) (base := base) (df__law_bags X G c) Z Y (h__law_well base)
  have h__law_some := fun base : Heap => fn__law_some (P := P) (w := w) (base := base) (df__law_some X G c) Z Y (h__law_take base)
  have h__law_hall := fun base : Heap => fn__law_hall (P := P) (w := w) (base := base) (df__law_hall X G c) Z Y (h__law_take base) (h__law_some base)
  have h__law_comings := fun base : Heap => fn__law_comings (P := P) (w := w) (base := base) (df__law_comings X G c) Z Y (h__law_take base)
  have h__law_order := fun base : Heap => fn__law_order (P := P) (w := w) (base := base) (df__law_order X G c) Z Y
  have h__law_run_by := fun base : Heap => fn__law_run_by (P := P) (w := w) (base := base) (df__law_run_by X G c) Z Y (h__law_order base)
  have h__law_run := fun base : Heap => fn__law_run (P := P) (w := w) (base := base) (df__law_run X G c) Z Y (h__law_run_by base)
  have h__law_own := fun base : Heap => fn__law_own (P := P) (w := w) (base := base) (df__law_own X G c) Z Y (h__law_comings base) (h__law_run base)
  have h__law_moved := fun base : Heap => fn__law_moved (P := P) (w := w) (base := base) (df__law_moved X G c) Z Y
  obtain ⟨fd, F⟩ := c.def_ 48 (d := d_law) rfl
  have hb := FunD.bindsA (ps := ["script"]) F fun _ _ _ _ _ _ us hl => match us, hl with | [_], _ => rfl
  obtain ⟨oc, od, dV, kV, doc, pm, an, cdv, ct, osl, e1, e2, e3, e4, e5⟩ := F.ex
  rcases e4 with ⟨_, e4⟩ | ⟨e4, _⟩
  · subst e4
    exact ⟨_, fd, He.glo_ok X G (c.fact 48 (f := .glo "law") rfl), fun s v => hb s [v] rfl, fun base => (fn_law (P := P) (w := w) ⟨⟨oc, od, kV, doc, pm, an, cdv, ct, osl, e1, e2, e3⟩, F.kp⟩ Z Y h__law_bags h__law_hall h__law_take h__law_own h_how_many h__law_moved h_how_many_of h_stairs base).mono (by decide)⟩
  · exact absurd rfl e4
end
end Dn

set_option maxHeartbeats 1000000
/-! M0: working out what an expression, a statement is worth. -/
namespace Dn
open PySem PySem.Spec PyProof.Rows L2
theorem atI_0 {α : Type} (x : α) (xs : List α) : atI (x :: xs) 0 = some x := by
  have := atI_nat (xs := x :: xs) (j := 0) (v := x) rfl
  simpa using this
theorem atI_1 {α : Type} (x y : α) (xs : List α) : atI (x :: y :: xs) 1 = some y := by
  have := atI_nat (xs := x :: y :: xs) (j := 1) (v := y) rfl
  simpa using this
theorem atI_2 {α : Type} (x y z : α) (xs : List α) : atI (x :: y :: z :: xs) 2 = some z := by
  have := atI_nat (xs := x :: y :: z :: xs) (j := 2) (v := z) rfl
  simpa using this
theorem mBin_ev {g : D → D → Option D} {m n : Mo D} {env e1 e2 : DEnv} {x y z : D} (h1 : m env = some (x, e1)) (h2 : n e1 = some (y, e2)) (h3 : g x y = some z) : mBin g m n env = some (z, e2) := by
  simp [mBin, mBind, mLift, h1, h2, h3]
theorem mMap_ev {α β : Type} {g : α → Option β} {m : Mo α} {env e1 : DEnv} {x : α} {z : β} (h1 : m env = some (x, e1)) (h3 : g x = some z) : mMap g m env = some (z, e1) := by
  simp [mMap, mBind, mLift, h1, h3]
theorem mIf_ev {α : Type} {c : Mo Bool} {m n : Mo α} {env e1 : DEnv} {k : Bool} (h1 : c env = some (k, e1)) : mIf c m n env = if k = true then m e1 else n e1 := by
  unfold mIf mBind
  rw [h1]
  cases k <;> rfl
theorem sSeq_nx {F F' : So} {env e1 : DEnv} (h : F env = some (.nx e1)) : sSeq F F' env = F' e1 := by simp [sSeq, h]
theorem sSeq_rt {F F' : So} {env e1 : DEnv} {d : D} (h : F env = some (.rt d e1)) : sSeq F F' env = some (.rt d e1) := by simp [sSeq, h]
theorem sSet_ev {i : Nat} {m : Mo D} {env e1 : DEnv} {d : D} (h : m env = some (d, e1)) : sSet i m env = some (.nx (e1.set i (some (SV.fz d)))) := by simp [sSet, h]
theorem sRet_ev {m : Mo D} {env e1 : DEnv} {d : D} (h : m env = some (d, e1)) : sRet m env = some (.rt d e1) := by simp [sRet, h]
theorem sIf_t {c : Mo Bool} {F F' : So} {env e1 : DEnv} (h : c env = some (true, e1)) : sIf c F F' env = F e1 := by simp [sIf, h]
theorem sIf_f {c : Mo Bool} {F F' : So} {env e1 : DEnv} (h : c env = some (false, e1)) : sIf c F F' env = F' e1 := by simp [sIf, h]
theorem mLend_ev {m : Mo D} {env e1 : DEnv} {d : D} (h : m (lendE env) = some (d, e1)) (f : flatD d = true) : mLend m env = some (d, env) := by simp [mLend, h, f]
theorem mLendT_ev {m : Mo Bool} {env e1 : DEnv} {d : Bool} (h : m (lendE env) = some (d, e1)) : mLendT m env = some (d, env) := by simp [mLendT, h]
theorem mCons_ev {α : Type} {m : Mo α} {n : Mo (List α)} {env e1 e2 : DEnv} {x : α} {xs : List α} (h1 : m env = some (x, e1)) (h2 : n e1 = some (xs, e2)) : mCons m n env = some (x :: xs, e2) := by
  simp [mCons, mBind, mRet, h1, h2]
theorem sApp_ev {i : Nat} {m : Mo D} {env e1 : DEnv} {io : Bool} {ds : List D} {d : D} (h0 : ∃ p, ownAt env i = some p) (h : m env = some (d, e1)) (h1 : ownAt e1 i = some (io, ds)) (hl : ds.length < 100000) : sApp i m env = some (.nx (e1.set i (some (.ow io 0 (.list (ds ++ [d])))))) := by
  obtain ⟨p, h0⟩ := h0
  simp [sApp, h0, h, h1, hl]
theorem canLayAll_map {α : Type} {f : α → D} (h : ∀ a, (f a).canLay0 = true) : ∀ l : List α, PyData.canLayAll0 (l.map f) = true
  | [] => rfl
  | a :: l => by
    show ((f a).canLay0 && PyData.canLayAll0 (l.map f)) = true
    rw [h a, canLayAll_map h l]
    rfl
theorem depthAll_map {α : Type} {f : α → D} {k : Nat} (h : ∀ a, (f a).depth ≤ k) : ∀ l : List α, PyData.depthAll (l.map f) ≤ k
  | [] => Nat.zero_le _
  | a :: l => Nat.max_le.mpr ⟨h a, depthAll_map h l⟩
theorem shaped_ints (l : List Int) : SeqAt.shaped (.list (l.map PyData.int)) = true := by
  have h1 : PyData.canLayAll0 (l.map PyData.int) = true := canLayAll_map (fun _ => rfl) l
  have h2 : PyData.depthAll (l.map PyData.int) ≤ 0 := depthAll_map (fun a => Nat.le_of_eq (rfl : (PyData.int a).depth = 0)) l
  unfold SeqAt.shaped
  rw [Bool.and_eq_true]
  refine ⟨by simpa [PyData.canLay0] using h1, decide_eq_true ?_⟩
  show PyData.depthAll (l.map PyData.int) + 1 ≤ 64
  omega
theorem gNe_nil {l : List Int} (h : l ≠ []) : gNe (.list (l.map PyData.int)) (.list []) = some (.bool true) := by
  unfold gNe
  rw [shaped_ints, show SeqAt.shaped (.list []) = true from shaped_ints []]
  cases l with
  | nil => exact absurd rfl h
  | cons x l => rfl
theorem gNe_nil0 : gNe (.list []) (.list []) = some (.bool false) := by
  unfold gNe
  rw [show SeqAt.shaped (.list []) = true from shaped_ints []]
  rfl
theorem gEq_self {d : D} (h : SeqAt.shaped d = true) : gEq d d = some (.bool true) := by
  unfold gEq
  rw [h, SeqAt.eqv_refl d (SeqAt.canLay_of_shaped h)]
  rfl
theorem gNe_self {d : D} (h : SeqAt.shaped d = true) : gNe d d = some (.bool false) := by
  unfold gNe
  rw [h, SeqAt.eqv_refl d (SeqAt.canLay_of_shaped h)]
  rfl
theorem mLc_ev {items : Mo (List D)} {tgt : D → DEnv → Option DEnv} {test : Mo Bool} {elt : Mo D} {vs : List Nat} {env e1 e2 : DEnv} {ds ys : List D} (h1 : items env = some (ds, e1)) (h2 : ds.length ≤ 100000) (h3 : okW e1 vs = true) (h4 : lcGo tgt test elt vs ds (wipeD e1 vs) = some (ys, e2)) :
    mLc items tgt test elt vs env = some (ys, restD e1 e2 vs) := by
  unfold mLc
  rw [h1]
  simp only [decide_eq_true h2, h3, Bool.and_self, if_pos, h4]
theorem sFor_ev {items : Mo (List D)} {tgt : D → DEnv → Option DEnv} {body : So} {env e1 : DEnv} {ds : List D} (h1 : items env = some (ds, e1)) : sFor items tgt body env = forGo tgt body ds e1 := by
  unfold sFor
  rw [h1]
/-- for, by a state -/
theorem forGo_inv {S α : Type} {tgt : D → DEnv → Option DEnv} {body : So} (enc : α → D) (I : S → DEnv → Prop) (step : S → α → S) : ∀ (l : List α) (s : S) (e : DEnv), I s e →
    (∀ s a e, a ∈ l → I s e → ∃ e1 e2, tgt (enc a) e = some e1 ∧ body e1 = some (.nx e2) ∧ I (step s a) e2) → ∃ e', forGo tgt body (l.map enc) e = some (.nx e') ∧ I (l.foldl step s) e'
  | [], s, e, h, _ => ⟨e, rfl, h⟩
  | a :: l, s, e, h, hs => by
    obtain ⟨e1, e2, h1, h2, h3⟩ := hs s a e (by simp) h
    obtain ⟨e', h4, h5⟩ := forGo_inv enc I step l (step s a) e2 h3 fun s b e hb => hs s b e (by simp [hb])
    exact ⟨e', by simp only [List.map_cons, forGo, h1, h2, h4], h5⟩
end Dn

set_option maxHeartbeats 1000000
/-! M1: bags of draws. -/
namespace Dn
open PySem PySem.Spec PyProof.Rows L2
/-- a bag of draws, of which so many were taken at most -/
def Bag (n : Nat) (d : D) : Prop := ∃ a b c : Int, d = .list [.int a, .int b, .int c] ∧ 0 ≤ b ∧ b < 2305843009213693951 ∧ 0 ≤ c ∧ c ≤ n
theorem Bag.mono {m n : Nat} {d : D} (h : Bag m d) (k : m ≤ n) : Bag n d := by
  obtain ⟨a, b, c, e, h1, h2, h3, h4⟩ := h
  exact ⟨a, b, c, e, h1, h2, h3, by omega⟩
theorem ix3_0 : ixN 3 0 = some 0 := by decide
theorem ix3_2 : ixN 3 2 = some 2 := by decide
theorem take_ok {n : Nat} {d : D} (h : Bag n d) (hn : n < 1000000) {m : Int} (h0 : 0 < m) (h1 : m < 1000000) : ∃ (v : Int) (d' : D), F__law_take [d, .int m] = some (.int v, [d']) ∧ 0 ≤ v ∧ v < m ∧ Bag (n + 1) d' := by
  obtain ⟨a, b, c, rfl, hb0, hb1, hc0, hc1⟩ := h
  have h2 : m < 1073741824 := by omega
  by_cases ha : 0 < a
  · refine ⟨a % m, .list [.int (a / m), .int b, .int c], ?_, Int.emod_nonneg _ (by omega), Int.emod_lt_of_pos _ h0, ⟨_, _, _, rfl, hb0, hb1, hc0, by omega⟩⟩
    simp [F__law_take, B__law_take, sNil, envIO, argEnv, sSeq, sIf, mLendT, mLend, mMap, mBin, mBind, mLift, mRet, mVar, lendE, lendSV, gIx, atI_0, atI_1, atI_2, gGt, gCmp, gB, ha, sSet, sPut, sRet, gMod, gDiv, gInt, flatD, outIO, outsOf, h0, h2, ownAt, ix3_0, ix3_2]
  · have p0 : (0 : Int) < 2305843009213693951 := by decide
    have q1 : c.natAbs < 2 ^ 64 := by have : (2 : Nat) ^ 64 = 18446744073709551616 := by decide
                                      omega
    have q2 : (c + 1).natAbs < 2 ^ 64 := by have : (2 : Nat) ^ 64 = 18446744073709551616 := by decide
                                            omega
    obtain ⟨N1, hN1⟩ : ∃ N1 : Int, N1 = (b + 1000003 * (c + 1)) % 2305843009213693951 := ⟨_, rfl⟩
    have n10 : 0 ≤ N1 := by rw [hN1]; exact Int.emod_nonneg _ (by decide)
    have n11 : N1 < 2305843009213693951 := by rw [hN1]; exact Int.emod_lt_of_pos _ (by decide)
    obtain ⟨N2, hN2⟩ : ∃ N2 : Int, N2 = (N1 * N1 + 7919 * (c + 1) ^ 2 + 5) % 2305843009213693951 := ⟨_, rfl⟩
    have n20 : 0 ≤ N2 := by rw [hN2]; exact Int.emod_nonneg _ (by decide)
    have n21 : N2 < 2305843009213693951 := by rw [hN2]; exact Int.emod_lt_of_pos _ (by decide)
    have big : ∀ x : Int, 0 ≤ x → x < 2305843009213693951 * 2305843009213693951 → x.natAbs < 2 ^ 4000 := fun x hx hy => by
      have e : (2 : Nat) ^ 4000 = 2 ^ 122 * 2 ^ 3878 := by rw [← Nat.pow_add]
      have e2 : x.natAbs < 2 ^ 122 := by
        have : (2 : Nat) ^ 122 = 5316911983139663491615228241121378304 := by decide
        omega
      exact Nat.lt_of_lt_of_le e2 (Nat.pow_le_pow_right (by decide) (by decide))
    have r1 : ((1000003 : Int)).natAbs < 2 ^ 4000 := big _ (by decide) (by decide)
    have r2 : (c + 1).natAbs < 2 ^ 4000 := big _ (by omega) (by omega)
    have r3 : N1.natAbs < 2 ^ 4000 := big _ n10 (by omega)
    have r4 : ((7919 : Int)).natAbs < 2 ^ 4000 := big _ (by decide) (by decide)
    have c2 : (c + 1) ^ 2 < 10000000000000 := by
      have h : c + 1 ≤ 1000000 := by omega
      have : (c + 1) ^ 2 = (c + 1) * (c + 1) := by rw [Int.pow_succ, Int.pow_succ, Int.pow_zero, Int.one_mul]
      rw [this]
      exact Int.lt_of_le_of_lt (Int.mul_le_mul h h (by omega) (by decide)) (by decide)
    have c2' : 0 ≤ (c + 1) ^ 2 := Int.pow_nonneg (by omega)
    have r5 : ((c + 1) ^ 2).natAbs < 2 ^ 4000 := big _ c2' (by omega)
    have r6 : N2.natAbs < 2 ^ 64 := by
      have : (2 : Nat) ^ 64 = 18446744073709551616 := by decide
      omega
    refine ⟨N2 ^ 3 % 2305843009213693951 / 13 % m, .list [.int a, .int b, .int (c + 1)], ?_, Int.emod_nonneg _ (by omega), Int.emod_lt_of_pos _ h0, ⟨_, _, _, rfl, hb0, hb1, by omega, by omega⟩⟩
    have ha' : ¬ 0 < a := ha
    have g1 : gMulB (.int 1000003) (.int (c + 1)) = some (.int (1000003 * (c + 1))) := by simp only [gMulB, gInt, if_pos (And.intro r1 r2), Option.map_some]
    have g2 : gMulB (.int N1) (.int N1) = some (.int (N1 * N1)) := by simp only [gMulB, gInt, if_pos (And.intro r3 r3), Option.map_some]
    have g3 : gMulB (.int 7919) (.int ((c + 1) ^ 2)) = some (.int (7919 * (c + 1) ^ 2)) := by simp only [gMulB, gInt, if_pos (And.intro r4 r5), Option.map_some]
    have g4 : gPow (.int (c + 1)) (.int 2) = some (.int ((c + 1) ^ 2)) := by
      simp only [gPow, gInt]
      rw [if_pos ⟨by decide, by decide, q2⟩]
      rfl
    have g5 : gPow (.int N2) (.int 3) = some (.int (N2 ^ 3)) := by
      simp only [gPow, gInt]
      rw [if_pos ⟨by decide, by decide, r6⟩]
      rfl
    simp [F__law_take, B__law_take, sNil, envIO, argEnv, sSeq, sIf, mLendT, mLend, mMap, mBin, mBind, mLift, mRet, mVar, lendE, lendSV, gIx, atI_0, atI_1, atI_2, gGt, gCmp, gB, ha', sSet, sPut, sRet, gMod, gDiv, gAdd, gInt, flatD, outIO, outsOf, h0, h2, ownAt, ix3_0, ix3_2, g1, g2, g3, g4, g5, ← hN1, ← hN2, p0]
end Dn

set_option maxHeartbeats 1000000
/-! M2: draws within defs; some ranks, a hall. -/
namespace Dn
open PySem PySem.Spec PyProof.Rows L2
theorem mTake_ev {i n : Nat} {env : DEnv} {io : Bool} {bag : D} {mA : Mo D} {m : Int} (h : env[i]? = some (some (SV.ow io 0 bag))) (hm : mA env = some (.int m, env)) (hb : Bag n bag) (hn : n < 1000000) (h0 : 0 < m) (h1 : m < 1000000) :
    ∃ (v : Int) (bag' : D), mCallIO [some 0, none] F__law_take (mIo i (mCons (mMap (fun d => some (AR.fz d)) mA) (mRet []))) env = some (.int v, env.set i (some (.ow io 0 bag'))) ∧ 0 ≤ v ∧ v < m ∧ Bag (n + 1) bag' := by
  obtain ⟨v, bag', e, v0, v1, b⟩ := take_ok hb hn h0 h1
  refine ⟨v, bag', ?_, v0, v1, b⟩
  have e1 : mIo i (mCons (mMap (fun d => some (AR.fz d)) mA) (mRet [])) env = some ([AR.io i, AR.fz (.int m)], env) := by
    simp [mIo, h, mCons, mBind, mMap, mLift, mRet, hm]
  unfold mCallIO
  simp [e1, iosOf, argsOf, h, e, putOuts]
theorem forGo_ex {tgt : D → DEnv → Option DEnv} {body : So} (I : Nat → DEnv → Prop) : ∀ (ds : List D) (n : Nat) (e : DEnv), I n e →
    (∀ m d e, d ∈ ds → m < n + ds.length → I m e → ∃ e1 e2, tgt d e = some e1 ∧ body e1 = some (.nx e2) ∧ I (m + 1) e2) → ∃ e', forGo tgt body ds e = some (.nx e') ∧ I (n + ds.length) e'
  | [], n, e, h, _ => ⟨e, rfl, h⟩
  | d :: ds, n, e, h, hs => by
    obtain ⟨e1, e2, h1, h2, h3⟩ := hs n d e (by simp) (by simp) h
    obtain ⟨e', h4, h5⟩ := forGo_ex I ds (n + 1) e2 h3 fun m d e hd hm => hs m d e (by simp [hd]) (by rw [List.length_cons]; omega)
    exact ⟨e', by simp only [forGo, h1, h2, h4], by rw [List.length_cons, show n + (ds.length + 1) = n + 1 + ds.length by omega]; exact h5⟩
/-- a comprehension that keeps some of what it walks -/
theorem lcGo_sub {tgt : D → DEnv → Option DEnv} {test : Mo Bool} {elt : Mo D} {vs : List Nat} (I : Nat → DEnv → Prop) (f : D → D) : ∀ (ds : List D) (n : Nat) (e : DEnv), I n e →
    (∀ m d e, d ∈ ds → m < n + ds.length → I m e → ∃ e1 b e2, tgt d e = some e1 ∧ test e1 = some (b, e2) ∧ I (m + 1) (wipeD e2 vs) ∧ (b = true → ∃ e3, elt e2 = some (f d, e3) ∧ I (m + 1) (wipeD e3 vs))) →
    ∃ ys e', lcGo tgt test elt vs ds e = some (ys, e') ∧ I (n + ds.length) e' ∧ ys.Sublist (ds.map f)
  | [], n, e, h, _ => ⟨[], e, rfl, h, List.Sublist.refl _⟩
  | d :: ds, n, e, h, hs => by
    obtain ⟨e1, b, e2, h1, h2, h3, h4⟩ := hs n d e (by simp) (by simp) h
    have ln : n + (d :: ds).length = n + 1 + ds.length := by rw [List.length_cons]; omega
    cases b with
    | false =>
      obtain ⟨ys, e', k1, k2, k3⟩ := lcGo_sub I f ds (n + 1) _ h3 fun m d e hd hm => hs m d e (by simp [hd]) (by rw [List.length_cons]; omega)
      exact ⟨ys, e', by simp [lcGo, h1, h2, k1], by rw [ln]; exact k2, by rw [List.map_cons]; exact k3.cons _⟩
    | true =>
      obtain ⟨e3, h5, h6⟩ := h4 rfl
      obtain ⟨ys, e', k1, k2, k3⟩ := lcGo_sub I f ds (n + 1) _ h6 fun m d e hd hm => hs m d e (by simp [hd]) (by rw [List.length_cons]; omega)
      exact ⟨f d :: ys, e', by simp [lcGo, h1, h2, h5, k1], by rw [ln]; exact k2, by rw [List.map_cons]; exact k3.cons₂ _⟩
/-- .. that keeps all -/
theorem lcGo_all {tgt : D → DEnv → Option DEnv} {test : Mo Bool} {elt : Mo D} {vs : List Nat} (I : Nat → DEnv → Prop) (R : D → D → Prop) : ∀ (ds : List D) (n : Nat) (e : DEnv), I n e →
    (∀ m d e, d ∈ ds → m < n + ds.length → I m e → ∃ e1 e2 y e3, tgt d e = some e1 ∧ test e1 = some (true, e2) ∧ elt e2 = some (y, e3) ∧ R d y ∧ I (m + 1) (wipeD e3 vs)) →
    ∃ ys e', lcGo tgt test elt vs ds e = some (ys, e') ∧ I (n + ds.length) e' ∧ Paired R ds ys
  | [], n, e, h, _ => ⟨[], e, rfl, h, .nil⟩
  | d :: ds, n, e, h, hs => by
    obtain ⟨e1, e2, y, e3, h1, h2, h3, h4, h5⟩ := hs n d e (by simp) (by simp) h
    obtain ⟨ys, e', k1, k2, k3⟩ := lcGo_all I R ds (n + 1) _ h5 fun m d e hd hm => hs m d e (by simp [hd]) (by rw [List.length_cons]; omega)
    exact ⟨y :: ys, e', by simp [lcGo, h1, h2, h3, k1], by rw [List.length_cons, show n + (ds.length + 1) = n + 1 + ds.length by omega]; exact k2, .cons h4 k3⟩
/-- ranks of a desk: rising, all below -/
def DeskOk (many : Nat) (d : List Int) : Prop := d ≠ [] ∧ d.Pairwise (· < ·) ∧ ∀ r ∈ d, 0 ≤ r ∧ r < many
abbrev encI (d : List Int) : List D := d.map PyData.int
theorem rangeD_ints (n : Nat) : rangeD 0 n = encI ((List.range n).map fun (i : Nat) => (i : Int)) := by
  unfold rangeD encI
  rw [List.map_map]
  congr 1
  funext i
  simp
theorem range_rising (n : Nat) : ((List.range n).map fun (i : Nat) => (i : Int)).Pairwise (· < ·) := by
  rw [List.pairwise_map]
  exact List.Pairwise.imp (fun h => by omega) List.pairwise_lt_range
theorem range_below (n : Nat) : ∀ r ∈ (List.range n).map (fun (i : Nat) => (i : Int)), 0 ≤ r ∧ r < n := fun r hr => by
  obtain ⟨i, hi, rfl⟩ := List.mem_map.mp hr
  have := List.mem_range.mp hi
  omega
theorem some_ok {n : Nat} {bag : D} (hb : Bag n bag) (hn : n + 10 < 1000000) {many : Nat} (h1 : 1 ≤ many) (h4 : many ≤ 4) :
    ∃ (d : List Int) (bag' : D), F__law_some [bag, .int many] = some (.tuple (encI d), [bag']) ∧ DeskOk many d ∧ Bag (n + 5) bag' := by
  have hL : ∃ ys e', lcGo (gNm 3) (mMap gB (mBin gGt (mCallIO [some 0, none] F__law_take (mIo 0 (mCons (mMap (fun d => some (AR.fz d)) (mRet (.int 4))) (mRet [])))) (mRet (.int 0)))) (mVar 3) [3] (rangeD 0 many) (wipeD [some (SV.ow true 0 bag), some (SV.fz (.int many)), none, none] [3]) = some (ys, e') ∧
      (∃ b', e' = [some (SV.ow true 0 b'), some (SV.fz (.int many)), none, none] ∧ Bag (n + (0 + (rangeD 0 many).length)) b') ∧ ys.Sublist ((rangeD 0 many).map id) := by
    refine lcGo_sub (fun k e => ∃ b', e = [some (SV.ow true 0 b'), some (SV.fz (.int many)), none, none] ∧ Bag (n + k) b') id (rangeD 0 many) 0 _ ⟨bag, rfl, hb⟩ fun k d e hd hkl ⟨b', he, hb'⟩ => ?_
    subst he
    have hk : n + k < 1000000 := by
      rw [rangeD_len] at hkl
      omega
    obtain ⟨v, b2, e1, v0, v1, hb2⟩ := mTake_ev (i := 0) (env := [some (SV.ow true 0 b'), some (SV.fz (.int many)), none, some (SV.fz d)]) (mA := mRet (.int 4)) (m := 4) rfl rfl hb' hk (by decide) (by decide)
    refine ⟨_, decide (0 < v), [some (SV.ow true 0 b2), some (SV.fz (.int many)), none, some (SV.fz d)], rfl, ?_, ⟨b2, rfl, hb2⟩, fun _ => ⟨[some (SV.ow true 0 b2), some (SV.fz (.int many)), none, some (SV.fz d)], rfl, ⟨b2, rfl, hb2⟩⟩⟩
    show mMap gB (mBin gGt _ _) [some (SV.ow true 0 b'), some (SV.fz (.int many)), none, some (SV.fz d)] = _
    exact mMap_ev (mBin_ev e1 rfl rfl) rfl
  obtain ⟨ys, e', hl, ⟨b2, he', hb2⟩, hsub⟩ := hL
  rw [List.map_id, rangeD_ints] at hsub
  rw [rangeD_len, Nat.zero_add] at hb2
  obtain ⟨l, hl1, hl2⟩ := List.sublist_map_iff.mp hsub
  subst hl2
  have hm4 : (many : Int) < 4611686018427387904 := by omega
  have hrg : gRg1 [.int (many : Int)] = some (rangeD 0 many) := by
    unfold gRg1
    simp only [Int.toNat_natCast]
    rw [if_pos ⟨by omega, by have : (2 : Int) ^ 62 = 4611686018427387904 := by decide
                             omega⟩]
  have hc : mMap (fun ds => some (PyData.list ds)) (mLc (mMap gRg1 (mCons (mVar 1) (mRet []))) (gNm 3) (mMap gB (mBin gGt (mCallIO [some 0, none] F__law_take (mIo 0 (mCons (mMap (fun d => some (AR.fz d)) (mRet (.int 4))) (mRet [])))) (mRet (.int 0)))) (mVar 3) [3])
      [some (SV.ow true 0 bag), some (SV.fz (.int many)), none, none] = some (.list (l.map PyData.int), [some (SV.ow true 0 b2), some (SV.fz (.int many)), none, none]) := by
    have e1 : mMap gRg1 (mCons (mVar 1) (mRet [])) [some (SV.ow true 0 bag), some (SV.fz (.int many)), none, none] = some (rangeD 0 many, [some (SV.ow true 0 bag), some (SV.fz (.int many)), none, none]) := mMap_ev rfl hrg
    have e2 := mLc_ev e1 (by rw [rangeD_len]; omega) rfl hl
    rw [he'] at e2
    exact mMap_ev e2 rfl
  by_cases hne : l = []
  · subst hne
    obtain ⟨v, b3, e3, v0, v1, hb3⟩ := mTake_ev (i := 0) (env := [some (SV.ow true 0 b2), some (SV.fz (.int many)), some (SV.fz (.list [])), none]) (mA := mVar 1) (m := many) rfl rfl hb2 (by omega) (by omega) (by omega)
    refine ⟨[v], b3, ?_, ⟨by simp, by simp, by simpa using ⟨v0, v1⟩⟩, hb3.mono (by omega)⟩
    unfold F__law_some B__law_some
    rw [show envIO ["bag", "ranks1", "found", "rank"] [some 0, none] [bag, .int (many : Int)] = [some (SV.ow true 0 bag), some (SV.fz (.int many)), none, none] from rfl]
    rw [sSeq_nx (sSet_ev hc)]
    rw [sSeq_rt (sRet_ev (d := .tuple [.int v]) (e1 := [some (SV.ow true 0 b3), some (SV.fz (.int many)), some (SV.fz (.list [])), none]) ?_)]
    · rfl
    · rw [mIf_ev (k := false) (e1 := [some (SV.ow true 0 b2), some (SV.fz (.int many)), some (SV.fz (.list [])), none]) (mMap_ev (mBin_ev (x := .list []) (y := .list []) rfl rfl gNe_nil0) rfl)]
      rw [if_neg (by decide)]
      exact mMap_ev (x := [.int v]) (mCons_ev e3 rfl) rfl
  · refine ⟨l, b2, ?_, ⟨hne, (range_rising many).sublist hl1, fun r hr => range_below many r (hl1.subset hr)⟩, hb2.mono (by omega)⟩
    unfold F__law_some B__law_some
    rw [show envIO ["bag", "ranks1", "found", "rank"] [some 0, none] [bag, .int (many : Int)] = [some (SV.ow true 0 bag), some (SV.fz (.int many)), none, none] from rfl]
    rw [sSeq_nx (sSet_ev hc)]
    rw [sSeq_rt (sRet_ev (d := .tuple (encI l)) (e1 := [some (SV.ow true 0 b2), some (SV.fz (.int many)), some (SV.fz (.list (encI l))), none]) ?_)]
    · rfl
    · rw [mIf_ev (k := true) (e1 := [some (SV.ow true 0 b2), some (SV.fz (.int many)), some (SV.fz (.list (encI l))), none]) ?_]
      · rw [if_pos rfl]
        exact mMap_ev (x := [.list (encI l)]) rfl rfl
      · refine mMap_ev (mBin_ev (x := .list (encI l)) (y := .list []) (z := .bool true) rfl rfl (gNe_nil hne)) rfl
end Dn

set_option maxHeartbeats 1000000
/-! M3: a hall of one's own. -/
namespace Dn
open PySem PySem.Spec PyProof.Rows L2
structure Hall where
  ranks : List (Int × Int)
  desks : List (List Int)
def encR (p : Int × Int) : D := .tuple [.int p.1, .int p.2]
def encH (h : Hall) : D := .tuple [.tuple (h.ranks.map encR), .tuple (h.desks.map fun d => .tuple (encI d))]
structure Hall.Ok (h : Hall) (R K : Nat) : Prop where
  r1 : 1 ≤ h.ranks.length
  r2 : h.ranks.length ≤ R
  k1 : 1 ≤ h.desks.length
  k2 : h.desks.length ≤ K
  rank : ∀ p ∈ h.ranks, 1 ≤ p.1 ∧ p.1 ≤ 5 ∧ 1 ≤ p.2 ∧ p.2 ≤ 10
  desk : ∀ d ∈ h.desks, DeskOk h.ranks.length d
theorem gRg1_nat {n : Nat} (h : n ≤ 100000) : gRg1 [.int (n : Int)] = some (rangeD 0 n) := by
  have e : (2 : Int) ^ 62 = 4611686018427387904 := by decide
  unfold gRg1
  simp only [Int.toNat_natCast]
  rw [if_pos ⟨by omega, by omega⟩]
theorem gTupRg_nat {n : Nat} (h : n ≤ 100) : gTupRg (.int (n : Int)) = some (.tuple (rangeD 0 n)) := by
  have e : (2 : Int) ^ 62 = 4611686018427387904 := by decide
  unfold gTupRg
  simp only [Int.toNat_natCast]
  rw [if_pos ⟨by omega, by omega⟩]
theorem gAdd_int (i j : Int) : gAdd (.int i) (.int j) = some (.int (i + j)) := rfl
abbrev mTk (mA : Mo D) : Mo D := mCallIO [some 0, none] F__law_take (mIo 0 (mCons (mMap (fun d => some (AR.fz d)) mA) (mRet [])))
theorem mCall1_ev {F : List D → Option (D × List D)} {i k : Nat} {env : DEnv} {io : Bool} {bag bag' d z : D} {mA : Mo D} (h : env[i]? = some (some (SV.ow io k bag))) (hm : mA env = some (d, env)) (hf : F [bag, d] = some (z, [bag'])) :
    mCallIO [some k, none] F (mIo i (mCons (mMap (fun d => some (AR.fz d)) mA) (mRet []))) env = some (z, env.set i (some (.ow io k bag'))) := by
  have e1 : mIo i (mCons (mMap (fun d => some (AR.fz d)) mA) (mRet [])) env = some ([AR.io i, AR.fz d], env) := by
    simp [mIo, h, mCons, mBind, mMap, mLift, mRet, hm]
  unfold mCallIO
  simp [e1, iosOf, argsOf, h, hf, putOuts]
theorem hall_ok {n : Nat} {bag : D} (hb : Bag n bag) (hn : n + 100 < 1000000) {R K : Nat} {m s : Int} (hR : 1 ≤ R ∧ R ≤ 4) (hK : 1 ≤ K ∧ K ≤ 10) (hm : 1 ≤ m ∧ m ≤ 5) (hs : 1 ≤ s ∧ s ≤ 10) :
    ∃ (h : Hall) (bag' : D), F__law_hall [bag, .int R, .int K, .int m, .int s, .bool false] = some (encH h, [bag']) ∧ h.Ok R K ∧ Bag (n + 100) bag' := by
  unfold F__law_hall B__law_hall
  rw [show envIO ["bag", "ranks1", "desks1", "most", "stay1", "alike", "many", "one", "ranks", "rank", "desks", "desk"] [some 0, none, none, none, none, none] [bag, .int R, .int K, .int m, .int s, .bool false] = [some (SV.ow true 0 bag), some (SV.fz (.int R)), some (SV.fz (.int K)), some (SV.fz (.int m)), some (SV.fz (.int s)), some (SV.fz (.bool false)), none, none, none, none, none, none] from rfl]
  obtain ⟨v1, b1, e1, v10, v11, hb1⟩ := mTake_ev (i := 0) (env := [some (SV.ow true 0 bag), some (SV.fz (.int R)), some (SV.fz (.int K)), some (SV.fz (.int m)), some (SV.fz (.int s)), some (SV.fz (.bool false)), none, none, none, none, none, none]) (mA := mVar 1) (m := R) rfl rfl hb (by omega) (by omega) (by omega)
  obtain ⟨many, hmany⟩ : ∃ k : Nat, 1 + v1 = k := ⟨(1 + v1).toNat, by omega⟩
  rw [sSeq_nx (sSet_ev (mBin_ev rfl e1 (gAdd_int 1 v1)))]
  rw [hmany]
  obtain ⟨v2, b2, e2, v20, v21, hb2⟩ := mTake_ev (i := 0) (env := [some (SV.ow true 0 b1), some (SV.fz (.int R)), some (SV.fz (.int K)), some (SV.fz (.int m)), some (SV.fz (.int s)), some (SV.fz (.bool false)), some (SV.fz (.int many)), none, none, none, none, none]) (mA := mVar 4) (m := s) rfl rfl hb1 (by omega) (by omega) (by omega)
  rw [sSeq_nx (e1 := [some (SV.ow true 0 b2), some (SV.fz (.int R)), some (SV.fz (.int K)), some (SV.fz (.int m)), some (SV.fz (.int s)), some (SV.fz (.bool false)), some (SV.fz (.int many)), some (SV.fz (.int (1 + v2))), none, none, none, none]) (sSet_ev (mBin_ev rfl e2 (gAdd_int 1 v2)))]
  rw [sSeq_nx (e1 := [some (SV.ow true 0 b2), some (SV.fz (.int R)), some (SV.fz (.int K)), some (SV.fz (.int m)), some (SV.fz (.int s)), some (SV.fz (.bool false)), some (SV.fz (.int many)), some (SV.fz (.int (1 + v2))), some (SV.ow false 0 (.list [])), none, none, none]) rfl]
  -- the ranks
  have loop1 := forGo_ex (tgt := gNm 9) (body := (sSeq (sApp 8 (mMap gTup (mCons (mBin gAdd (mRet (.int 1)) (mTk (mVar 3))) (mCons (mIf (mMap gTru (mVar 5)) (mVar 7) (mBin gAdd (mRet (.int 1)) (mTk (mVar 4)))) (mRet []))))) sNil))
    (fun k e => ∃ (b : D) (rs : List (Int × Int)) (j9 : Option SV), e = [some (SV.ow true 0 b), some (SV.fz (.int R)), some (SV.fz (.int K)), some (SV.fz (.int m)), some (SV.fz (.int s)), some (SV.fz (.bool false)), some (SV.fz (.int many)), some (SV.fz (.int (1 + v2))), some (SV.ow false 0 (.list (rs.map encR))), j9, none, none] ∧
      Bag (n + 2 + 2 * k) b ∧ rs.length = k ∧ ∀ p ∈ rs, 1 ≤ p.1 ∧ p.1 ≤ 5 ∧ 1 ≤ p.2 ∧ p.2 ≤ 10) (rangeD 0 many) 0 _ ⟨b2, [], none, rfl, hb2, rfl, fun p hp => by cases hp⟩ (fun k d e _ hk ⟨b, rs, j9, he, hbk, hl, hrs⟩ => by
      subst he
      rw [rangeD_len] at hk
      obtain ⟨u1, c1, f1, u10, u11, hc1⟩ := mTake_ev (i := 0) (env := [some (SV.ow true 0 b), some (SV.fz (.int R)), some (SV.fz (.int K)), some (SV.fz (.int m)), some (SV.fz (.int s)), some (SV.fz (.bool false)), some (SV.fz (.int many)), some (SV.fz (.int (1 + v2))), some (SV.ow false 0 (.list (rs.map encR))), some (SV.fz d), none, none]) (mA := mVar 3) (m := m) rfl rfl hbk (by omega) (by omega) (by omega)
      obtain ⟨u2, c2, f2, u20, u21, hc2⟩ := mTake_ev (i := 0) (env := [some (SV.ow true 0 c1), some (SV.fz (.int R)), some (SV.fz (.int K)), some (SV.fz (.int m)), some (SV.fz (.int s)), some (SV.fz (.bool false)), some (SV.fz (.int many)), some (SV.fz (.int (1 + v2))), some (SV.ow false 0 (.list (rs.map encR))), some (SV.fz d), none, none]) (mA := mVar 4) (m := s) rfl rfl hc1 (by omega) (by omega) (by omega)
      have g2 := mIf_ev (c := mMap gTru (mVar 5)) (m := mVar 7) (n := mBin gAdd (mRet (.int 1)) (mTk (mVar 4))) (env := [some (SV.ow true 0 c1), some (SV.fz (.int R)), some (SV.fz (.int K)), some (SV.fz (.int m)), some (SV.fz (.int s)), some (SV.fz (.bool false)), some (SV.fz (.int many)), some (SV.fz (.int (1 + v2))), some (SV.ow false 0 (.list (rs.map encR))), some (SV.fz d), none, none]) (k := false) rfl
      rw [if_neg (by decide), mBin_ev (m := mRet (.int 1)) rfl f2 (gAdd_int 1 u2)] at g2
      have g := mMap_ev (g := gTup) (x := [.int (1 + u1), .int (1 + u2)]) (z := encR (1 + u1, 1 + u2)) (mCons_ev (mBin_ev (m := mRet (.int 1)) rfl f1 (gAdd_int 1 u1)) (mCons_ev (n := mRet []) g2 rfl)) rfl
      refine ⟨_, _, rfl, (sSeq_nx (sApp_ev (ds := rs.map encR) ⟨_, rfl⟩ g rfl (by rw [List.length_map]; omega))).trans rfl, ⟨c2, rs ++ [(1 + u1, 1 + u2)], some (SV.fz d), by rw [List.map_append]; rfl, hc2.mono (by omega), by rw [List.length_append, hl]; rfl, fun p hp => ?_⟩⟩
      rcases List.mem_append.mp hp with hp | hp
      · exact hrs p hp
      · rw [List.mem_singleton.mp hp]
        exact ⟨by omega, by omega, by omega, by omega⟩)
  obtain ⟨e3, l1, b3, rs, j9, he3, hb3, hrl, hrs⟩ := loop1
  subst he3
  rw [rangeD_len, Nat.zero_add] at hb3 hrl
  rw [sSeq_nx ((sFor_ev (mMap_ev (z := rangeD 0 many) rfl (gRg1_nat (by omega)))).trans l1)]
  -- the desks
  rw [sSeq_nx (e1 := [some (SV.ow true 0 b3), some (SV.fz (.int R)), some (SV.fz (.int K)), some (SV.fz (.int m)), some (SV.fz (.int s)), some (SV.fz (.bool false)), some (SV.fz (.int many)), some (SV.fz (.int (1 + v2))), some (SV.ow false 0 (.list (rs.map encR))), j9, some (SV.ow false 0 (.list [])), none]) rfl]
  obtain ⟨v4, b4, e4, v40, v41, hb4⟩ := mTake_ev (i := 0) (env := [some (SV.ow true 0 b3), some (SV.fz (.int R)), some (SV.fz (.int K)), some (SV.fz (.int m)), some (SV.fz (.int s)), some (SV.fz (.bool false)), some (SV.fz (.int many)), some (SV.fz (.int (1 + v2))), some (SV.ow false 0 (.list (rs.map encR))), j9, some (SV.ow false 0 (.list [])), none]) (mA := mVar 2) (m := K) rfl rfl hb3 (by omega) (by omega) (by omega)
  obtain ⟨nd, hnd⟩ : ∃ k : Nat, 1 + v4 = k := ⟨(1 + v4).toNat, by omega⟩
  have g4 := mBin_ev (m := mRet (.int 1)) rfl e4 (gAdd_int 1 v4)
  rw [hnd] at g4
  have loop2 := forGo_ex (tgt := gNm 11) (body := (sSeq (sApp 10 (mIf (mOr (mMap gTru (mVar 5)) (mMap gB (mBin gEq (mTk (mRet (.int 2))) (mRet (.int 0))))) (mMap gTupRg (mVar 6)) (mCallIO [some 0, none] F__law_some (mIo 0 (mCons (mMap (fun d => some (AR.fz d)) (mVar 6)) (mRet []))))))
    sNil))
    (fun k e => ∃ (b : D) (ds : List (List Int)) (j11 : Option SV), e = [some (SV.ow true 0 b), some (SV.fz (.int R)), some (SV.fz (.int K)), some (SV.fz (.int m)), some (SV.fz (.int s)), some (SV.fz (.bool false)), some (SV.fz (.int many)), some (SV.fz (.int (1 + v2))), some (SV.ow false 0 (.list (rs.map encR))), j9, some (SV.ow false 0 (.list (ds.map fun d => .tuple (encI d)))), j11] ∧
      Bag (n + 12 + 6 * k) b ∧ ds.length = k ∧ ∀ d ∈ ds, DeskOk many d) (rangeD 0 nd) 0 _ ⟨b4, [], none, rfl, hb4.mono (by omega), rfl, fun p hp => by cases hp⟩ (fun k d e _ hk ⟨b, ds, j11, he, hbk, hl, hds⟩ => by
      subst he
      rw [rangeD_len] at hk
      obtain ⟨u1, c1, f1, u10, u11, hc1⟩ := mTake_ev (i := 0) (env := [some (SV.ow true 0 b), some (SV.fz (.int R)), some (SV.fz (.int K)), some (SV.fz (.int m)), some (SV.fz (.int s)), some (SV.fz (.bool false)), some (SV.fz (.int many)), some (SV.fz (.int (1 + v2))), some (SV.ow false 0 (.list (rs.map encR))), j9, some (SV.ow false 0 (.list (ds.map fun d => .tuple (encI d)))), some (SV.fz d)]) (mA := mRet (.int 2)) (m := 2) rfl rfl hbk (by omega) (by omega) (by omega)
      have t1 : mOr (mMap gTru (mVar 5)) (mMap gB (mBin gEq (mTk (mRet (.int 2))) (mRet (.int 0)))) [some (SV.ow true 0 b), some (SV.fz (.int R)), some (SV.fz (.int K)), some (SV.fz (.int m)), some (SV.fz (.int s)), some (SV.fz (.bool false)), some (SV.fz (.int many)), some (SV.fz (.int (1 + v2))), some (SV.ow false 0 (.list (rs.map encR))), j9, some (SV.ow false 0 (.list (ds.map fun d => .tuple (encI d)))), some (SV.fz d)] =
        some (u1 == 0, [some (SV.ow true 0 c1), some (SV.fz (.int R)), some (SV.fz (.int K)), some (SV.fz (.int m)), some (SV.fz (.int s)), some (SV.fz (.bool false)), some (SV.fz (.int many)), some (SV.fz (.int (1 + v2))), some (SV.ow false 0 (.list (rs.map encR))), j9, some (SV.ow false 0 (.list (ds.map fun d => .tuple (encI d)))), some (SV.fz d)]) := by
        have z : mMap gB (mBin gEq (mTk (mRet (.int 2))) (mRet (.int 0))) _ = _ := mMap_ev (z := u1 == 0) (mBin_ev f1 (y := .int 0) rfl (z := .bool (u1 == 0)) rfl) rfl
        exact z
      by_cases hu : u1 = 0
      · subst hu
        have g := mIf_ev (m := mMap gTupRg (mVar 6)) (n := mCallIO [some 0, none] F__law_some (mIo 0 (mCons (mMap (fun d => some (AR.fz d)) (mVar 6)) (mRet [])))) t1
        rw [if_pos (by rfl), mMap_ev (x := .int (many : Int)) rfl (gTupRg_nat (by omega))] at g
        refine ⟨_, _, rfl, (sSeq_nx (sApp_ev (ds := ds.map fun d => .tuple (encI d)) ⟨_, rfl⟩ g rfl (by rw [List.length_map]; omega))).trans rfl, ⟨c1, ds ++ [(List.range many).map fun (i : Nat) => (i : Int)], some (SV.fz d), by rw [List.map_append, rangeD_ints]; rfl, hc1.mono (by omega), by rw [List.length_append, hl]; rfl, fun p hp => ?_⟩⟩
        rcases List.mem_append.mp hp with hp | hp
        · exact hds p hp
        · rw [List.mem_singleton.mp hp]
          refine ⟨fun z => ?_, range_rising many, range_below many⟩
          have := congrArg List.length z
          simp at this
          omega
      · obtain ⟨dk, c2, f2, hdk, hc2⟩ := some_ok hc1 (by omega) (many := many) (by omega) (by omega)
        have g := mIf_ev (m := mMap gTupRg (mVar 6)) (n := mCallIO [some 0, none] F__law_some (mIo 0 (mCons (mMap (fun d => some (AR.fz d)) (mVar 6)) (mRet [])))) t1
        rw [if_neg (by simpa using hu)] at g
        have f3 := mCall1_ev (i := 0) (k := 0) (io := true) (mA := mVar 6) (env := [some (SV.ow true 0 c1), some (SV.fz (.int R)), some (SV.fz (.int K)), some (SV.fz (.int m)), some (SV.fz (.int s)), some (SV.fz (.bool false)), some (SV.fz (.int many)), some (SV.fz (.int (1 + v2))), some (SV.ow false 0 (.list (rs.map encR))), j9, some (SV.ow false 0 (.list (ds.map fun d => .tuple (encI d)))), some (SV.fz d)]) rfl rfl f2
        rw [f3] at g
        refine ⟨_, _, rfl, (sSeq_nx (sApp_ev (ds := ds.map fun d => .tuple (encI d)) ⟨_, rfl⟩ g rfl (by rw [List.length_map]; omega))).trans rfl, ⟨c2, ds ++ [dk], some (SV.fz d), by rw [List.map_append]; rfl, hc2.mono (by omega), by rw [List.length_append, hl]; rfl, fun p hp => ?_⟩⟩
        rcases List.mem_append.mp hp with hp | hp
        · exact hds p hp
        · rw [List.mem_singleton.mp hp]
          exact hdk)
  obtain ⟨e5, l2, b5, ds, j11, he5, hb5, hdl, hds⟩ := loop2
  subst he5
  rw [rangeD_len, Nat.zero_add] at hb5 hdl
  rw [sSeq_nx ((sFor_ev (mMap_ev (z := rangeD 0 nd) (mCons_ev g4 rfl) (gRg1_nat (by omega)))).trans l2)]
  refine ⟨⟨rs, ds⟩, b5, rfl, ⟨by show 1 ≤ rs.length; omega, by show rs.length ≤ R; omega, by show 1 ≤ ds.length; omega, by show ds.length ≤ K; omega, hrs, ?_⟩, hb5.mono (by omega)⟩
  intro d hd
  show DeskOk rs.length d
  rw [hrl]
  exact hds d hd
end Dn

set_option maxHeartbeats 1000000
/-! M4: comings of one's own. -/
namespace Dn
open PySem PySem.Spec PyProof.Rows L2
theorem forGo_ix {tgt : D → DEnv → Option DEnv} {body : So} (I : Nat → DEnv → Prop) : ∀ (pre ds : List D) (e : DEnv), I pre.length e →
    (∀ k d e, (pre ++ ds)[k]? = some d → I k e → ∃ e1 e2, tgt d e = some e1 ∧ body e1 = some (.nx e2) ∧ I (k + 1) e2) → ∃ e', forGo tgt body ds e = some (.nx e') ∧ I (pre.length + ds.length) e'
  | pre, [], e, h, _ => ⟨e, rfl, h⟩
  | pre, d :: ds, e, h, hs => by
    obtain ⟨e1, e2, h1, h2, h3⟩ := hs pre.length d e (by simp) h
    obtain ⟨e', h4, h5⟩ := forGo_ix I (pre ++ [d]) ds e2 (by rw [List.length_append]; exact h3) fun k x e hx => hs k x e (by rw [← hx, List.append_assoc]; rfl)
    exact ⟨e', by simp only [forGo, h1, h2, h4], by
      rw [List.length_append] at h5
      rw [List.length_cons, show pre.length + (ds.length + 1) = pre.length + [d].length + ds.length by simp; omega]
      exact h5⟩
/-- a row of comings of the hall -/
def RowOk (rs : List (Int × Int)) (row : List Int) : Prop := row.length = rs.length ∧ ∀ (j : Nat) (c : Int) (p : Int × Int), row[j]? = some c → rs[j]? = some p → 0 ≤ c ∧ c ≤ p.1
theorem RowOk.take {rs : List (Int × Int)} {row : List Int} {k : Nat} {c : Int} {p : Int × Int} (h : row.length = k ∧ ∀ (j : Nat) (c : Int) (p : Int × Int), row[j]? = some c → rs[j]? = some p → 0 ≤ c ∧ c ≤ p.1) (hp : rs[k]? = some p) (h0 : 0 ≤ c) (h1 : c ≤ p.1) :
    (row ++ [c]).length = k + 1 ∧ ∀ (j : Nat) (c' : Int) (p : Int × Int), (row ++ [c])[j]? = some c' → rs[j]? = some p → 0 ≤ c' ∧ c' ≤ p.1 := by
  refine ⟨by rw [List.length_append, h.1]; rfl, fun j c' q hj hq => ?_⟩
  by_cases hjk : j < row.length
  · rw [List.getElem?_append_left hjk] at hj
    exact h.2 j c' q hj hq
  · have hj2 : j < row.length + 1 := by have := (List.getElem?_eq_some_iff.mp hj).1; simpa using this
    have : j = k := by omega
    subst this
    rw [List.getElem?_append_right (by omega), h.1, Nat.sub_self] at hj
    cases hj
    rw [hp] at hq
    cases hq
    exact ⟨h0, h1⟩
theorem encI_app (l : List Int) (x : Int) : encI (l ++ [x]) = encI l ++ [.int x] := by simp [encI]
theorem comings_ok {n : Nat} {bag : D} (hb : Bag n bag) (hn : n + 1000 < 1000000) {h : Hall} {R K : Nat} (hh : h.Ok R K) (hR : R ≤ 4) {T : Nat} (hT : T ≤ 40) :
    ∃ (rows : List (List Int)) (bag' : D), F__law_comings [bag, encH h, .int T] = some (.tuple (rows.map fun r => .tuple (encI r)), [bag']) ∧ rows.length = T ∧ (∀ r ∈ rows, RowOk h.ranks r) ∧ Bag (n + 1000) bag' := by
  have hr2 := hh.r2
  unfold F__law_comings B__law_comings
  rw [show envIO ["bag", "hall", "ticks1", "idle", "found", "tick", "row", "rank", "lazy"] [some 0, none, none] [bag, encH h, .int T] = [some (SV.ow true 0 bag), some (SV.fz (encH h)), some (SV.fz (.int T)), none, none, none, none, none, none] from rfl]
  have g0 : ∀ e : DEnv, e[1]? = some (some (SV.fz (encH h))) → mBin gIx (mVar 1) (mRet (.int 0)) e = some (.tuple (h.ranks.map encR), e) := fun e he => mBin_ev (x := encH h) (y := .int 0) (by simp [mVar, he]) rfl (atI_0 _ _)
  have hL := lcGo_all (tgt := gNm 7) (test := mRet true) (elt := mTk (mRet (.int 6))) (vs := [7]) (fun k e => ∃ b', e = [some (SV.ow true 0 b'), some (SV.fz (encH h)), some (SV.fz (.int T)), none, none, none, none, none, none] ∧ Bag (n + k) b') (fun _ y => ∃ v : Int, y = .int v) (h.ranks.map encR) 0
    (wipeD [some (SV.ow true 0 bag), some (SV.fz (encH h)), some (SV.fz (.int T)), none, none, none, none, none, none] [7]) ⟨bag, rfl, hb⟩ fun k d e hd hk ⟨b', he, hb'⟩ => by
      subst he
      rw [List.length_map] at hk
      obtain ⟨v, b2, e1, v0, v1, hb2⟩ := mTake_ev (i := 0) (env := [some (SV.ow true 0 b'), some (SV.fz (encH h)), some (SV.fz (.int T)), none, none, none, none, some (SV.fz d), none]) (mA := mRet (.int 6)) (m := 6) rfl rfl hb' (by omega) (by omega) (by omega)
      exact ⟨_, _, _, _, rfl, rfl, e1, ⟨v, rfl⟩, ⟨b2, rfl, hb2⟩⟩
  obtain ⟨ys, e1, hl, ⟨b1, he1, hb1⟩, hys⟩ := hL
  subst he1
  rw [List.length_map, Nat.zero_add] at hb1
  have hc := mMap_ev (g := fun ds => some (PyData.list ds)) (mLc_ev (env := [some (SV.ow true 0 bag), some (SV.fz (encH h)), some (SV.fz (.int T)), none, none, none, none, none, none]) (mMap_ev (g := gSeq) (z := h.ranks.map encR) (g0 _ rfl) rfl) (by rw [List.length_map]; omega) rfl hl) rfl
  rw [sSeq_nx (e1 := [some (SV.ow true 0 b1), some (SV.fz (encH h)), some (SV.fz (.int T)), some (SV.fz (.list ys)), none, none, none, none, none]) (sSet_ev hc)]
  rw [sSeq_nx (e1 := [some (SV.ow true 0 b1), some (SV.fz (encH h)), some (SV.fz (.int T)), some (SV.fz (.list ys)), some (SV.ow false 0 (.list [])), none, none, none, none]) rfl]
  have yl : ys.length = h.ranks.length := by rw [← Paired.length hys, List.length_map]
  have loop := forGo_ex (tgt := gNm 5) (body := (sSeq (sSetN 6 0 (mMap gLst (mRet [])))
    (sSeq (sFor (mMap gZip2 (mCons (mBin gIx (mVar 1) (mRet (.int 0))) (mCons (mVar 3) (mRet [])))) (gTu 2 (gsCons (gNm 7) (gsCons (gNm 8) gsNil))) (sSeq (sApp 6 (mIf (mMap gB (mBin gLt (mTk (mRet (.int 6))) (mVar 8))) (mRet (.int 0)) (mTk (mBin gAdd (mBin gIx (mVar 7) (mRet (.int 0))) (mRet (.int 1))))))
    sNil))
    (sFrz 6 (sSeq (sApp 4 (mMap gTuple (mCons (mVar 6) (mRet []))))
    sNil)))))
    (fun k e => ∃ (b : D) (rows : List (List Int)) (j5 j6 j7 j8 : Option SV), e = [some (SV.ow true 0 b), some (SV.fz (encH h)), some (SV.fz (.int T)), some (SV.fz (.list ys)), some (SV.ow false 0 (.list (rows.map fun r => .tuple (encI r)))), j5, j6, j7, j8] ∧
      Bag (n + 4 + 8 * k) b ∧ rows.length = k ∧ ∀ r ∈ rows, RowOk h.ranks r) (rangeD 0 T) 0 _ ⟨b1, [], none, none, none, none, rfl, hb1.mono (by omega), rfl, fun p hp => by cases hp⟩ (fun k d e _ hk ⟨b, rows, j5, j6, j7, j8, he, hbk, hrl, hrows⟩ => by
      subst he
      rw [rangeD_len] at hk
      have inner := forGo_ix (tgt := gTu 2 (gsCons (gNm 7) (gsCons (gNm 8) gsNil))) (body := (sSeq (sApp 6 (mIf (mMap gB (mBin gLt (mTk (mRet (.int 6))) (mVar 8))) (mRet (.int 0)) (mTk (mBin gAdd (mBin gIx (mVar 7) (mRet (.int 0))) (mRet (.int 1)))))) sNil))
        (fun i e => ∃ (b : D) (row : List Int) (j7 j8 : Option SV), e = [some (SV.ow true 0 b), some (SV.fz (encH h)), some (SV.fz (.int T)), some (SV.fz (.list ys)), some (SV.ow false 0 (.list (rows.map fun r => .tuple (encI r)))), some (SV.fz d), some (SV.ow false 0 (.list (encI row))), j7, j8] ∧
          i ≤ 4 ∧ Bag (n + 4 + 8 * k + 2 * i) b ∧ row.length = i ∧ ∀ (j : Nat) (c : Int) (p : Int × Int), row[j]? = some c → h.ranks[j]? = some p → 0 ≤ c ∧ c ≤ p.1) [] (pairsD (h.ranks.map encR) ys) _
        ⟨b, [], j7, j8, rfl, Nat.zero_le _, hbk, rfl, fun j c p hj => by simp at hj⟩ (fun i x e hx ⟨b, row, j7, j8, he, hi4, hbi, hrow⟩ => by
          subst he
          obtain ⟨x1, x2, k1, k2, rfl⟩ := pairsD_get _ _ _ _ hx
          rw [List.getElem?_map] at k1
          cases hp : h.ranks[i]? with
          | none => rw [hp] at k1; cases k1
          | some p =>
            rw [hp] at k1
            cases k1
            have hpk := hh.rank p (List.mem_of_getElem? hp)
            have hi : i < h.ranks.length := (List.getElem?_eq_some_iff.mp hp).1
            obtain ⟨v, rfl⟩ : ∃ v : Int, x2 = .int v := by
              obtain ⟨y, hy, r⟩ := LiI.paired_get hys (x := encR p) (i := i) (by rw [List.getElem?_map, hp]; rfl)
              rw [k2] at hy
              cases hy
              exact r
            obtain ⟨u1, c1, f1, u10, u11, hc1⟩ := mTake_ev (i := 0) (env := [some (SV.ow true 0 b), some (SV.fz (encH h)), some (SV.fz (.int T)), some (SV.fz (.list ys)), some (SV.ow false 0 (.list (rows.map fun r => .tuple (encI r)))), some (SV.fz d), some (SV.ow false 0 (.list (encI row))), some (SV.fz (encR p)), some (SV.fz (.int v))]) (mA := mRet (.int 6)) (m := 6) rfl rfl hbi (by omega) (by omega) (by omega)
            have t1 := mMap_ev (g := gB) (z := decide (u1 < v)) (mBin_ev (g := gLt) f1 (n := mVar 8) (y := .int v) rfl (z := .bool (decide (u1 < v))) rfl) rfl
            by_cases hu : u1 < v
            · have g := mIf_ev (m := mRet (.int 0)) (n := mTk (mBin gAdd (mBin gIx (mVar 7) (mRet (.int 0))) (mRet (.int 1)))) t1
              rw [if_pos (decide_eq_true hu)] at g
              refine ⟨_, _, rfl, (sSeq_nx (sApp_ev (ds := encI row) (d := .int 0) ⟨_, rfl⟩ (g.trans rfl) rfl (by rw [List.length_map]; omega))).trans rfl, ⟨c1, row ++ [0], some (SV.fz (encR p)), some (SV.fz (.int v)), by rw [encI_app]; rfl, by omega, hc1.mono (by omega), RowOk.take hrow hp (Int.le_refl 0) (by omega)⟩⟩
            · obtain ⟨u2, c2, f2, u20, u21, hc2⟩ := mTake_ev (i := 0) (env := [some (SV.ow true 0 c1), some (SV.fz (encH h)), some (SV.fz (.int T)), some (SV.fz (.list ys)), some (SV.ow false 0 (.list (rows.map fun r => .tuple (encI r)))), some (SV.fz d), some (SV.ow false 0 (.list (encI row))), some (SV.fz (encR p)), some (SV.fz (.int v))]) (mA := mBin gAdd (mBin gIx (mVar 7) (mRet (.int 0))) (mRet (.int 1))) (m := p.1 + 1) rfl (mBin_ev (mBin_ev (x := encR p) (y := .int 0) rfl rfl (atI_0 _ _)) rfl (gAdd_int p.1 1)) hc1 (by omega) (by omega) (by omega)
              have g := mIf_ev (m := mRet (.int 0)) (n := mTk (mBin gAdd (mBin gIx (mVar 7) (mRet (.int 0))) (mRet (.int 1)))) t1
              rw [if_neg (by simpa using hu)] at g
              refine ⟨_, _, rfl, (sSeq_nx (sApp_ev (ds := encI row) (d := .int u2) ⟨_, rfl⟩ (g.trans f2) rfl (by rw [List.length_map]; omega))).trans rfl, ⟨c2, row ++ [u2], some (SV.fz (encR p)), some (SV.fz (.int v)), by rw [encI_app]; rfl, by omega, hc2.mono (by omega), RowOk.take hrow hp u20 (by omega)⟩⟩)
      obtain ⟨e2, l2, b2, row, j7', j8', he2, _, hb2, hrow⟩ := inner
      subst he2
      rw [pairsD_len, List.length_map, yl, Nat.min_self] at hb2 hrow
      have zi : mMap gZip2 (mCons (mBin gIx (mVar 1) (mRet (.int 0))) (mCons (mVar 3) (mRet []))) [some (SV.ow true 0 b), some (SV.fz (encH h)), some (SV.fz (.int T)), some (SV.fz (.list ys)), some (SV.ow false 0 (.list (rows.map fun r => .tuple (encI r)))), some (SV.fz d), some (SV.ow false 0 (.list (encI []))), j7, j8] =
        some (pairsD (h.ranks.map encR) ys, _) := mMap_ev (mCons_ev (g0 _ rfl) (mCons_ev (n := mRet []) rfl rfl)) rfl
      refine ⟨_, _, rfl, (sSeq_nx (e1 := [some (SV.ow true 0 b), some (SV.fz (encH h)), some (SV.fz (.int T)), some (SV.fz (.list ys)), some (SV.ow false 0 (.list (rows.map fun r => .tuple (encI r)))), some (SV.fz d), some (SV.ow false 0 (.list (encI []))), j7, j8]) rfl).trans ((sSeq_nx ((sFor_ev zi).trans l2)).trans
        ((sSeq_nx (sApp_ev (i := 4) (m := mMap gTuple (mCons (mVar 6) (mRet []))) (env := [some (SV.ow true 0 b2), some (SV.fz (encH h)), some (SV.fz (.int T)), some (SV.fz (.list ys)), some (SV.ow false 0 (.list (rows.map fun r => .tuple (encI r)))), some (SV.fz d), some (SV.fz (.list (encI row))), j7', j8']) (ds := rows.map fun r => .tuple (encI r)) (d := .tuple (encI row)) ⟨_, rfl⟩ (mMap_ev (x := [.list (encI row)]) rfl rfl) rfl (by rw [List.length_map]; omega))).trans rfl)),
        ⟨b2, rows ++ [row], some (SV.fz d), some (SV.fz (.list (encI row))), j7', j8', by rw [List.map_append]; rfl, hb2.mono (by simp; omega), by rw [List.length_append, hrl]; rfl, fun r hr => ?_⟩⟩
      rcases List.mem_append.mp hr with hr | hr
      · exact hrows r hr
      · rw [List.mem_singleton.mp hr]
        exact ⟨by simpa using hrow.1, hrow.2⟩)
  obtain ⟨e3, l3, b3, rows, j5, j6, j7, j8, he3, hb3, hrl, hrows⟩ := loop
  subst he3
  rw [rangeD_len, Nat.zero_add] at hb3 hrl
  rw [sSeq_nx ((sFor_ev (mMap_ev (z := rangeD 0 T) rfl (gRg1_nat (by omega)))).trans l3)]
  exact ⟨rows, b3, rfl, hrl, hrows, hb3.mono (by omega)⟩
end Dn

set_option maxHeartbeats 1000000
/-! M5: whom a desk takes. -/
namespace Dn
open PySem PySem.Spec PyProof.Rows L2
/-- for that ends at the first that is so -/
theorem forGo_find {α : Type} {tgt : D → DEnv → Option DEnv} {body : So} (enc f : α → D) (p : α → Bool) (I : DEnv → Prop) : ∀ (l : List α) (e : DEnv), I e →
    (∀ a e, a ∈ l → I e → ∃ e1, tgt (enc a) e = some e1 ∧ (p a = true → ∃ e2, body e1 = some (.rt (f a) e2)) ∧ (p a = false → ∃ e2, body e1 = some (.nx e2) ∧ I e2)) →
    (∀ a, l.find? p = some a → ∃ e', forGo tgt body (l.map enc) e = some (.rt (f a) e')) ∧ (l.find? p = none → ∃ e', forGo tgt body (l.map enc) e = some (.nx e') ∧ I e')
  | [], e, h, _ => ⟨(fun a z => by cases z), (fun _ => ⟨e, rfl, h⟩)⟩
  | a :: l, e, h, hs => by
    obtain ⟨e1, h1, h2, h3⟩ := hs a e (by simp) h
    cases hp : p a with
    | true =>
      obtain ⟨e2, h4⟩ := h2 hp
      refine ⟨fun b hb => ?_, fun z => ?_⟩
      · rw [List.find?_cons_of_pos hp] at hb
        cases hb
        exact ⟨e2, by simp only [List.map_cons, forGo, h1, h4]⟩
      · rw [List.find?_cons_of_pos hp] at z
        cases z
    | false =>
      obtain ⟨e2, h4, h5⟩ := h3 hp
      obtain ⟨k1, k2⟩ := forGo_find enc f p I l e2 h5 fun b e hb => hs b e (by simp [hb])
      rw [List.find?_cons_of_neg (by simp [hp])]
      refine ⟨fun b hb => ?_, fun z => ?_⟩
      · obtain ⟨e', h6⟩ := k1 b hb
        exact ⟨e', by simp only [List.map_cons, forGo, h1, h4, h6]⟩
      · obtain ⟨e', h6, h7⟩ := k2 z
        exact ⟨e', by simp only [List.map_cons, forGo, h1, h4, h6], h7⟩
abbrev encW (W : List (List Int)) : D := .list (W.map fun l => .list (encI l))
theorem gIn_ints (r : Int) (desk : List Int) : gIn false (.int r) (.tuple (encI desk)) = some (.bool (desk.contains r)) := by
  have h : (encI desk).all flatD = true := by simp [encI, flatD]
  unfold gIn
  simp only [gSeq]
  rw [if_pos (by rw [h]; rfl)]
  have e : ∀ l : List Int, (encI l).any (fun y => eqF y (.int r)) = l.contains r := by
    intro l
    induction l with
    | nil => rfl
    | cons x l ih =>
      show (eqF (.int x) (.int r) || (encI l).any fun y => eqF y (.int r)) = (x :: l).contains r
      rw [ih, List.contains_cons]
      show (x == r || l.contains r) = (r == x || l.contains r)
      rw [Bool.beq_comm]
  rw [e]
  rfl
def canTake (desk : List Int) (W : List (List Int)) (r : Nat) : Bool := desk.contains (r : Int) && !(W.getD r []).isEmpty
theorem encW_at {W : List (List Int)} {r : Nat} (h : r < W.length) : atI (W.map fun l => PyData.list (encI l)) (r : Int) = some (.list (encI (W.getD r []))) := by
  refine atI_nat ?_
  rw [List.getElem?_map, List.getElem?_eq_getElem h, List.getD_eq_getElem?_getD, List.getElem?_eq_getElem h]
  rfl
theorem order_ok (desk : List Int) (W : List (List Int)) (order : List Nat) (h : ∀ r ∈ order, r < W.length) :
    F__law_order [.tuple (encI desk), encW W, .list (order.map fun (r : Nat) => PyData.int r)] = some (match order.find? (canTake desk W) with | some r => .int r | none => .none) := by
  have key := forGo_find (tgt := gNm 3) (body := (sSeq (sIf (mAnd (mMap gB (mBin (gIn false) (mVar 3) (mVar 0))) (mMap gB (mBin gNe (mBin gIx (mVar 1) (mVar 3)) (mMap gLst (mRet []))))) (sSeq (sRet (mVar 3))
    sNil) sNil)
    sNil)) (fun (r : Nat) => PyData.int r) (fun (r : Nat) => PyData.int r) (canTake desk W) (fun e => ∃ j, e = [some (SV.fz (.tuple (encI desk))), some (SV.fz (encW W)), some (SV.fz (.list (order.map fun (r : Nat) => PyData.int r))), j]) order
    [some (SV.fz (.tuple (encI desk))), some (SV.fz (encW W)), some (SV.fz (.list (order.map fun (r : Nat) => PyData.int r))), none] ⟨none, rfl⟩ (fun r e hr ⟨j, he⟩ => by
      subst he
      have hw := h r hr
      have t1 : mMap gB (mBin (gIn false) (mVar 3) (mVar 0)) [some (SV.fz (.tuple (encI desk))), some (SV.fz (encW W)), some (SV.fz (.list (order.map fun (r : Nat) => PyData.int r))), some (SV.fz (.int r))] = some (desk.contains (r : Int), _) := mMap_ev (mBin_ev rfl rfl (gIn_ints r desk)) rfl
      have t2 : ∀ b, ((W.getD r []).isEmpty = b) → mMap gB (mBin gNe (mBin gIx (mVar 1) (mVar 3)) (mMap gLst (mRet []))) [some (SV.fz (.tuple (encI desk))), some (SV.fz (encW W)), some (SV.fz (.list (order.map fun (r : Nat) => PyData.int r))), some (SV.fz (.int r))] = some (!b, _) := fun b hb => by
        refine mMap_ev (z := !b) (mBin_ev (x := .list (encI (W.getD r []))) (y := .list []) (z := .bool (!b)) (mBin_ev (x := encW W) (y := .int r) rfl rfl (encW_at hw)) rfl ?_) rfl
        cases hW : W.getD r [] with
        | nil =>
          rw [hW] at hb
          subst hb
          exact gNe_nil0
        | cons x l =>
          rw [hW] at hb
          subst hb
          exact gNe_nil (by simp)
      have t : mAnd (mMap gB (mBin (gIn false) (mVar 3) (mVar 0))) (mMap gB (mBin gNe (mBin gIx (mVar 1) (mVar 3)) (mMap gLst (mRet [])))) [some (SV.fz (.tuple (encI desk))), some (SV.fz (encW W)), some (SV.fz (.list (order.map fun (r : Nat) => PyData.int r))), some (SV.fz (.int r))] = some (canTake desk W r, [some (SV.fz (.tuple (encI desk))), some (SV.fz (encW W)), some (SV.fz (.list (order.map fun (r : Nat) => PyData.int r))), some (SV.fz (.int r))]) := by
        unfold mAnd mBind
        rw [t1]
        unfold canTake
        cases hc : desk.contains (r : Int) with
        | false => rfl
        | true => exact t2 _ rfl
      refine ⟨_, rfl, fun hp => ?_, fun hp => ?_⟩
      · rw [hp] at t
        exact ⟨_, (sSeq_rt ((sIf_t t).trans (sSeq_rt (sRet_ev (m := mVar 3) rfl))))⟩
      · rw [hp] at t
        exact ⟨_, (sSeq_nx ((sIf_f t).trans rfl)).trans rfl, ⟨some (SV.fz (.int r)), rfl⟩⟩)
  unfold F__law_order B__law_order
  rw [show envOf ["desk", "waiting1", "order", "rank"] [.tuple (encI desk), encW W, .list (order.map fun (r : Nat) => PyData.int r)] = [some (SV.fz (.tuple (encI desk))), some (SV.fz (encW W)), some (SV.fz (.list (order.map fun (r : Nat) => PyData.int r))), none] from rfl]
  have hi : mMap gSeq (mVar 2) [some (SV.fz (.tuple (encI desk))), some (SV.fz (encW W)), some (SV.fz (.list (order.map fun (r : Nat) => PyData.int r))), none] = some (order.map fun (r : Nat) => PyData.int r, _) := mMap_ev rfl rfl
  cases hf : order.find? (canTake desk W) with
  | some r =>
    obtain ⟨e', h1⟩ := key.1 r hf
    rw [sSeq_rt ((sFor_ev hi).trans h1)]
    rfl
  | none =>
    obtain ⟨e', h1, j, he⟩ := key.2 hf
    subst he
    rw [sSeq_nx ((sFor_ev hi).trans h1)]
    rfl
end Dn

set_option maxHeartbeats 1000000
/-! M6: lists of lists at work. -/
namespace Dn
open PySem PySem.Spec PyProof.Rows L2
theorem innerAt_nat {ds xs : List D} {j : Nat} (h : ds[j]? = some (.list xs)) : innerAt ds (j : Int) = some (j, xs) := by
  unfold innerAt
  rw [Evl.ixN_nat (List.getElem?_eq_some_iff.mp h).1]
  simp only [h]
theorem own2At_ev {env : DEnv} {i : Nat} {io : Bool} {ds : List D} (h : env[i]? = some (some (SV.ow io 1 (.list ds)))) : own2At env i = some (io, ds) := by
  unfold own2At
  simp only [h]
theorem set_back {env : DEnv} {i : Nat} {s : Option SV} (h : env[i]? = some s) : (env.set i none).set i s = env := by
  rw [List.set_set]
  refine List.ext_getElem? fun j => ?_
  by_cases hj : i = j
  · subst hj
    rw [List.getElem?_set_self (List.getElem?_eq_some_iff.mp h).1, h]
  · rw [List.getElem?_set_ne hj]
theorem mAdd2_ev {i j : Nat} {k m : Mo D} {env : DEnv} {io : Bool} {ds xs ys : List D} (h0 : env[i]? = some (some (SV.ow io 1 (.list ds)))) (h1 : k env = some (.int j, env)) (h2 : ds[j]? = some (.list xs)) (h3 : m (env.set i none) = some (.list ys, env.set i none)) (h4 : xs.length + ys.length ≤ 100000) :
    mAdd2 i k m env = some (.list (xs ++ ys), env) := by
  unfold mAdd2
  simp only [own2At_ev h0, h1, innerAt_nat h2, h3]
  rw [if_pos h4, set_back h0]
theorem sApp2_ev {i j : Nat} {k m : Mo D} {env e2 : DEnv} {io : Bool} {ds xs : List D} {d : D} (h0 : env[i]? = some (some (SV.ow io 1 (.list ds)))) (h1 : k env = some (.int j, env)) (h2 : ds[j]? = some (.list xs)) (h3 : m (env.set i none) = some (d, e2)) (h4 : xs.length < 100000) :
    sApp2 i k m env = some (.nx (e2.set i (some (.ow io 1 (.list (ds.set j (.list (xs ++ [d])))))))) := by
  unfold sApp2
  simp only [own2At_ev h0, h1, innerAt_nat h2, h3]
  rw [if_pos h4]
theorem mPop2_0 {i j : Nat} {k : Mo D} {env : DEnv} {io : Bool} {ds xs : List D} {x : D} (h0 : env[i]? = some (some (SV.ow io 1 (.list ds)))) (h1 : k env = some (.int j, env)) (h2 : ds[j]? = some (.list (x :: xs))) :
    mPop2 i k (mRet (.int 0)) env = some (x, env.set i (some (.ow io 1 (.list (ds.set j (.list xs)))))) := by
  unfold mPop2
  have hs : seqIndex? 0 (x :: xs).length = some 0 := (ixN_seq (Evl.ixN_nat (n := (x :: xs).length) (j := 0) (by simp))).1
  simp only [own2At_ev h0, h1, innerAt_nat h2, mRet]
  rw [if_pos ⟨by decide, by decide⟩, hs]
  simp
end Dn

set_option maxHeartbeats 1000000
/-! M7: who comes at a tick waits. -/
namespace Dn
open PySem PySem.Spec PyProof.Rows L2
theorem sPut2_ev {i j : Nat} {k m : Mo D} {env : DEnv} {io : Bool} {ds : List D} {d : D} (h0 : env[i]? = some (some (SV.ow io 1 (.list ds)))) (hm : m env = some (d, env)) (h1 : k env = some (.int j, env)) (hj : j < ds.length) :
    sPut2 i k m env = some (.nx (env.set i (some (.ow io 1 (.list (ds.set j d)))))) := by
  unfold sPut2
  simp only [hm, own2At_ev h0, h1, Evl.ixN_nat hj]
/-- the ranks ahead of the k-th with who came -/
def arrK (tick : Int) (row : List Int) (W : List (List Int)) (k : Nat) : List (List Int) := W.mapIdx fun r w => if r < k then w ++ List.replicate (row.getD r 0).toNat tick else w
theorem arrK_len (tick : Int) (row : List Int) (W : List (List Int)) (k : Nat) : (arrK tick row W k).length = W.length := by simp [arrK]
theorem arrK_0 (tick : Int) (row : List Int) (W : List (List Int)) : arrK tick row W 0 = W := by
  refine List.ext_getElem? fun j => ?_
  unfold arrK
  rw [List.getElem?_mapIdx]
  cases W[j]? <;> simp
theorem arrK_get {tick : Int} {row : List Int} {W : List (List Int)} {k r : Nat} {w : List Int} (h : W[r]? = some w) : (arrK tick row W k)[r]? = some (if r < k then w ++ List.replicate (row.getD r 0).toNat tick else w) := by
  simp [arrK, h]
theorem arrK_step {tick : Int} {row : List Int} {W : List (List Int)} {k : Nat} {w : List Int} (h : W[k]? = some w) : (arrK tick row W k).set k (w ++ List.replicate (row.getD k 0).toNat tick) = arrK tick row W (k + 1) := by
  refine List.ext_getElem? fun j => ?_
  by_cases hj : k = j
  · subst hj
    rw [List.getElem?_set_self (by rw [arrK_len]; exact (List.getElem?_eq_some_iff.mp h).1), arrK_get h, if_pos (Nat.lt_succ_self _)]
  · rw [List.getElem?_set_ne hj]
    cases hw : W[j]? with
    | none =>
      have e : W.length ≤ j := List.getElem?_eq_none_iff.mp hw
      rw [List.getElem?_eq_none (by rw [arrK_len]; exact e), List.getElem?_eq_none (by rw [arrK_len]; exact e)]
    | some w' =>
      rw [arrK_get hw, arrK_get hw]
      have : (j < k) ↔ (j < k + 1) := by omega
      simp only [this]
theorem encW_set (W : List (List Int)) (k : Nat) (w : List Int) : (W.map fun l => PyData.list (encI l)).set k (.list (encI w)) = (W.set k w).map fun l => PyData.list (encI l) := by
  rw [List.map_set]
theorem gRep_tick (tick : Int) {c : Int} (h0 : 0 ≤ c) (h1 : c ≤ 1000) : gMulB (.list [.int tick]) (.int c) = some (.list (encI (List.replicate c.toNat tick))) := by
  have e : ∀ n : Nat, (List.replicate n [PyData.int tick]).flatten = encI (List.replicate n tick) := by
    intro n
    induction n with
    | zero => rfl
    | succ n ih => rw [List.replicate_succ, List.replicate_succ, List.flatten_cons, ih]; rfl
  show gRep (.list [.int tick]) (.int c) = _
  simp only [gRep]
  rw [if_pos ⟨h1, by omega, Nat.le_of_ble_eq_true rfl⟩, e]
/-- the names of the run: what is handed in, one's own, the others -/
def rbE (hall coms order ranks desks : D) (W : List (List Int)) (A : List Int) (B L : List D) (T : List (List Int)) (tl : List (Option SV)) : DEnv :=
  some (SV.fz hall) :: some (SV.fz coms) :: some (SV.fz order) :: some (SV.fz ranks) :: some (SV.fz desks) :: some (SV.ow false 1 (encW W)) :: some (SV.ow false 0 (.list (encI A))) :: some (SV.ow false 0 (.list B)) :: some (SV.ow false 0 (.list L)) :: some (SV.ow false 1 (encW T)) :: tl
theorem arrive_ok {hall coms order ranks desks rowD : D} {W T : List (List Int)} {A : List Int} {B L : List D} {tick : Int} {row : List Int} {j12 j13 j14 j15 j16 j17 j18 : Option SV} (hl : row.length = W.length) (hr : ∀ c ∈ row, 0 ≤ c ∧ c ≤ 1000) (hw : ∀ w ∈ W, w.length ≤ 90000) :
    ∃ j12' j13', forGo (gTu 2 (gsCons (gNm 12) (gsCons (gNm 13) gsNil))) (sSeq (sPut2 5 (mVar 12) (mAdd2 5 (mVar 12) (mBin gMulB (mMap gLst (mCons (mVar 10) (mRet []))) (mVar 13)))) sNil) (enumD 0 (encI row)) (rbE hall coms order ranks desks W A B L T [some (SV.fz (.int tick)), some (SV.fz rowD), j12, j13, j14, j15, j16, j17, j18]) =
      some (.nx (rbE hall coms order ranks desks (arrK tick row W row.length) A B L T [some (SV.fz (.int tick)), some (SV.fz rowD), j12', j13', j14, j15, j16, j17, j18])) := by
  have key := forGo_ix (tgt := gTu 2 (gsCons (gNm 12) (gsCons (gNm 13) gsNil))) (body := (sSeq (sPut2 5 (mVar 12) (mAdd2 5 (mVar 12) (mBin gMulB (mMap gLst (mCons (mVar 10) (mRet []))) (mVar 13)))) sNil))
    (fun k e => ∃ j12' j13', e = rbE hall coms order ranks desks (arrK tick row W k) A B L T [some (SV.fz (.int tick)), some (SV.fz rowD), j12', j13', j14, j15, j16, j17, j18]) [] (enumD 0 (encI row)) _ ⟨j12, j13, by rw [List.length_nil, arrK_0]⟩ (fun k d e hd ⟨a, b, he⟩ => by
      subst he
      obtain ⟨x, hx, rfl⟩ := enumD_get 0 _ k d hd
      rw [List.getElem?_map] at hx
      cases hc : row[k]? with
      | none => rw [hc] at hx; cases hx
      | some c =>
        rw [hc] at hx
        cases hx
        have hk : k < row.length := (List.getElem?_eq_some_iff.mp hc).1
        have hcb := hr c (List.mem_of_getElem? hc)
        obtain ⟨w, hwk⟩ : ∃ w, W[k]? = some w := ⟨W[k], List.getElem?_eq_getElem (by omega)⟩
        have g1 := arrK_get (tick := tick) (row := row) (k := k) hwk
        rw [if_neg (Nat.lt_irrefl k)] at g1
        rw [Nat.zero_add]
        have hcd : row.getD k 0 = c := by rw [List.getD_eq_getElem?_getD, hc]; rfl
        have hlw := hw w (List.mem_of_getElem? hwk)
        have g2 : ((arrK tick row W k).map fun l => PyData.list (encI l))[k]? = some (.list (encI w)) := by rw [List.getElem?_map, g1]; rfl
        have m3 := mAdd2_ev (i := 5) (j := k) (k := mVar 12) (m := mBin gMulB (mMap gLst (mCons (mVar 10) (mRet []))) (mVar 13)) (env := rbE hall coms order ranks desks (arrK tick row W k) A B L T [some (SV.fz (.int tick)), some (SV.fz rowD), some (SV.fz (.int k)), some (SV.fz (.int c)), j14, j15, j16, j17, j18]) (ys := encI (List.replicate c.toNat tick)) rfl rfl g2
          (mBin_ev (mMap_ev (x := [.int tick]) (z := .list [.int tick]) (mCons_ev (n := mRet []) rfl rfl) rfl) rfl (gRep_tick tick hcb.1 hcb.2)) (by simp only [List.length_map, List.length_replicate]; omega)
        have m4 := sPut2_ev (i := 5) (j := k) (k := mVar 12) (io := false) (ds := (arrK tick row W k).map fun l => PyData.list (encI l)) rfl m3 rfl (by rw [List.length_map, arrK_len]; omega)
        have e1 : encI w ++ encI (List.replicate c.toNat tick) = encI (w ++ List.replicate (row.getD k 0).toNat tick) := by
          rw [hcd]
          simp [encI]
        rw [e1, encW_set, arrK_step hwk] at m4
        refine ⟨_, _, rfl, (sSeq_nx m4).trans rfl, ⟨_, _, rfl⟩⟩)
  obtain ⟨e', h1, a, b, he⟩ := key
  subst he
  rw [List.length_nil, Nat.zero_add, enumD_len, List.length_map] at h1
  exact ⟨a, b, h1⟩
end Dn

set_option maxHeartbeats 1000000
/-! M8: a desk's turn. -/
namespace Dn
open PySem PySem.Spec PyProof.Rows L2
def encO : Option Nat → D
  | none => .none
  | some r => .int r
def ordD (n : Nat) : D := .list ((List.range n).map fun (r : Nat) => PyData.int r)
/-- whom the desk takes -/
def whom (n : Nat) (tick : Int) (desk : List Int) (W : List (List Int)) (a : Int) : Option Nat := if a ≤ tick then (List.range n).find? (canTake desk W) else none
theorem encI_at {A : List Int} {i : Nat} {a : Int} (h : A[i]? = some a) : atI (encI A) (i : Int) = some (.int a) := atI_nat (by rw [List.getElem?_map, h]; rfl)
theorem whom_ok {hall coms ranks desks : D} {W T : List (List Int)} {A desk : List Int} {B L tk : List D} {tick a : Int} {rowD : D} {j12 j13 j17 j18 : Option SV} {at' n : Nat} (hn : n ≤ W.length) (ha : A[at']? = some a) :
    mLend (mIf (mMap gB (mBin gLe (mBin gIx (mVar 6) (mVar 15)) (mVar 10))) (mMap (lenIs 3 F__law_order) (mCons (mVar 16) (mCons (mVar 5) (mCons (mVar 2) (mRet []))))) (mRet .none))
      (rbE hall coms (ordD n) ranks desks W A B L T [some (SV.fz (.int tick)), some (SV.fz rowD), j12, j13, some (SV.ow false 0 (.list tk)), some (SV.fz (.int at')), some (SV.fz (.tuple (encI desk))), j17, j18]) =
    some (encO (whom n tick desk W a), rbE hall coms (ordD n) ranks desks W A B L T [some (SV.fz (.int tick)), some (SV.fz rowD), j12, j13, some (SV.ow false 0 (.list tk)), some (SV.fz (.int at')), some (SV.fz (.tuple (encI desk))), j17, j18]) := by
  obtain ⟨e, he⟩ : ∃ e, lendE (rbE hall coms (ordD n) ranks desks W A B L T [some (SV.fz (.int tick)), some (SV.fz rowD), j12, j13, some (SV.ow false 0 (.list tk)), some (SV.fz (.int at')), some (SV.fz (.tuple (encI desk))), j17, j18]) = e := ⟨_, rfl⟩
  have v6 : mVar 6 e = some (.list (encI A), e) := by subst he; rfl
  have v15 : mVar 15 e = some (.int at', e) := by subst he; rfl
  have v10 : mVar 10 e = some (.int tick, e) := by subst he; rfl
  have v16 : mVar 16 e = some (.tuple (encI desk), e) := by subst he; rfl
  have v5 : mVar 5 e = some (encW W, e) := by subst he; rfl
  have v2 : mVar 2 e = some (ordD n, e) := by subst he; rfl
  have t := mMap_ev (g := gB) (z := decide (a ≤ tick)) (mBin_ev (g := gLe) (mBin_ev (g := gIx) v6 v15 (encI_at ha)) v10 (z := .bool (decide (a ≤ tick))) rfl) rfl
  have hcall : mMap (lenIs 3 F__law_order) (mCons (mVar 16) (mCons (mVar 5) (mCons (mVar 2) (mRet [])))) e = some (encO ((List.range n).find? (canTake desk W)), e) := by
    refine mMap_ev (mCons_ev v16 (mCons_ev v5 (mCons_ev v2 (n := mRet []) rfl))) ?_
    have o := order_ok desk W (List.range n) fun r hr => Nat.lt_of_lt_of_le (List.mem_range.mp hr) hn
    unfold lenIs
    rw [if_pos (show [PyData.tuple (encI desk), encW W, ordD n].length = 3 from rfl)]
    refine o.trans ?_
    cases (List.range n).find? (canTake desk W) <;> rfl
  have fl : ∀ o, flatD (encO o) = true := fun o => by cases o <;> rfl
  refine mLend_ev (e1 := e) ?_ (fl _)
  rw [he, mIf_ev t]
  unfold whom
  by_cases h : a ≤ tick
  · rw [if_pos (decide_eq_true h), if_pos h]
    exact hcall
  · rw [if_neg (by simpa using h), if_neg h]
    rfl
/-- the run's state at a desk -/
structure DS where
  W : List (List Int)
  A : List Int
  T : List (List Int)
  tk : List (Option Nat)
def DS.step (rs : List (Int × Int)) (n : Nat) (tick : Int) (at' : Nat) (desk : List Int) (s : DS) : DS :=
  match whom n tick desk s.W (s.A.getD at' 0) with
  | none => { s with tk := s.tk ++ [none] }
  | some r => ⟨s.W.set r (s.W.getD r []).tail, s.A.set at' (tick + (rs.getD r (0, 0)).2), s.T.set r (s.T.getD r [] ++ [tick - (s.W.getD r []).headD 0]), s.tk ++ [some r]⟩
theorem whom_some {n : Nat} {tick a : Int} {desk : List Int} {W : List (List Int)} {r : Nat} (h : whom n tick desk W a = some r) : a ≤ tick ∧ r < n ∧ canTake desk W r = true := by
  unfold whom at h
  split at h
  · rename_i ha
    exact ⟨ha, List.mem_range.mp (List.mem_of_find?_eq_some h), List.find?_some h⟩
  · cases h
end Dn

set_option maxHeartbeats 1000000
/-! M9: a desk's turn, as the run has it. -/
namespace Dn
open PySem PySem.Spec PyProof.Rows L2
theorem sPut_ev {i j : Nat} {k m : Mo D} {env : DEnv} {io : Bool} {ds : List D} {d : D} (h0 : ownAt env i = some (io, ds)) (hm : m env = some (d, env)) (h1 : k env = some (.int j, env)) (hj : j < ds.length) :
    sPut i k m env = some (.nx (env.set i (some (.ow io 0 (.list (ds.set j d)))))) := by
  unfold sPut
  simp only [hm, h0, h1, Evl.ixN_nat hj]
abbrev deskB : So := (sSeq (sSet 17 (mLend (mIf (mMap gB (mBin gLe (mBin gIx (mVar 6) (mVar 15)) (mVar 10))) (mMap (lenIs 3 F__law_order) (mCons (mVar 16) (mCons (mVar 5) (mCons (mVar 2) (mRet []))))) (mRet .none))))
    (sSeq (sApp 14 (mVar 17))
    (sSeq (sIf (mMap gB (mMap gNotN (mVar 17))) (sSeq (sApp2 9 (mVar 17) (mBin gSub (mVar 10) (mPop2 5 (mVar 17) (mRet (.int 0)))))
    (sSeq (sPut 6 (mVar 15) (mBin gAdd (mVar 10) (mBin gIx (mBin gIx (mVar 3) (mVar 17)) (mRet (.int 1)))))
    sNil)) sNil)
    sNil)))
theorem encI_set (A : List Int) (i : Nat) (x : Int) : (encI A).set i (.int x) = encI (A.set i x) := by simp [encI, List.map_set]
theorem desk_ok {hall coms desks : D} {rs : List (Int × Int)} {s : DS} {desk : List Int} {B L : List D} {tick a : Int} {rowD : D} {j12 j13 j17 j18 : Option SV} {at' n : Nat} (hn : n ≤ s.W.length) (hT : n ≤ s.T.length) (hr : n ≤ rs.length) (ha : s.A[at']? = some a) (hl : ∀ t ∈ s.T, t.length < 90000) (hk : s.tk.length < 90000) :
    ∃ j17', deskB (rbE hall coms (ordD n) (.tuple (rs.map encR)) desks s.W s.A B L s.T [some (SV.fz (.int tick)), some (SV.fz rowD), j12, j13, some (SV.ow false 0 (.list (s.tk.map encO))), some (SV.fz (.int at')), some (SV.fz (.tuple (encI desk))), j17, j18]) =
      some (.nx (rbE hall coms (ordD n) (.tuple (rs.map encR)) desks (s.step rs n tick at' desk).W (s.step rs n tick at' desk).A B L (s.step rs n tick at' desk).T [some (SV.fz (.int tick)), some (SV.fz rowD), j12, j13, some (SV.ow false 0 (.list ((s.step rs n tick at' desk).tk.map encO))), some (SV.fz (.int at')), some (SV.fz (.tuple (encI desk))), j17', j18])) := by
  have hA : s.A.getD at' 0 = a := by rw [List.getD_eq_getElem?_getD, ha]; rfl
  have h1 := whom_ok (hall := hall) (coms := coms) (ranks := .tuple (rs.map encR)) (desks := desks) (W := s.W) (T := s.T) (A := s.A) (desk := desk) (B := B) (L := L) (tk := s.tk.map encO) (tick := tick) (rowD := rowD) (j12 := j12) (j13 := j13) (j17 := j17) (j18 := j18) hn ha
  unfold deskB DS.step
  rw [hA, sSeq_nx (e1 := rbE hall coms (ordD n) (.tuple (rs.map encR)) desks s.W s.A B L s.T [some (SV.fz (.int tick)), some (SV.fz rowD), j12, j13, some (SV.ow false 0 (.list (s.tk.map encO))), some (SV.fz (.int at')), some (SV.fz (.tuple (encI desk))), some (SV.fz (encO (whom n tick desk s.W a))), j18]) (sSet_ev h1)]
  cases hw : whom n tick desk s.W a with
  | none =>
    refine ⟨some (SV.fz (encO none)), ?_⟩
    dsimp only
    rw [sSeq_nx (e1 := rbE hall coms (ordD n) (.tuple (rs.map encR)) desks s.W s.A B L s.T [some (SV.fz (.int tick)), some (SV.fz rowD), j12, j13, some (SV.ow false 0 (.list ((s.tk ++ [none]).map encO))), some (SV.fz (.int at')), some (SV.fz (.tuple (encI desk))), some (SV.fz (encO none)), j18])
      ((sApp_ev (i := 14) (m := mVar 17) (env := rbE hall coms (ordD n) (.tuple (rs.map encR)) desks s.W s.A B L s.T [some (SV.fz (.int tick)), some (SV.fz rowD), j12, j13, some (SV.ow false 0 (.list (s.tk.map encO))), some (SV.fz (.int at')), some (SV.fz (.tuple (encI desk))), some (SV.fz (encO none)), j18]) (ds := s.tk.map encO) (d := encO none) ⟨_, rfl⟩ rfl rfl (by rw [List.length_map]; omega)).trans (by rw [List.map_append]; rfl))]
    rfl
  | some r =>
    refine ⟨some (SV.fz (encO (some r))), ?_⟩
    dsimp only
    obtain ⟨_, hrn, hcan⟩ := whom_some hw
    unfold canTake at hcan
    rw [Bool.and_eq_true] at hcan
    obtain ⟨x0, xs, hx⟩ : ∃ x0 xs, s.W.getD r [] = x0 :: xs := by
      cases hq : s.W.getD r [] with
      | nil => rw [hq] at hcan; simp at hcan
      | cons x0 xs => exact ⟨x0, xs, rfl⟩
    have hWr : s.W[r]? = some (x0 :: xs) := by
      rw [← hx, List.getD_eq_getElem?_getD, List.getElem?_eq_getElem (by omega)]
      rfl
    obtain ⟨t, hTr⟩ : ∃ t, s.T[r]? = some t := ⟨s.T[r], List.getElem?_eq_getElem (by omega)⟩
    have hTd : s.T.getD r [] = t := by rw [List.getD_eq_getElem?_getD, hTr]; rfl
    obtain ⟨p, hp⟩ : ∃ p, rs[r]? = some p := ⟨rs[r], List.getElem?_eq_getElem (by omega)⟩
    have hpd : rs.getD r (0, 0) = p := by rw [List.getD_eq_getElem?_getD, hp]; rfl
    have htl := hl t (List.mem_of_getElem? hTr)
    rw [hx, hTd, hpd]
    rw [sSeq_nx (e1 := rbE hall coms (ordD n) (.tuple (rs.map encR)) desks s.W s.A B L s.T [some (SV.fz (.int tick)), some (SV.fz rowD), j12, j13, some (SV.ow false 0 (.list ((s.tk ++ [some r]).map encO))), some (SV.fz (.int at')), some (SV.fz (.tuple (encI desk))), some (SV.fz (encO (some r))), j18])
      ((sApp_ev (i := 14) (m := mVar 17) (env := rbE hall coms (ordD n) (.tuple (rs.map encR)) desks s.W s.A B L s.T [some (SV.fz (.int tick)), some (SV.fz rowD), j12, j13, some (SV.ow false 0 (.list (s.tk.map encO))), some (SV.fz (.int at')), some (SV.fz (.tuple (encI desk))), some (SV.fz (encO (some r))), j18]) (ds := s.tk.map encO) (d := encO (some r)) ⟨_, rfl⟩ rfl rfl (by rw [List.length_map]; omega)).trans (by rw [List.map_append]; rfl))]
    have m1 := mPop2_0 (i := 5) (j := r) (k := mVar 17) (io := false) (ds := s.W.map fun l => PyData.list (encI l)) (x := .int x0) (xs := encI xs) (env := (rbE hall coms (ordD n) (.tuple (rs.map encR)) desks s.W s.A B L s.T [some (SV.fz (.int tick)), some (SV.fz rowD), j12, j13, some (SV.ow false 0 (.list ((s.tk ++ [some r]).map encO))), some (SV.fz (.int at')), some (SV.fz (.tuple (encI desk))), some (SV.fz (encO (some r))), j18]).set 9 none) rfl rfl (by rw [List.getElem?_map, hWr]; rfl)
    have m2 := sApp2_ev (i := 9) (j := r) (k := mVar 17) (io := false) (ds := s.T.map fun l => PyData.list (encI l)) (xs := encI t) (env := rbE hall coms (ordD n) (.tuple (rs.map encR)) desks s.W s.A B L s.T [some (SV.fz (.int tick)), some (SV.fz rowD), j12, j13, some (SV.ow false 0 (.list ((s.tk ++ [some r]).map encO))), some (SV.fz (.int at')), some (SV.fz (.tuple (encI desk))), some (SV.fz (encO (some r))), j18]) rfl rfl (by rw [List.getElem?_map, hTr]; rfl) (mBin_ev (g := gSub) (m := mVar 10) (x := .int tick) rfl m1 (z := .int (tick - x0)) rfl) (by rw [List.length_map]; omega)
    have e1 : encI t ++ [PyData.int (tick - x0)] = encI (t ++ [tick - x0]) := by simp [encI]
    rw [e1, encW_set, encW_set] at m2
    have i1 : sIf (mMap gB (mMap gNotN (mVar 17))) (sSeq (sApp2 9 (mVar 17) (mBin gSub (mVar 10) (mPop2 5 (mVar 17) (mRet (.int 0))))) (sSeq (sPut 6 (mVar 15) (mBin gAdd (mVar 10) (mBin gIx (mBin gIx (mVar 3) (mVar 17)) (mRet (.int 1))))) sNil)) sNil (rbE hall coms (ordD n) (.tuple (rs.map encR)) desks s.W s.A B L s.T [some (SV.fz (.int tick)), some (SV.fz rowD), j12, j13, some (SV.ow false 0 (.list ((s.tk ++ [some r]).map encO))), some (SV.fz (.int at')), some (SV.fz (.tuple (encI desk))), some (SV.fz (encO (some r))), j18]) = _ := sIf_t (e1 := _) rfl
    have m3 := sPut_ev (i := 6) (j := at') (k := mVar 15) (m := mBin gAdd (mVar 10) (mBin gIx (mBin gIx (mVar 3) (mVar 17)) (mRet (.int 1)))) (io := false) (ds := encI s.A) (d := .int (tick + p.2))
      (env := rbE hall coms (ordD n) (.tuple (rs.map encR)) desks (s.W.set r xs) s.A B L (s.T.set r (t ++ [tick - x0])) [some (SV.fz (.int tick)), some (SV.fz rowD), j12, j13, some (SV.ow false 0 (.list ((s.tk ++ [some r]).map encO))), some (SV.fz (.int at')), some (SV.fz (.tuple (encI desk))), some (SV.fz (encO (some r))), j18]) rfl
      (mBin_ev (m := mVar 10) (x := .int tick) rfl (mBin_ev (g := gIx) (x := encR p) (mBin_ev (g := gIx) (m := mVar 3) (x := .tuple (rs.map encR)) rfl (n := mVar 17) (y := .int r) rfl (atI_nat (by rw [List.getElem?_map, hp]; rfl))) (n := mRet (.int 1)) rfl (atI_1 _ _ _)) (gAdd_int tick p.2)) rfl (by rw [List.length_map]; exact (List.getElem?_eq_some_iff.mp ha).1)
    rw [encI_set] at m3
    rw [sSeq_nx (i1.trans ((sSeq_nx m2).trans ((sSeq_nx m3).trans rfl)))]
    rfl
end Dn

set_option maxHeartbeats 1000000
/-! M10: all desks' turns at a tick. -/
namespace Dn
open PySem PySem.Spec PyProof.Rows L2
/-- the turns of the first k desks -/
def DS.steps (rs : List (Int × Int)) (n : Nat) (tick : Int) (desks : List (List Int)) (s : DS) : Nat → DS
  | 0 => s
  | k + 1 => (DS.steps rs n tick desks s k).step rs n tick k (desks.getD k [])
theorem step_len (rs : List (Int × Int)) (n : Nat) (tick : Int) (k : Nat) (desk : List Int) (s : DS) : (s.step rs n tick k desk).W.length = s.W.length ∧ (s.step rs n tick k desk).A.length = s.A.length ∧ (s.step rs n tick k desk).T.length = s.T.length ∧ (s.step rs n tick k desk).tk.length = s.tk.length + 1 := by
  unfold DS.step
  split <;> simp
theorem steps_len (rs : List (Int × Int)) (n : Nat) (tick : Int) (desks : List (List Int)) (s : DS) : ∀ k, (s.steps rs n tick desks k).W.length = s.W.length ∧ (s.steps rs n tick desks k).A.length = s.A.length ∧ (s.steps rs n tick desks k).T.length = s.T.length ∧ (s.steps rs n tick desks k).tk.length = s.tk.length + k
  | 0 => ⟨rfl, rfl, rfl, rfl⟩
  | k + 1 => by
    obtain ⟨h1, h2, h3, h4⟩ := steps_len rs n tick desks s k
    obtain ⟨k1, k2, k3, k4⟩ := step_len rs n tick k (desks.getD k []) (s.steps rs n tick desks k)
    exact ⟨k1.trans h1, k2.trans h2, k3.trans h3, by show (DS.step _ _ _ _ _ _).tk.length = _; rw [k4, h4]; omega⟩
theorem step_T {rs : List (Int × Int)} {n : Nat} {tick : Int} {k : Nat} {desk : List Int} {s : DS} {b : Nat} (h : ∀ t ∈ s.T, t.length ≤ b) : ∀ t ∈ (s.step rs n tick k desk).T, t.length ≤ b + 1 := by
  unfold DS.step
  split
  · exact fun t ht => Nat.le_succ_of_le (h t ht)
  · rename_i r _
    intro t ht
    rcases List.mem_or_eq_of_mem_set ht with h1 | h1
    · exact Nat.le_succ_of_le (h t h1)
    · subst h1
      rw [List.length_append]
      have : (s.T.getD r []).length ≤ b := by
        rw [List.getD_eq_getElem?_getD]
        cases hq : s.T[r]? with
        | none => exact Nat.zero_le _
        | some u => exact h u (List.mem_of_getElem? hq)
      simpa using this
theorem steps_T {rs : List (Int × Int)} {n : Nat} {tick : Int} {desks : List (List Int)} {s : DS} {b : Nat} (h : ∀ t ∈ s.T, t.length ≤ b) : ∀ k, ∀ t ∈ (s.steps rs n tick desks k).T, t.length ≤ b + k
  | 0 => h
  | k + 1 => fun t ht => step_T (steps_T h k) t ht
theorem desks_ok {hall coms : D} {rs : List (Int × Int)} {s : DS} {desks : List (List Int)} {B L : List D} {tick : Int} {rowD : D} {j12 j13 j15 j16 j17 j18 : Option SV} {n b : Nat} (hn : n ≤ s.W.length) (hT : n ≤ s.T.length) (hr : n ≤ rs.length) (hA : s.A.length = desks.length) (hl : ∀ t ∈ s.T, t.length ≤ b) (hb : b + desks.length < 90000) (hk : s.tk = []) :
    ∃ a15 a16 a17, forGo (gTu 2 (gsCons (gNm 15) (gsCons (gNm 16) gsNil))) deskB (enumD 0 (desks.map fun d => .tuple (encI d)))
      (rbE hall coms (ordD n) (.tuple (rs.map encR)) (.tuple (desks.map fun d => .tuple (encI d))) s.W s.A B L s.T [some (SV.fz (.int tick)), some (SV.fz rowD), j12, j13, some (SV.ow false 0 (.list (s.tk.map encO))), j15, j16, j17, j18]) =
      some (.nx (rbE hall coms (ordD n) (.tuple (rs.map encR)) (.tuple (desks.map fun d => .tuple (encI d))) (s.steps rs n tick desks desks.length).W (s.steps rs n tick desks desks.length).A B L (s.steps rs n tick desks desks.length).T [some (SV.fz (.int tick)), some (SV.fz rowD), j12, j13, some (SV.ow false 0 (.list ((s.steps rs n tick desks desks.length).tk.map encO))), a15, a16, a17, j18])) := by
  have key := forGo_ix (tgt := gTu 2 (gsCons (gNm 15) (gsCons (gNm 16) gsNil))) (body := deskB)
    (fun k e => ∃ a15 a16 a17, e = rbE hall coms (ordD n) (.tuple (rs.map encR)) (.tuple (desks.map fun d => .tuple (encI d))) (s.steps rs n tick desks k).W (s.steps rs n tick desks k).A B L (s.steps rs n tick desks k).T [some (SV.fz (.int tick)), some (SV.fz rowD), j12, j13, some (SV.ow false 0 (.list ((s.steps rs n tick desks k).tk.map encO))), a15, a16, a17, j18])
    [] (enumD 0 (desks.map fun d => .tuple (encI d))) _ ⟨j15, j16, j17, rfl⟩ (fun k d e hd ⟨a15, a16, a17, he⟩ => by
      subst he
      obtain ⟨x, hx, rfl⟩ := enumD_get 0 _ k d hd
      rw [List.getElem?_map] at hx
      cases hc : desks[k]? with
      | none => rw [hc] at hx; cases hx
      | some dk =>
        rw [hc] at hx
        cases hx
        rw [Nat.zero_add]
        have hk' : k < desks.length := (List.getElem?_eq_some_iff.mp hc).1
        have hdk : desks.getD k [] = dk := by rw [List.getD_eq_getElem?_getD, hc]; rfl
        obtain ⟨l1, l2, l3, l4⟩ := steps_len rs n tick desks s k
        obtain ⟨a, ha⟩ : ∃ a, (s.steps rs n tick desks k).A[k]? = some a := ⟨_, List.getElem?_eq_getElem (by omega)⟩
        obtain ⟨j17', h⟩ := desk_ok (hall := hall) (coms := coms) (desks := .tuple (desks.map fun d => .tuple (encI d))) (rs := rs) (s := s.steps rs n tick desks k) (desk := dk) (B := B) (L := L) (tick := tick) (rowD := rowD) (j12 := j12) (j13 := j13) (j17 := a17) (j18 := j18) (at' := k) (n := n) (by omega) (by omega) hr ha
          (fun t ht => by have := steps_T (rs := rs) (n := n) (tick := tick) (desks := desks) hl k t ht; omega) (by rw [l4, hk]; simp; omega)
        refine ⟨_, _, rfl, h, ⟨some (SV.fz (.int k)), some (SV.fz (.tuple (encI dk))), j17', ?_⟩⟩
        show _ = rbE _ _ _ _ _ (DS.step rs n tick k (desks.getD k []) _).W _ _ _ _ _
        rw [← hdk]
        rfl)
  obtain ⟨e', h1, a15, a16, a17, he⟩ := key
  subst he
  rw [List.length_nil, Nat.zero_add, enumD_len, List.length_map] at h1
  exact ⟨a15, a16, a17, h1⟩
end Dn

set_option maxHeartbeats 1000000
/-! M11: a tick of the run. -/
namespace Dn
open PySem PySem.Spec PyProof.Rows L2
structure RnS where
  W : List (List Int)
  A : List Int
  T : List (List Int)
  B : List (List (Option Nat))
  L : List (List (List Int))
/-- the desks' turns at a tick -/
def RnS.desk (rs : List (Int × Int)) (n : Nat) (desks : List (List Int)) (tick : Int) (row : List Int) (s : RnS) : DS := DS.steps rs n tick desks ⟨arrK tick row s.W row.length, s.A, s.T, []⟩ desks.length
def RnS.tick (rs : List (Int × Int)) (n : Nat) (desks : List (List Int)) (tick : Int) (row : List Int) (s : RnS) : RnS :=
  ⟨(s.desk rs n desks tick row).W, (s.desk rs n desks tick row).A, (s.desk rs n desks tick row).T, s.B ++ [(s.desk rs n desks tick row).tk], s.L ++ [(s.desk rs n desks tick row).W]⟩
abbrev encB (B : List (List (Option Nat))) : List D := B.map fun t => .tuple (t.map encO)
abbrev encL (L : List (List (List Int))) : List D := L.map encW
abbrev tickB : So := (sSeq (sFor (mMap gEnum (mCons (mVar 11) (mRet []))) (gTu 2 (gsCons (gNm 12) (gsCons (gNm 13) gsNil))) (sSeq (sPut2 5 (mVar 12) (mAdd2 5 (mVar 12) (mBin gMulB (mMap gLst (mCons (mVar 10) (mRet []))) (mVar 13))))
    sNil))
    (sSeq (sSetN 14 0 (mMap gLst (mRet [])))
    (sSeq (sFor (mMap gEnum (mCons (mVar 4) (mRet []))) (gTu 2 (gsCons (gNm 15) (gsCons (gNm 16) gsNil))) deskB)
    (sFrz 14 (sSeq (sApp 7 (mMap gTuple (mCons (mVar 14) (mRet []))))
    (sSeq (sApp 8 (mCopy2 5 18))
    sNil))))))
theorem listsOf_W (W : List (List Int)) : listsOf (W.map fun l => PyData.list (encI l)) = some (W.map fun l => PyData.list (encI l)) := by
  induction W with
  | nil => rfl
  | cons w W ih => simp only [List.map_cons, listsOf, ih, Option.map_some]
theorem mCopy2_ev {i j : Nat} {env : DEnv} {io : Bool} {W : List (List Int)} (h : env[i]? = some (some (SV.ow io 1 (encW W)))) (hl : W.length ≤ 100000) (hj : j < env.length) : mCopy2 i j env = some (encW W, env) := by
  unfold mCopy2
  simp only [own2At_ev h]
  rw [if_pos ⟨by rw [List.length_map]; exact hl, hj⟩, listsOf_W]
  rfl
theorem tick_ok {hall coms : D} {rs : List (Int × Int)} {s : RnS} {desks : List (List Int)} {tick : Int} {row : List Int} {j12 j13 j14 j15 j16 j17 j18 : Option SV} {n b : Nat} (hn : n ≤ s.W.length) (hT : n ≤ s.T.length) (hr : n ≤ rs.length) (hA : s.A.length = desks.length) (hrow : row.length = s.W.length) (hc : ∀ c ∈ row, 0 ≤ c ∧ c ≤ 1000)
    (hw : ∀ w ∈ s.W, w.length ≤ 90000) (hWl : s.W.length ≤ 100) (hl : ∀ t ∈ s.T, t.length ≤ b) (hb : b + desks.length < 90000) (hB : s.B.length < 90000) (hL : s.L.length < 90000) :
    ∃ a12 a13 a14 a15 a16 a17, tickB (rbE hall coms (ordD n) (.tuple (rs.map encR)) (.tuple (desks.map fun d => .tuple (encI d))) s.W s.A (encB s.B) (encL s.L) s.T [some (SV.fz (.int tick)), some (SV.fz (.tuple (encI row))), j12, j13, j14, j15, j16, j17, j18]) =
      some (.nx (rbE hall coms (ordD n) (.tuple (rs.map encR)) (.tuple (desks.map fun d => .tuple (encI d))) (s.tick rs n desks tick row).W (s.tick rs n desks tick row).A (encB (s.tick rs n desks tick row).B) (encL (s.tick rs n desks tick row).L) (s.tick rs n desks tick row).T
        [some (SV.fz (.int tick)), some (SV.fz (.tuple (encI row))), a12, a13, a14, a15, a16, a17, j18])) := by
  obtain ⟨a12, a13, h1⟩ := arrive_ok (hall := hall) (coms := coms) (order := ordD n) (ranks := .tuple (rs.map encR)) (desks := .tuple (desks.map fun d => .tuple (encI d))) (rowD := .tuple (encI row)) (W := s.W) (T := s.T) (A := s.A) (B := encB s.B) (L := encL s.L) (tick := tick) (row := row) (j12 := j12) (j13 := j13) (j14 := j14) (j15 := j15) (j16 := j16) (j17 := j17) (j18 := j18) hrow hc hw
  obtain ⟨a15, a16, a17, h2⟩ := desks_ok (hall := hall) (coms := coms) (rs := rs) (s := ⟨arrK tick row s.W row.length, s.A, s.T, []⟩) (desks := desks) (B := encB s.B) (L := encL s.L) (tick := tick) (rowD := .tuple (encI row)) (j12 := a12) (j13 := a13) (j15 := j15) (j16 := j16) (j17 := j17) (j18 := j18) (n := n) (b := b) (by rw [arrK_len]; exact hn) hT hr hA hl hb rfl
  obtain ⟨l1, l2, l3, l4⟩ := steps_len rs n tick desks ⟨arrK tick row s.W row.length, s.A, s.T, []⟩ desks.length
  refine ⟨a12, a13, some (SV.fz (.list ((s.desk rs n desks tick row).tk.map encO))), a15, a16, a17, ?_⟩
  have i1 : mMap gEnum (mCons (mVar 11) (mRet [])) (rbE hall coms (ordD n) (.tuple (rs.map encR)) (.tuple (desks.map fun d => .tuple (encI d))) s.W s.A (encB s.B) (encL s.L) s.T [some (SV.fz (.int tick)), some (SV.fz (.tuple (encI row))), j12, j13, j14, j15, j16, j17, j18]) = some (enumD 0 (encI row), _) := mMap_ev (mCons_ev (n := mRet []) rfl rfl) rfl
  unfold tickB
  rw [sSeq_nx ((sFor_ev i1).trans h1)]
  rw [sSeq_nx (e1 := rbE hall coms (ordD n) (.tuple (rs.map encR)) (.tuple (desks.map fun d => .tuple (encI d))) (arrK tick row s.W row.length) s.A (encB s.B) (encL s.L) s.T [some (SV.fz (.int tick)), some (SV.fz (.tuple (encI row))), a12, a13, some (SV.ow false 0 (.list [])), j15, j16, j17, j18]) rfl]
  have i2 : mMap gEnum (mCons (mVar 4) (mRet [])) (rbE hall coms (ordD n) (.tuple (rs.map encR)) (.tuple (desks.map fun d => .tuple (encI d))) (arrK tick row s.W row.length) s.A (encB s.B) (encL s.L) s.T [some (SV.fz (.int tick)), some (SV.fz (.tuple (encI row))), a12, a13, some (SV.ow false 0 (.list [])), j15, j16, j17, j18]) = some (enumD 0 (desks.map fun d => .tuple (encI d)), _) := mMap_ev (mCons_ev (n := mRet []) rfl rfl) rfl
  rw [sSeq_nx ((sFor_ev i2).trans h2)]
  have a1 := sApp_ev (i := 7) (m := mMap gTuple (mCons (mVar 14) (mRet []))) (io := false) (ds := encB s.B) (d := .tuple ((s.desk rs n desks tick row).tk.map encO)) (env := rbE hall coms (ordD n) (.tuple (rs.map encR)) (.tuple (desks.map fun d => .tuple (encI d))) (s.desk rs n desks tick row).W (s.desk rs n desks tick row).A (encB s.B) (encL s.L) (s.desk rs n desks tick row).T [some (SV.fz (.int tick)), some (SV.fz (.tuple (encI row))), a12, a13, some (SV.fz (.list ((s.desk rs n desks tick row).tk.map encO))), a15, a16, a17, j18])
    ⟨_, rfl⟩ (mMap_ev (mCons_ev (n := mRet []) rfl rfl) rfl) rfl (by rw [List.length_map]; omega)
  have a2 := sApp_ev (i := 8) (m := mCopy2 5 18) (io := false) (ds := encL s.L) (d := encW (s.desk rs n desks tick row).W) (env := rbE hall coms (ordD n) (.tuple (rs.map encR)) (.tuple (desks.map fun d => .tuple (encI d))) (s.desk rs n desks tick row).W (s.desk rs n desks tick row).A (encB s.B ++ [.tuple ((s.desk rs n desks tick row).tk.map encO)]) (encL s.L) (s.desk rs n desks tick row).T [some (SV.fz (.int tick)), some (SV.fz (.tuple (encI row))), a12, a13, some (SV.fz (.list ((s.desk rs n desks tick row).tk.map encO))), a15, a16, a17, j18])
    ⟨_, rfl⟩ (mCopy2_ev rfl (by show (DS.steps _ _ _ _ _ _).W.length ≤ _; rw [l1, arrK_len]; omega) (show 18 < 19 by decide)) rfl (by rw [List.length_map]; omega)
  refine (show sFrz 14 _ _ = sSeq (sApp 7 (mMap gTuple (mCons (mVar 14) (mRet [])))) (sSeq (sApp 8 (mCopy2 5 18)) sNil) (rbE hall coms (ordD n) (.tuple (rs.map encR)) (.tuple (desks.map fun d => .tuple (encI d))) (s.desk rs n desks tick row).W (s.desk rs n desks tick row).A (encB s.B) (encL s.L) (s.desk rs n desks tick row).T [some (SV.fz (.int tick)), some (SV.fz (.tuple (encI row))), a12, a13, some (SV.fz (.list ((s.desk rs n desks tick row).tk.map encO))), a15, a16, a17, j18]) from rfl).trans ?_
  refine (sSeq_nx a1).trans ((sSeq_nx a2).trans ?_)
  have eB : encB (s.tick rs n desks tick row).B = encB s.B ++ [.tuple ((s.desk rs n desks tick row).tk.map encO)] := by unfold encB RnS.tick; rw [List.map_append]; rfl
  have eL : encL (s.tick rs n desks tick row).L = encL s.L ++ [encW (s.desk rs n desks tick row).W] := by unfold encL RnS.tick; rw [List.map_append]; rfl
  rw [eB, eL]
  rfl
end Dn

set_option maxHeartbeats 1000000
/-! M12: the run. -/
namespace Dn
open PySem PySem.Spec PyProof.Rows L2
def RnS.runK (rs : List (Int × Int)) (n : Nat) (desks : List (List Int)) (coms : List (List Int)) (s : RnS) : Nat → RnS
  | 0 => s
  | k + 1 => (RnS.runK rs n desks coms s k).tick rs n desks k (coms.getD k [])
theorem step_W {rs : List (Int × Int)} {n : Nat} {tick : Int} {k : Nat} {desk : List Int} {s : DS} {b : Nat} (h : ∀ t ∈ s.W, t.length ≤ b) : ∀ t ∈ (s.step rs n tick k desk).W, t.length ≤ b := by
  unfold DS.step
  split
  · exact h
  · rename_i r _
    intro t ht
    rcases List.mem_or_eq_of_mem_set ht with h1 | h1
    · exact h t h1
    · subst h1
      rw [List.length_tail]
      have : (s.W.getD r []).length ≤ b := by
        rw [List.getD_eq_getElem?_getD]
        cases hq : s.W[r]? with
        | none => exact Nat.zero_le _
        | some u => exact h u (List.mem_of_getElem? hq)
      omega
theorem steps_W {rs : List (Int × Int)} {n : Nat} {tick : Int} {desks : List (List Int)} {s : DS} {b : Nat} (h : ∀ t ∈ s.W, t.length ≤ b) : ∀ k, ∀ t ∈ (s.steps rs n tick desks k).W, t.length ≤ b
  | 0 => h
  | k + 1 => step_W (steps_W h k)
theorem arrK_W {tick : Int} {row : List Int} {W : List (List Int)} {k b : Nat} (hw : ∀ w ∈ W, w.length ≤ b) (hc : ∀ c ∈ row, 0 ≤ c ∧ c ≤ 1000) : ∀ w ∈ arrK tick row W k, w.length ≤ b + 1000 := by
  intro w h
  obtain ⟨j, hj⟩ := List.mem_iff_getElem?.mp h
  have hjl : j < W.length := by rw [← arrK_len tick row W k]; exact (List.getElem?_eq_some_iff.mp hj).1
  have e := arrK_get (tick := tick) (row := row) (k := k) (List.getElem?_eq_getElem hjl)
  rw [e] at hj
  have hb := hw _ (List.getElem_mem hjl)
  cases hj
  split
  · rw [List.length_append, List.length_replicate]
    have : (row.getD j 0).toNat ≤ 1000 := by
      rw [List.getD_eq_getElem?_getD]
      cases hq : row[j]? with
      | none => exact Nat.zero_le _
      | some c =>
        have := hc c (List.mem_of_getElem? hq)
        show c.toNat ≤ 1000
        omega
    omega
  · omega
/-- what the run keeps -/
structure RnOk (n m k : Nat) (s : RnS) : Prop where
  w : s.W.length = n
  t : s.T.length = n
  a : s.A.length = m
  b : s.B.length = k
  l : s.L.length = k
  wb : ∀ w ∈ s.W, w.length ≤ 1000 * k
  tb : ∀ t ∈ s.T, t.length ≤ m * k
theorem RnOk.tick {rs : List (Int × Int)} {n k : Nat} {desks : List (List Int)} {tick : Int} {row : List Int} {s : RnS} (h : RnOk n desks.length k s) (hc : ∀ c ∈ row, 0 ≤ c ∧ c ≤ 1000) : RnOk n desks.length (k + 1) (s.tick rs n desks tick row) := by
  obtain ⟨l1, l2, l3, l4⟩ := steps_len rs n tick desks ⟨arrK tick row s.W row.length, s.A, s.T, []⟩ desks.length
  refine ⟨l1.trans ((arrK_len ..).trans h.w), l3.trans h.t, l2.trans h.a, by show (s.B ++ [_]).length = _; rw [List.length_append, h.b]; rfl, by show (s.L ++ [_]).length = _; rw [List.length_append, h.l]; rfl, fun w hw => ?_, fun t ht => ?_⟩
  · have := steps_W (rs := rs) (n := n) (tick := tick) (desks := desks) (s := ⟨arrK tick row s.W row.length, s.A, s.T, []⟩) (arrK_W h.wb hc) desks.length w hw
    omega
  · have := steps_T (rs := rs) (n := n) (tick := tick) (desks := desks) (s := ⟨arrK tick row s.W row.length, s.A, s.T, []⟩) h.tb desks.length t ht
    rw [Nat.mul_succ]
    exact this
theorem RnOk.runK {rs : List (Int × Int)} {n : Nat} {desks coms : List (List Int)} {s : RnS} (h : RnOk n desks.length 0 s) (hc : ∀ row ∈ coms, ∀ c ∈ row, 0 ≤ c ∧ c ≤ 1000) : ∀ k, RnOk n desks.length k (s.runK rs n desks coms k)
  | 0 => h
  | k + 1 => (RnOk.runK h hc k).tick (by
    rw [List.getD_eq_getElem?_getD]
    cases hq : coms[k]? with
    | none => intro c hc'; cases hc'
    | some row => exact hc row (List.mem_of_getElem? hq))
end Dn

set_option maxHeartbeats 1000000
/-! M13: the run, whole. -/
namespace Dn
open PySem PySem.Spec PyProof.Rows L2
theorem lcGo_nils {i : Nat} {vs : List Nat} {e : DEnv} (h : ∀ d, wipeD (e.set i (some (SV.fz d))) vs = e) : ∀ ds : List D, lcGo (gNm i) (mRet true) (mMap gLst (mRet [])) vs ds e = some (List.replicate ds.length (.list []), e)
  | [] => rfl
  | d :: ds => by
    have h1 : mMap gLst (mRet []) (e.set i (some (SV.fz d))) = some (.list [], e.set i (some (SV.fz d))) := rfl
    simp only [lcGo, gNm, mRet, if_pos, h1, h, lcGo_nils h ds]
    rfl
theorem ticks_ok {hall : D} {rs : List (Int × Int)} {s : RnS} {desks coms : List (List Int)} {j10 j11 j12 j13 j14 j15 j16 j17 j18 : Option SV} {n : Nat} (hs : RnOk n desks.length 0 s) (hr : n ≤ rs.length) (hn : n ≤ 4) (hd : desks.length ≤ 4) (hk : coms.length ≤ 40) (hrow : ∀ row ∈ coms, row.length = n) (hc : ∀ row ∈ coms, ∀ c ∈ row, 0 ≤ c ∧ c ≤ 1000) :
    ∃ tl, forGo (gTu 2 (gsCons (gNm 10) (gsCons (gNm 11) gsNil))) tickB (enumD 0 (coms.map fun r => .tuple (encI r)))
      (rbE hall (.tuple (coms.map fun r => .tuple (encI r))) (ordD n) (.tuple (rs.map encR)) (.tuple (desks.map fun d => .tuple (encI d))) s.W s.A (encB s.B) (encL s.L) s.T [j10, j11, j12, j13, j14, j15, j16, j17, j18]) =
      some (.nx (rbE hall (.tuple (coms.map fun r => .tuple (encI r))) (ordD n) (.tuple (rs.map encR)) (.tuple (desks.map fun d => .tuple (encI d))) (s.runK rs n desks coms coms.length).W (s.runK rs n desks coms coms.length).A (encB (s.runK rs n desks coms coms.length).B) (encL (s.runK rs n desks coms coms.length).L) (s.runK rs n desks coms coms.length).T tl)) := by
  have key := forGo_ix (tgt := gTu 2 (gsCons (gNm 10) (gsCons (gNm 11) gsNil))) (body := tickB)
    (fun k e => ∃ a10 a11 a12 a13 a14 a15 a16 a17 a18, e = rbE hall (.tuple (coms.map fun r => .tuple (encI r))) (ordD n) (.tuple (rs.map encR)) (.tuple (desks.map fun d => .tuple (encI d))) (s.runK rs n desks coms k).W (s.runK rs n desks coms k).A (encB (s.runK rs n desks coms k).B) (encL (s.runK rs n desks coms k).L) (s.runK rs n desks coms k).T [a10, a11, a12, a13, a14, a15, a16, a17, a18])
    [] (enumD 0 (coms.map fun r => .tuple (encI r))) _ ⟨j10, j11, j12, j13, j14, j15, j16, j17, j18, rfl⟩ (fun k d e hd' ⟨a10, a11, a12, a13, a14, a15, a16, a17, a18, he⟩ => by
      subst he
      obtain ⟨x, hx, rfl⟩ := enumD_get 0 _ k d hd'
      rw [List.getElem?_map] at hx
      cases hq : coms[k]? with
      | none => rw [hq] at hx; cases hx
      | some row =>
        rw [hq] at hx
        cases hx
        rw [Nat.zero_add]
        have hk' : k < coms.length := (List.getElem?_eq_some_iff.mp hq).1
        have hrk : coms.getD k [] = row := by rw [List.getD_eq_getElem?_getD, hq]; rfl
        have ok := hs.runK (rs := rs) (coms := coms) hc k
        have hmem := List.mem_of_getElem? hq
        have hmul : desks.length * k ≤ 4 * 40 := Nat.mul_le_mul hd (by omega)
        obtain ⟨b12, b13, b14, b15, b16, b17, h⟩ := tick_ok (hall := hall) (coms := .tuple (coms.map fun r => .tuple (encI r))) (rs := rs) (s := s.runK rs n desks coms k) (desks := desks) (tick := k) (row := row) (j12 := a12) (j13 := a13) (j14 := a14) (j15 := a15) (j16 := a16) (j17 := a17) (j18 := a18) (n := n) (b := desks.length * k)
          (by rw [ok.w]; exact Nat.le_refl _) (by rw [ok.t]; exact Nat.le_refl _) hr ok.a (by rw [ok.w]; exact hrow row hmem) (hc row hmem) (fun w hw => by have := ok.wb w hw; omega) (by rw [ok.w]; omega) ok.tb (by omega) (by rw [ok.b]; omega) (by rw [ok.l]; omega)
        refine ⟨_, _, rfl, h, ⟨some (SV.fz (.int k)), some (SV.fz (.tuple (encI row))), b12, b13, b14, b15, b16, b17, a18, ?_⟩⟩
        rw [← hrk]
        rfl)
  obtain ⟨e', h1, a10, a11, a12, a13, a14, a15, a16, a17, a18, he⟩ := key
  subst he
  rw [List.length_nil, Nat.zero_add, enumD_len, List.length_map] at h1
  exact ⟨_, h1⟩
end Dn

set_option maxHeartbeats 1000000
/-! M14: the run, from its hall and comings. -/
namespace Dn
open PySem PySem.Spec PyProof.Rows L2
theorem sPars_ev {is : List Nat} {m : Mo (List (Option Nat × D))} {env e1 : DEnv} {its : List (Option Nat × D)} (h : m env = some (its, e1)) (hl : is.length = its.length) : sPars is m env = some (.nx (setE is its e1)) := by
  unfold sPars
  simp only [h, hl, if_pos]
def run0 (n m : Nat) : RnS := ⟨List.replicate n [], List.replicate m 0, List.replicate n [], [], []⟩
theorem run0_ok (n m : Nat) : RnOk n m 0 (run0 n m) := by
  refine ⟨by simp [run0], by simp [run0], by simp [run0], rfl, rfl, fun w hw => ?_, fun t ht => ?_⟩
  · have := List.eq_of_mem_replicate hw
    subst this
    exact Nat.zero_le _
  · have := List.eq_of_mem_replicate ht
    subst this
    exact Nat.zero_le _
/-- the run of comings -/
def runOf (h : Hall) (coms : List (List Int)) : RnS := (run0 h.ranks.length h.desks.length).runK h.ranks h.ranks.length h.desks coms coms.length
abbrev encC (coms : List (List Int)) : D := .tuple (coms.map fun r => .tuple (encI r))
theorem flat0 (m : Nat) : (List.replicate m [PyData.int 0]).flatten = encI (List.replicate m 0) := by
  induction m with
  | zero => rfl
  | succ n ih => rw [List.replicate_succ, List.replicate_succ, List.flatten_cons, ih]; rfl
theorem run_by_ok {h : Hall} {coms : List (List Int)} (hn : h.ranks.length ≤ 4) (hd : h.desks.length ≤ 4) (hk : coms.length ≤ 40) (hrow : ∀ row ∈ coms, row.length = h.ranks.length) (hc : ∀ row ∈ coms, ∀ c ∈ row, 0 ≤ c ∧ c ≤ 1000) :
    F__law_run_by [encH h, encC coms, ordD h.ranks.length] = some (.tuple [.tuple (encB (runOf h coms).B), .list (encL (runOf h coms).L), encW (runOf h coms).T]) := by
  obtain ⟨tl, hrun⟩ := ticks_ok (hall := encH h) (rs := h.ranks) (s := run0 h.ranks.length h.desks.length) (desks := h.desks) (coms := coms) (j10 := none) (j11 := none) (j12 := none) (j13 := none) (j14 := none) (j15 := none) (j16 := none) (j17 := none) (j18 := none) (n := h.ranks.length) (run0_ok _ _) (Nat.le_refl _) hn hd hk hrow hc
  unfold F__law_run_by B__law_run_by
  rw [sSeq_nx (e1 := [some (SV.fz (encH h)), some (SV.fz (encC coms)), some (SV.fz (ordD h.ranks.length)), some (SV.fz (.tuple (h.ranks.map encR))), some (SV.fz (.tuple (h.desks.map fun d => .tuple (encI d)))), none, none, none, none, none, none, none, none, none, none, none, none, none, none]) rfl]
  have lc : mMap (fun ds => some (PyData.list ds)) (mLc (mMap gSeq (mVar 3)) (gNm 12) (mRet true) (mMap gLst (mRet [])) [12]) [some (SV.fz (encH h)), some (SV.fz (encC coms)), some (SV.fz (ordD h.ranks.length)), some (SV.fz (.tuple (h.ranks.map encR))), some (SV.fz (.tuple (h.desks.map fun d => .tuple (encI d)))), none, none, none, none, none, none, none, none, none, none, none, none, none, none] =
      some (encW (List.replicate h.ranks.length []), [some (SV.fz (encH h)), some (SV.fz (encC coms)), some (SV.fz (ordD h.ranks.length)), some (SV.fz (.tuple (h.ranks.map encR))), some (SV.fz (.tuple (h.desks.map fun d => .tuple (encI d)))), none, none, none, none, none, none, none, none, none, none, none, none, none, none]) := by
    have e1 := mLc_ev (items := mMap gSeq (mVar 3)) (tgt := gNm 12) (test := mRet true) (elt := mMap gLst (mRet [])) (vs := [12]) (env := [some (SV.fz (encH h)), some (SV.fz (encC coms)), some (SV.fz (ordD h.ranks.length)), some (SV.fz (.tuple (h.ranks.map encR))), some (SV.fz (.tuple (h.desks.map fun d => .tuple (encI d)))), none, none, none, none, none, none, none, none, none, none, none, none, none, none]) (ds := h.ranks.map encR) (mMap_ev (g := gSeq) rfl rfl) (by rw [List.length_map]; omega) rfl (lcGo_nils (fun d => rfl) _)
    rw [List.length_map] at e1
    refine (mMap_ev (g := fun ds => some (PyData.list ds)) (z := .list (List.replicate h.ranks.length (.list []))) e1 rfl).trans ?_
    rw [show encW (List.replicate h.ranks.length []) = .list (List.replicate h.ranks.length (.list [])) from by simp [encW, List.map_replicate]]
    rfl
  have lz : mBin gRep (mMap gLst (mCons (mRet (.int 0)) (mRet []))) (mMap gLen (mCons (mVar 4) (mRet []))) [some (SV.fz (encH h)), some (SV.fz (encC coms)), some (SV.fz (ordD h.ranks.length)), some (SV.fz (.tuple (h.ranks.map encR))), some (SV.fz (.tuple (h.desks.map fun d => .tuple (encI d)))), none, none, none, none, none, none, none, none, none, none, none, none, none, none] =
      some (.list (encI (List.replicate h.desks.length 0)), [some (SV.fz (encH h)), some (SV.fz (encC coms)), some (SV.fz (ordD h.ranks.length)), some (SV.fz (.tuple (h.ranks.map encR))), some (SV.fz (.tuple (h.desks.map fun d => .tuple (encI d)))), none, none, none, none, none, none, none, none, none, none, none, none, none, none]) := by
    refine mBin_ev (x := .list [.int 0]) (y := .int h.desks.length) rfl (mMap_ev (x := [.tuple (h.desks.map fun d => .tuple (encI d))]) rfl (by simp [gLen])) ?_
    simp only [gRep]
    rw [if_pos ⟨by omega, by omega, Nat.le_of_ble_eq_true rfl⟩, Int.toNat_natCast, flat0]
  rw [sSeq_nx (e1 := rbE (encH h) (encC coms) (ordD h.ranks.length) (.tuple (h.ranks.map encR)) (.tuple (h.desks.map fun d => .tuple (encI d))) (run0 h.ranks.length h.desks.length).W (run0 h.ranks.length h.desks.length).A (encB (run0 h.ranks.length h.desks.length).B) (encL (run0 h.ranks.length h.desks.length).L) (run0 h.ranks.length h.desks.length).T [none, none, none, none, none, none, none, none, none])
    ((sPars_ev (mCons_ev (mMap_ev (g := fun d => some (some 1, d)) (z := (some 1, encW (List.replicate h.ranks.length []))) lc rfl) (mCons_ev (mMap_ev (g := fun d => some (some 0, d)) (z := (some 0, PyData.list (encI (List.replicate h.desks.length 0)))) lz rfl) (mCons_ev (mMap_ev (g := fun d => some (some 0, d)) (x := PyData.list []) (z := (some 0, PyData.list [])) (m := mMap gLst (mRet [])) rfl rfl) (mCons_ev (mMap_ev (g := fun d => some (some 0, d)) (x := PyData.list []) (z := (some 0, PyData.list [])) (m := mMap gLst (mRet [])) rfl rfl) (mCons_ev (mMap_ev (g := fun d => some (some 1, d)) (z := (some 1, encW (List.replicate h.ranks.length []))) lc rfl) (n := mRet []) rfl))))) rfl).trans rfl)]
  have hi : mMap gEnum (mCons (mVar 1) (mRet [])) (rbE (encH h) (encC coms) (ordD h.ranks.length) (.tuple (h.ranks.map encR)) (.tuple (h.desks.map fun d => .tuple (encI d))) (run0 h.ranks.length h.desks.length).W (run0 h.ranks.length h.desks.length).A (encB (run0 h.ranks.length h.desks.length).B) (encL (run0 h.ranks.length h.desks.length).L) (run0 h.ranks.length h.desks.length).T [none, none, none, none, none, none, none, none, none]) = some (enumD 0 (coms.map fun r => .tuple (encI r)), _) := mMap_ev (mCons_ev (n := mRet []) rfl rfl) rfl
  rw [sSeq_nx ((sFor_ev hi).trans hrun)]
  rfl
end Dn

set_option maxHeartbeats 1000000
/-! M15: a book of one's own. -/
namespace Dn
open PySem PySem.Spec PyProof.Rows L2
theorem mCall2_ev {F : List D → Option (D × List D)} {i k : Nat} {env : DEnv} {io : Bool} {bag bag' d1 d2 z : D} {mA mB : Mo D} (h : env[i]? = some (some (SV.ow io k bag))) (h1 : mA env = some (d1, env)) (h2 : mB env = some (d2, env)) (hf : F [bag, d1, d2] = some (z, [bag'])) :
    mCallIO [some k, none, none] F (mIo i (mCons (mMap (fun d => some (AR.fz d)) mA) (mCons (mMap (fun d => some (AR.fz d)) mB) (mRet [])))) env = some (z, env.set i (some (.ow io k bag'))) := by
  have e1 : mIo i (mCons (mMap (fun d => some (AR.fz d)) mA) (mCons (mMap (fun d => some (AR.fz d)) mB) (mRet []))) env = some ([AR.io i, AR.fz d1, AR.fz d2], env) := by
    simp [mIo, h, mCons, mBind, mMap, mLift, mRet, h1, h2]
  unfold mCallIO
  simp [e1, iosOf, argsOf, h, hf, putOuts]
theorem gLstRg_nat {n : Nat} (h : n ≤ 100) : gLstRg (.int (n : Int)) = some (ordD n) := by
  have e : (2 : Int) ^ 62 = 4611686018427387904 := by decide
  unfold gLstRg
  simp only [Int.toNat_natCast]
  rw [if_pos ⟨by omega, by omega⟩]
  simp [ordD, rangeD]
theorem run_ok {h : Hall} {coms : List (List Int)} (hn : h.ranks.length ≤ 4) (hd : h.desks.length ≤ 4) (hk : coms.length ≤ 40) (hrow : ∀ row ∈ coms, row.length = h.ranks.length) (hc : ∀ row ∈ coms, ∀ c ∈ row, 0 ≤ c ∧ c ≤ 1000) :
    F__law_run [encH h, encC coms] = some (.tuple [.tuple (encB (runOf h coms).B), .list (encL (runOf h coms).L), encW (runOf h coms).T]) := by
  have hr := run_by_ok hn hd hk hrow hc
  unfold F__law_run B__law_run
  rw [show envOf ["hall", "comings"] [encH h, encC coms] = [some (SV.fz (encH h)), some (SV.fz (encC coms))] from rfl]
  have g0 : mMap gLstRg (mMap gLen (mCons (mBin gIx (mVar 0) (mRet (.int 0))) (mRet []))) [some (SV.fz (encH h)), some (SV.fz (encC coms))] = some (ordD h.ranks.length, [some (SV.fz (encH h)), some (SV.fz (encC coms))]) :=
    mMap_ev (x := .int h.ranks.length) (mMap_ev (x := [.tuple (h.ranks.map encR)]) (mCons_ev (mBin_ev (g := gIx) (x := encH h) (y := .int 0) rfl rfl (show gIx (encH h) (.int 0) = some (.tuple (h.ranks.map encR)) from atI_0 _ _)) (n := mRet []) rfl) (by simp [gLen])) (gLstRg_nat (by omega))
  rw [sSeq_rt (sRet_ev (mMap_ev (x := [encH h, encC coms, ordD h.ranks.length]) (mCons_ev rfl (mCons_ev rfl (mCons_ev g0 (n := mRet []) rfl))) ((if_pos (show [encH h, encC coms, ordD h.ranks.length].length = 3 from rfl)).trans hr)))]
  rfl
theorem own_ok {n : Nat} {bag : D} (hb : Bag n bag) (hn : n + 1000 < 1000000) {h : Hall} {R K : Nat} (hh : h.Ok R K) (hR : R ≤ 4) (hK : K ≤ 4) {T : Nat} (hT : T ≤ 40) :
    ∃ (coms : List (List Int)) (bag' : D), F__law_own [bag, encH h, .int T] = some (.tuple [.tuple (encB (runOf h coms).B), encC coms], [bag']) ∧ coms.length = T ∧ (∀ r ∈ coms, RowOk h.ranks r) ∧ Bag (n + 1000) bag' := by
  obtain ⟨coms, b', e1, hl, hrows, hb'⟩ := comings_ok hb hn hh hR hT
  have hbnd : ∀ row ∈ coms, ∀ c ∈ row, 0 ≤ c ∧ c ≤ 1000 := fun row hrow c hc => by
    obtain ⟨j, hj⟩ := List.mem_iff_getElem?.mp hc
    have hjl : j < h.ranks.length := by rw [← (hrows row hrow).1]; exact (List.getElem?_eq_some_iff.mp hj).1
    have hp := hh.rank _ (List.getElem_mem hjl)
    have := (hrows row hrow).2 j c _ hj (List.getElem?_eq_getElem hjl)
    omega
  have hr2 := hh.r2
  have hk2 := hh.k2
  have hr := run_ok (h := h) (coms := coms) (by omega) (by omega) (by omega) (fun row hrow => (hrows row hrow).1) hbnd
  refine ⟨coms, b', ?_, hl, hrows, hb'⟩
  unfold F__law_own B__law_own
  rw [show envIO ["bag", "hall", "ticks1", "comings"] [some 0, none, none] [bag, encH h, .int T] = [some (SV.ow true 0 bag), some (SV.fz (encH h)), some (SV.fz (.int T)), none] from rfl]
  rw [sSeq_nx (e1 := [some (SV.ow true 0 b'), some (SV.fz (encH h)), some (SV.fz (.int T)), some (SV.fz (encC coms))]) (sSet_ev (mCall2_ev (i := 0) (k := 0) (io := true) (mA := mVar 1) (mB := mVar 2) (env := [some (SV.ow true 0 bag), some (SV.fz (encH h)), some (SV.fz (.int T)), none]) rfl rfl rfl e1))]
  have g : mMap gTup (mCons (mBin gIx (mMap (lenIs 2 F__law_run) (mCons (mVar 1) (mCons (mVar 3) (mRet [])))) (mRet (.int 0))) (mCons (mVar 3) (mRet []))) [some (SV.ow true 0 b'), some (SV.fz (encH h)), some (SV.fz (.int T)), some (SV.fz (encC coms))] = some (.tuple [.tuple (encB (runOf h coms).B), encC coms], _) :=
    mMap_ev (x := [.tuple (encB (runOf h coms).B), encC coms]) (mCons_ev (mBin_ev (g := gIx) (mMap_ev (x := [encH h, encC coms]) (mCons_ev rfl (mCons_ev (n := mRet []) rfl rfl)) ((if_pos (show [encH h, encC coms].length = 2 from rfl)).trans hr)) (n := mRet (.int 0)) (y := .int 0) rfl (show gIx (.tuple [.tuple (encB (runOf h coms).B), .list (encL (runOf h coms).L), encW (runOf h coms).T]) (.int 0) = some (.tuple (encB (runOf h coms).B)) from atI_0 _ _)) (mCons_ev (m := mVar 3) rfl (n := mRet []) rfl)) rfl
  rw [sSeq_rt (sRet_ev g)]
  rfl
end Dn

set_option maxHeartbeats 1000000
/-! M16: all bags. -/
namespace Dn
open PySem PySem.Spec PyProof.Rows L2
theorem gPow10 : gPow (.int 10) (.int 18) = some (.int 1000000000000000000) := by
  simp only [gPow, gInt]
  rw [if_pos (by decide)]
  rfl
theorem well_ok {cell : Int} {turn : Nat} (ht : turn ≤ 5000) : ∃ d, F__law_well [.int cell, .int turn] = some d ∧ Bag 5000 d := by
  by_cases hc : (1000000000000000000 : Int) ≤ cell
  · refine ⟨.list [.int (cell - 1000000000000000000), .int (cell % 2305843009213693951), .int turn], ?_, ⟨_, _, _, rfl, Int.emod_nonneg _ (by decide), Int.emod_lt_of_pos _ (by decide), by omega, by omega⟩⟩
    simp [F__law_well, B__law_well, envOf, rIf, rRet, outN, mMap, mBin, mBind, mLift, mRet, mVar, gPow10, gGe, gCmp, gB, hc, mCons, gLst, gSub, gMod, gInt]
  · refine ⟨.list [.int 0, .int (cell % 2305843009213693951), .int turn], ?_, ⟨_, _, _, rfl, Int.emod_nonneg _ (by decide), Int.emod_lt_of_pos _ (by decide), by omega, by omega⟩⟩
    simp [F__law_well, B__law_well, envOf, rIf, rRet, outN, mMap, mBin, mBind, mLift, mRet, mVar, gPow10, gGe, gCmp, gB, hc, mCons, gLst, gSub, gMod, gInt]
end Dn

set_option maxHeartbeats 1000000
/-! M17: all bags of a script. -/
namespace Dn
open PySem PySem.Spec PyProof.Rows L2
theorem cut5 (ns : List Int) : ∃ l : List Int, cutD (encI ns) none (some 5) = encI l ∧ l.length ≤ 5 := by
  refine ⟨(ns.drop (HT.sIx (encI ns).length 0 none)).take (HT.sIx (encI ns).length (encI ns).length (some 5) - HT.sIx (encI ns).length 0 none), by simp [cutD, encI, List.map_take, List.map_drop], ?_⟩
  rw [List.length_take]
  have : HT.sIx (encI ns).length (encI ns).length (some 5) ≤ 5 := by
    have h := HT.sIx_nat (encI ns).length (encI ns).length 5
    rw [show ((5 : Nat) : Int) = 5 from rfl] at h
    rw [h]
    exact Nat.min_le_left _ _
  omega
theorem gAdd_lists {xs ys : List D} {z : D} (h : gCat (.list xs) (.list ys) = some z) : gAdd (.list xs) (.list ys) = some z := by
  simp only [gAdd, gInt, h]
theorem small4000 {x : Int} (h : x.natAbs < 2 ^ 64) : x.natAbs < 2 ^ 4000 := Nat.lt_of_lt_of_le h (Nat.pow_le_pow_right (by decide) (by decide))
theorem gMulB_small {i j : Int} (h1 : i.natAbs < 2 ^ 64) (h2 : j.natAbs < 2 ^ 64) : gMulB (.int i) (.int j) = some (.int (i * j)) := by
  simp only [gMulB, gInt, if_pos (And.intro (small4000 h1) (small4000 h2)), Option.map_some]
theorem bags_ok (ns : List Int) : ∃ bs : List D, F__law_bags [.dict [(.none, .list (encI ns))], .int 5] = some (.list bs) ∧ ∀ b ∈ bs, Bag 5000 b := by
  obtain ⟨l, hl, hl5⟩ := cut5 ns
  have g1 : mBin gAdd (mSl (mVar 0) (mRet none) (mMap (fun d => (gI d).map some) (mVar 1))) (mMap gLst (mCons (mRet (.int 0)) (mRet []))) [some (SV.fz (.dict [(.none, .list (encI ns))])), some (SV.fz (.int 5)), none, none] = some (.list (encI (l ++ [0])), [some (SV.fz (.dict [(.none, .list (encI ns))])), some (SV.fz (.int 5)), none, none]) := by
    refine mBin_ev (x := .list (encI l)) (y := .list [.int 0]) ?_ rfl ?_
    · rw [← hl]
      rfl
    · refine gAdd_lists ?_
      simp only [gCat]
      rw [if_pos (by rw [List.length_map]; simp; omega), encI_app]
  have hL := lcGo_all (tgt := gTu 2 (gsCons (gNm 2) (gsCons (gNm 3) gsNil))) (test := mRet true) (elt := mMap (lenIs 2 F__law_well) (mCons (mVar 3) (mCons (mBin gMulB (mRet (.int 977)) (mVar 2)) (mRet [])))) (vs := [2, 3]) (fun _ e => e = [some (SV.fz (.dict [(.none, .list (encI ns))])), some (SV.fz (.int 5)), none, none]) (fun _ y => Bag 5000 y) (enumD 0 (encI (l ++ [0]))) 0
    (wipeD [some (SV.fz (.dict [(.none, .list (encI ns))])), some (SV.fz (.int 5)), none, none] [2, 3]) rfl (fun m d e hd _ he => by
      subst he
      obtain ⟨j, hj⟩ := List.mem_iff_getElem?.mp hd
      obtain ⟨x, hx, rfl⟩ := enumD_get 0 _ j d hj
      have hjl : j < 6 := by
        have := (List.getElem?_eq_some_iff.mp hj).1
        rw [enumD_len, List.length_map, List.length_append] at this
        simp at this
        omega
      rw [List.getElem?_map] at hx
      cases hc : (l ++ [0])[j]? with
      | none => rw [hc] at hx; cases hx
      | some c =>
        rw [hc] at hx
        cases hx
        rw [Nat.zero_add]
        have e64 : (2 : Nat) ^ 64 = 18446744073709551616 := by decide
        obtain ⟨y, hy, hb⟩ := well_ok (cell := c) (turn := 977 * j) (by omega)
        have gm := gMulB_small (i := 977) (j := (j : Int)) (by omega) (by omega)
        rw [show (977 : Int) * (j : Int) = ((977 * j : Nat) : Int) by omega] at gm
        exact ⟨_, _, y, _, rfl, rfl, mMap_ev (x := [.int c, .int ((977 * j : Nat) : Int)]) (mCons_ev (m := mVar 3) rfl (mCons_ev (mBin_ev (m := mRet (.int 977)) rfl (n := mVar 2) rfl gm) (n := mRet []) rfl)) ((if_pos (show [PyData.int c, PyData.int ((977 * j : Nat) : Int)].length = 2 from rfl)).trans hy), hb, rfl⟩)
  obtain ⟨ys, e', h1, he', hys⟩ := hL
  subst he'
  refine ⟨ys, ?_, fun b hb => ?_⟩
  · unfold F__law_bags B__law_bags
    have hi : mMap gEnum (mCons (mBin gAdd (mSl (mVar 0) (mRet none) (mMap (fun d => (gI d).map some) (mVar 1))) (mMap gLst (mCons (mRet (.int 0)) (mRet [])))) (mRet [])) [some (SV.fz (.dict [(.none, .list (encI ns))])), some (SV.fz (.int 5)), none, none] = some (enumD 0 (encI (l ++ [0])), _) := mMap_ev (x := [.list (encI (l ++ [0]))]) (mCons_ev g1 (n := mRet []) rfl) rfl
    have := mLc_ev hi (by rw [enumD_len, List.length_map, List.length_append]; simp; omega) rfl h1
    rw [show envOf ["script", "most", "k", "cell"] [.dict [(.none, .list (encI ns))], .int 5] = [some (SV.fz (.dict [(.none, .list (encI ns))])), some (SV.fz (.int 5)), none, none] from rfl]
    unfold rRet
    rw [mMap_ev (g := fun ds => some (PyData.list ds)) this rfl]
    rfl
  · obtain ⟨j, hj⟩ := List.mem_iff_getElem?.mp hb
    have hjl : j < (enumD 0 (encI (l ++ [0]))).length := by rw [Paired.length hys]; exact (List.getElem?_eq_some_iff.mp hj).1
    obtain ⟨y, hy, hB⟩ := LiI.paired_get hys (List.getElem?_eq_getElem hjl)
    rw [hj] at hy
    cases hy
    exact hB
end Dn

set_option maxHeartbeats 1000000
/-! M18: kinds of things. -/
namespace Dn
open PySem PySem.Spec PyProof.Rows L2
theorem is_whole_int (i : Int) : F_is_whole [.int i] = some (.bool true) := by rfl
theorem is_tuple_tup (xs : List D) (a b : Int) : F_is_tuple [.tuple xs, .int a, .int b] = some (.bool (decide (a ≤ (xs.length : Int)) && decide ((xs.length : Int) ≤ b))) := by
  simp [F_is_tuple, B_is_tuple, envOf, sSeq, sRet, mAndV, mMap, mBin, mBind, mLift, mRet, mVar, gIsTuple, gB, mChain, gLe, gCmp, gLen, mCons, outF]
  by_cases h : a ≤ (xs.length : Int) <;> simp [h, mRet, mBind, mLift, mVar]
theorem is_from_to_int (i a b : Int) : F_is_from_to [.int i, .int a, .int b] = some (.bool (decide (a ≤ i) && decide (i ≤ b))) := by
  simp [F_is_from_to, B_is_from_to, envOf, sSeq, sRet, mAndV, mMap, mBin, mBind, mLift, mRet, mVar, gB, mChain, gLe, gCmp, mCons, outF, lenIs, is_whole_int]
  by_cases h : a ≤ i <;> simp [h, mRet, mBind, mLift, mVar]
end Dn

set_option maxHeartbeats 1000000
/-! M19: stays, ranks behind. -/
namespace Dn
open PySem PySem.Spec PyProof.Rows L2
/-- a comprehension whose element is told by the item, over a list of the like -/
theorem lcGo_mapE {α : Type} {tgt : D → DEnv → Option DEnv} {test : Mo Bool} {elt : Mo D} {vs : List Nat} {e : DEnv} (enc f : α → D) : ∀ (l : List α), (∀ a ∈ l, ∃ e1 e2 e3, tgt (enc a) e = some e1 ∧ test e1 = some (true, e2) ∧ elt e2 = some (f a, e3) ∧ wipeD e3 vs = e) →
    lcGo tgt test elt vs (l.map enc) e = some (l.map f, e)
  | [], _ => rfl
  | a :: l, h => by
    obtain ⟨e1, e2, e3, h1, h2, h3, h4⟩ := h a List.mem_cons_self
    simp only [List.map_cons, lcGo, h1, h2, h3, h4, if_pos, lcGo_mapE enc f l fun x hx => h x (List.mem_cons_of_mem _ hx)]
theorem all_stays_ok {h : Hall} (hl : h.ranks.length ≤ 4) : F_all_stays [encH h] = some (.list (encI (h.ranks.map (·.2)))) := by
  unfold F_all_stays B_all_stays
  rw [show envOf ["hall", "_", "stay"] [encH h] = [some (SV.fz (encH h)), none, none] from rfl]
  have hi : mMap gSeq (mBin gIx (mVar 0) (mRet (.int 0))) [some (SV.fz (encH h)), none, none] = some (h.ranks.map encR, [some (SV.fz (encH h)), none, none]) :=
    mMap_ev (x := .tuple (h.ranks.map encR)) (mBin_ev (x := encH h) (y := .int 0) rfl rfl (show gIx (encH h) (.int 0) = some (.tuple (h.ranks.map encR)) from atI_0 _ _)) rfl
  have hg := lcGo_mapE (tgt := gTu 2 (gsCons (gNm 1) (gsCons (gNm 2) gsNil))) (test := mRet true) (elt := mVar 2) (vs := [1, 2]) (e := wipeD [some (SV.fz (encH h)), none, none] [1, 2]) encR (fun p => PyData.int p.2) h.ranks fun p _ => ⟨_, _, _, rfl, rfl, rfl, rfl⟩
  have hc := mMap_ev (g := fun ds => some (PyData.list ds)) (mLc_ev hi (by rw [List.length_map]; omega) rfl hg) rfl
  rw [sSeq_rt (sRet_ev hc)]
  show some _ = some _
  simp [encI]
end Dn

set_option maxHeartbeats 1000000
/-! M20: turns of a desk. -/
namespace Dn
open PySem PySem.Spec PyProof.Rows L2
/-- of each tick whom the desk takes, 4 or -1 -/
def turnsP (stays : List Int) : Int → Nat → List (Option Nat) → List Int
  | _, _, [] => []
  | _, k, some r :: col => (r : Int) :: turnsP stays (k + stays.getD r 0) (k + 1) col
  | free, k, none :: col => (if (k : Int) < free then -1 else 4) :: turnsP stays free (k + 1) col
abbrev turnB : So := (sSeq (sIf (mMap gB (mMap gNotN (mVar 5))) (sSeq (sApp 2 (mVar 5))
    (sSeq (sSet 3 (mBin gAdd (mVar 4) (mBin gIx (mVar 0) (mVar 5))))
    sNil)) (sSeq (sApp 2 (mIf (mMap gB (mBin gLt (mVar 4) (mVar 3))) (mRet (.int (-1))) (mRet (.int (4)))))
    sNil))
    sNil)
theorem turn_go {stays : List Int} {cD : D} : ∀ (col : List (Option Nat)) (k : Nat) (free : Int) (acc : List Int) (j4 j5 : Option SV), (∀ r, some r ∈ col → r < stays.length) → acc.length + col.length < 90000 →
    ∃ free' a4 a5, forGo (gTu 2 (gsCons (gNm 4) (gsCons (gNm 5) gsNil))) turnB (enumD k (col.map encO)) [some (SV.fz (.list (encI stays))), some (SV.fz cD), some (SV.ow false 0 (.list (encI acc))), some (SV.fz (.int free)), j4, j5] =
      some (.nx [some (SV.fz (.list (encI stays))), some (SV.fz cD), some (SV.ow false 0 (.list (encI (acc ++ turnsP stays free k col)))), some (SV.fz (.int free')), a4, a5])
  | [], k, free, acc, j4, j5, _, _ => ⟨free, j4, j5, by rw [turnsP, List.append_nil]; rfl⟩
  | some r :: col, k, free, acc, j4, j5, hr, hl => by
    have hrl := hr r (by simp)
    rw [List.length_cons] at hl
    obtain ⟨st, hst⟩ : ∃ st, stays[r]? = some st := ⟨stays[r], List.getElem?_eq_getElem hrl⟩
    have hsd : stays.getD r 0 = st := by rw [List.getD_eq_getElem?_getD, hst]; rfl
    obtain ⟨f', a4, a5, ih⟩ := turn_go (stays := stays) (cD := cD) col (k + 1) (k + st) (acc ++ [(r : Int)]) (some (SV.fz (.int k))) (some (SV.fz (.int r))) (fun q hq => hr q (by simp [hq])) (by rw [List.length_append]; simp; omega)
    refine ⟨f', a4, a5, ?_⟩
    have s1 := sApp_ev (i := 2) (m := mVar 5) (io := false) (ds := encI acc) (d := .int r) (env := [some (SV.fz (.list (encI stays))), some (SV.fz cD), some (SV.ow false 0 (.list (encI acc))), some (SV.fz (.int free)), some (SV.fz (.int k)), some (SV.fz (.int r))]) ⟨_, rfl⟩ rfl rfl (by rw [List.length_map]; omega)
    rw [← encI_app] at s1
    have s2 := sSet_ev (i := 3) (m := mBin gAdd (mVar 4) (mBin gIx (mVar 0) (mVar 5))) (env := [some (SV.fz (.list (encI stays))), some (SV.fz cD), some (SV.ow false 0 (.list (encI (acc ++ [(r : Int)])))), some (SV.fz (.int free)), some (SV.fz (.int k)), some (SV.fz (.int r))]) (mBin_ev (m := mVar 4) (x := .int k) rfl (mBin_ev (g := gIx) (m := mVar 0) (x := .list (encI stays)) rfl (n := mVar 5) (y := .int r) rfl (show gIx (.list (encI stays)) (.int r) = some (.int st) from encI_at hst)) (gAdd_int k st))
    have b1 : turnB [some (SV.fz (.list (encI stays))), some (SV.fz cD), some (SV.ow false 0 (.list (encI acc))), some (SV.fz (.int free)), some (SV.fz (.int k)), some (SV.fz (.int r))] = some (.nx [some (SV.fz (.list (encI stays))), some (SV.fz cD), some (SV.ow false 0 (.list (encI (acc ++ [(r : Int)])))), some (SV.fz (.int (k + st))), some (SV.fz (.int k)), some (SV.fz (.int r))]) :=
      (sSeq_nx ((sIf_t (e1 := [some (SV.fz (.list (encI stays))), some (SV.fz cD), some (SV.ow false 0 (.list (encI acc))), some (SV.fz (.int free)), some (SV.fz (.int k)), some (SV.fz (.int r))]) rfl).trans ((sSeq_nx s1).trans ((sSeq_nx s2).trans rfl)))).trans rfl
    rw [turnsP, hsd]
    have : acc ++ (r : Int) :: turnsP stays (k + st) (k + 1) col = acc ++ [(r : Int)] ++ turnsP stays (k + st) (k + 1) col := by simp
    rw [this, ← ih]
    show forGo _ turnB (.tuple [.int k, .int r] :: enumD (k + 1) (col.map encO)) _ = _
    simp only [forGo]
    rw [show gTu 2 (gsCons (gNm 4) (gsCons (gNm 5) gsNil)) (.tuple [.int k, .int r]) [some (SV.fz (.list (encI stays))), some (SV.fz cD), some (SV.ow false 0 (.list (encI acc))), some (SV.fz (.int free)), j4, j5] = some [some (SV.fz (.list (encI stays))), some (SV.fz cD), some (SV.ow false 0 (.list (encI acc))), some (SV.fz (.int free)), some (SV.fz (.int k)), some (SV.fz (.int r))] from rfl]
    simp only [b1]
  | none :: col, k, free, acc, j4, j5, hr, hl => by
    rw [List.length_cons] at hl
    obtain ⟨v, hv⟩ : ∃ v : Int, v = (if (k : Int) < free then -1 else 4) := ⟨_, rfl⟩
    obtain ⟨f', a4, a5, ih⟩ := turn_go (stays := stays) (cD := cD) col (k + 1) free (acc ++ [v]) (some (SV.fz (.int k))) (some (SV.fz .none)) (fun q hq => hr q (by simp [hq])) (by rw [List.length_append]; simp; omega)
    refine ⟨f', a4, a5, ?_⟩
    have hc : (mMap gB (mBin gLt (mVar 4) (mVar 3))) [some (SV.fz (.list (encI stays))), some (SV.fz cD), some (SV.ow false 0 (.list (encI acc))), some (SV.fz (.int free)), some (SV.fz (.int k)), some (SV.fz .none)] = some (decide ((k : Int) < free), [some (SV.fz (.list (encI stays))), some (SV.fz cD), some (SV.ow false 0 (.list (encI acc))), some (SV.fz (.int free)), some (SV.fz (.int k)), some (SV.fz .none)]) := rfl
    have hm : (mIf (mMap gB (mBin gLt (mVar 4) (mVar 3))) (mRet (PyData.int (-1) : D)) (mRet (PyData.int 4 : D)) : Mo D) [some (SV.fz (.list (encI stays))), some (SV.fz cD), some (SV.ow false 0 (.list (encI acc))), some (SV.fz (.int free)), some (SV.fz (.int k)), some (SV.fz .none)] = some ((PyData.int v : D), [some (SV.fz (.list (encI stays))), some (SV.fz cD), some (SV.ow false 0 (.list (encI acc))), some (SV.fz (.int free)), some (SV.fz (.int k)), some (SV.fz .none)]) := by
      rw [mIf_ev hc, hv]
      by_cases h : (k : Int) < free
      · rw [if_pos h, if_pos (decide_eq_true h)]; rfl
      · rw [if_neg h, if_neg (by simp [h])]; rfl
    have s1 := sApp_ev (i := 2) (io := false) (ds := encI acc) (d := .int v) (env := [some (SV.fz (.list (encI stays))), some (SV.fz cD), some (SV.ow false 0 (.list (encI acc))), some (SV.fz (.int free)), some (SV.fz (.int k)), some (SV.fz .none)]) ⟨_, rfl⟩ hm rfl (by rw [List.length_map]; omega)
    rw [← encI_app] at s1
    have b1 : turnB [some (SV.fz (.list (encI stays))), some (SV.fz cD), some (SV.ow false 0 (.list (encI acc))), some (SV.fz (.int free)), some (SV.fz (.int k)), some (SV.fz .none)] = some (.nx [some (SV.fz (.list (encI stays))), some (SV.fz cD), some (SV.ow false 0 (.list (encI (acc ++ [v])))), some (SV.fz (.int free)), some (SV.fz (.int k)), some (SV.fz .none)]) :=
      (sSeq_nx ((sIf_f (e1 := [some (SV.fz (.list (encI stays))), some (SV.fz cD), some (SV.ow false 0 (.list (encI acc))), some (SV.fz (.int free)), some (SV.fz (.int k)), some (SV.fz .none)]) rfl).trans ((sSeq_nx s1).trans rfl))).trans rfl
    rw [turnsP, ← hv]
    have : acc ++ v :: turnsP stays free (k + 1) col = acc ++ [v] ++ turnsP stays free (k + 1) col := by simp
    rw [this, ← ih]
    show forGo _ turnB (.tuple [.int k, .none] :: enumD (k + 1) (col.map encO)) _ = _
    simp only [forGo]
    rw [show gTu 2 (gsCons (gNm 4) (gsCons (gNm 5) gsNil)) (.tuple [.int k, .none]) [some (SV.fz (.list (encI stays))), some (SV.fz cD), some (SV.ow false 0 (.list (encI acc))), some (SV.fz (.int free)), j4, j5] = some [some (SV.fz (.list (encI stays))), some (SV.fz cD), some (SV.ow false 0 (.list (encI acc))), some (SV.fz (.int free)), some (SV.fz (.int k)), some (SV.fz .none)] from rfl]
    simp only [b1]
theorem turns_of_ok {stays : List Int} {cD : D} {col : List (Option Nat)} (hc : gEnum [cD] = some (enumD 0 (col.map encO))) (hr : ∀ r, some r ∈ col → r < stays.length) (hl : col.length < 90000) :
    F_turns_of [.list (encI stays), cD] = some (.list (encI (turnsP stays 0 0 col))) := by
  unfold F_turns_of B_turns_of
  rw [show envOf ["stays", "column", "turns", "free", "tick", "one"] [.list (encI stays), cD] = [some (SV.fz (.list (encI stays))), some (SV.fz cD), none, none, none, none] from rfl]
  obtain ⟨f', a4, a5, hg⟩ := turn_go (stays := stays) (cD := cD) col 0 0 [] none none hr (by simpa using hl)
  rw [List.nil_append] at hg
  have s1 : sSetN 2 0 (mMap gLst (mRet [])) [some (SV.fz (.list (encI stays))), some (SV.fz cD), none, none, none, none] = some (.nx [some (SV.fz (.list (encI stays))), some (SV.fz cD), some (SV.ow false 0 (.list (encI []))), none, none, none]) := rfl
  have s2 : sSet 3 (mRet (.int 0)) [some (SV.fz (.list (encI stays))), some (SV.fz cD), some (SV.ow false 0 (.list (encI []))), none, none, none] = some (.nx [some (SV.fz (.list (encI stays))), some (SV.fz cD), some (SV.ow false 0 (.list (encI []))), some (SV.fz (.int 0)), none, none]) := rfl
  have i1 : mMap gEnum (mCons (mVar 1) (mRet [])) [some (SV.fz (.list (encI stays))), some (SV.fz cD), some (SV.ow false 0 (.list (encI []))), some (SV.fz (.int 0)), none, none] = some (enumD 0 (col.map encO), [some (SV.fz (.list (encI stays))), some (SV.fz cD), some (SV.ow false 0 (.list (encI []))), some (SV.fz (.int 0)), none, none]) :=
    mMap_ev (mCons_ev (m := mVar 1) (x := cD) rfl (n := mRet []) rfl) hc
  rw [sSeq_nx s1, sSeq_nx s2, sSeq_nx ((sFor_ev i1).trans hg)]
  rfl
end Dn

set_option maxHeartbeats 1000000
/-! M21: turns of all desks. -/
namespace Dn
open PySem PySem.Spec PyProof.Rows L2
theorem all_turns_ok {h : Hall} (hl : h.ranks.length ≤ 4) {csD : D} {cols : List (List (Option Nat))} {enc : List (Option Nat) → D} (hs : gSeq csD = some (cols.map enc)) (hn : cols.length ≤ 100000)
    (hc : ∀ c ∈ cols, gEnum [enc c] = some (enumD 0 (c.map encO)) ∧ (∀ r, some r ∈ c → r < h.ranks.length) ∧ c.length < 90000) :
    F_all_turns [encH h, csD] = some (.list (cols.map fun c => .list (encI (turnsP (h.ranks.map (·.2)) 0 0 c)))) := by
  unfold F_all_turns B_all_turns
  rw [show envOf ["hall", "columns", "stays", "column"] [encH h, csD] = [some (SV.fz (encH h)), some (SV.fz csD), none, none] from rfl]
  have s1 : sSet 2 (mMap (lenIs 1 F_all_stays) (mCons (mVar 0) (mRet []))) [some (SV.fz (encH h)), some (SV.fz csD), none, none] = some (.nx [some (SV.fz (encH h)), some (SV.fz csD), some (SV.fz (.list (encI (h.ranks.map (·.2))))), none]) :=
    (sSet_ev (mMap_ev (g := lenIs 1 F_all_stays) (mCons_ev (m := mVar 0) (x := encH h) rfl (n := mRet []) rfl) (show lenIs 1 F_all_stays [encH h] = some (.list (encI (h.ranks.map (·.2)))) from (show lenIs 1 F_all_stays [encH h] = F_all_stays [encH h] from rfl).trans (all_stays_ok hl)))).trans rfl
  have hi : mMap gSeq (mVar 1) [some (SV.fz (encH h)), some (SV.fz csD), some (SV.fz (.list (encI (h.ranks.map (·.2))))), none] = some (cols.map enc, [some (SV.fz (encH h)), some (SV.fz csD), some (SV.fz (.list (encI (h.ranks.map (·.2))))), none]) :=
    mMap_ev (m := mVar 1) (x := csD) rfl hs
  have hg := lcGo_mapE (tgt := gNm 3) (test := mRet true) (elt := mMap (lenIs 2 F_turns_of) (mCons (mVar 2) (mCons (mVar 3) (mRet [])))) (vs := [3]) (e := wipeD [some (SV.fz (encH h)), some (SV.fz csD), some (SV.fz (.list (encI (h.ranks.map (·.2))))), none] [3]) enc (fun c => PyData.list (encI (turnsP (h.ranks.map (·.2)) 0 0 c))) cols fun c hm =>
    ⟨[some (SV.fz (encH h)), some (SV.fz csD), some (SV.fz (.list (encI (h.ranks.map (·.2))))), some (SV.fz (enc c))], [some (SV.fz (encH h)), some (SV.fz csD), some (SV.fz (.list (encI (h.ranks.map (·.2))))), some (SV.fz (enc c))], [some (SV.fz (encH h)), some (SV.fz csD), some (SV.fz (.list (encI (h.ranks.map (·.2))))), some (SV.fz (enc c))], rfl, rfl, mMap_ev (g := lenIs 2 F_turns_of) (mCons_ev (m := mVar 2) (x := .list (encI (h.ranks.map (·.2)))) rfl (mCons_ev (m := mVar 3) (x := enc c) rfl (n := mRet []) rfl)) ((show lenIs 2 F_turns_of [.list (encI (h.ranks.map (·.2))), enc c] = F_turns_of [.list (encI (h.ranks.map (·.2))), enc c] from rfl).trans (turns_of_ok (hc c hm).1 (by rw [List.length_map]; exact (hc c hm).2.1) (hc c hm).2.2)), rfl⟩
  have hk := mMap_ev (g := fun ds => some (PyData.list ds)) (mLc_ev hi (by rw [List.length_map]; exact hn) rfl hg) rfl
  rw [sSeq_nx s1, sSeq_rt (sRet_ev hk)]
  rfl
end Dn

/-! N0: what the run keeps, as the turns tell it. -/
namespace Dn
/-- of a rank: who stands behind it passes it over -/
def overP (n r : Nat) (x : Int) : Bool := x == 4 || (decide ((r : Int) < x) && decide (x < (n : Int)))
def tellStep (over : Int → Bool) (r : Int) (s : Int × Option Int) (x : Int) : Int × Option Int :=
  if x = r then (s.1 + 1, s.2) else if over x && s.2.isNone then (s.1, some s.1) else s
def tellRow (over : Int → Bool) (r g : Int) (row : List Int) : Int × Option Int := row.foldl (tellStep over r) (g, none)
def tell (over : Int → Bool) (r : Int) : Int → List (List Int) → List (Int × Option Int)
  | _, [] => []
  | g, row :: rows => tellRow over r g row :: tell over r (tellRow over r g row).1 rows
def goneP (over : Int → Bool) (r : Int) (g : Int) (rows : List (List Int)) : Int := rows.foldl (fun g row => (tellRow over r g row).1) g
theorem tell_len (over : Int → Bool) (r : Int) : ∀ (rows : List (List Int)) (g : Int), (tell over r g rows).length = rows.length
  | [], _ => rfl
  | _ :: rows, _ => by rw [tell, List.length_cons, List.length_cons, tell_len over r rows]
theorem tell_get (over : Int → Bool) (r : Int) : ∀ (rows : List (List Int)) (g : Int) (k : Nat), (tell over r g rows)[k]? = rows[k]?.map (tellRow over r (goneP over r g (rows.take k)))
  | [], g, k => by simp [tell]
  | row :: rows, g, 0 => by simp [tell, goneP]
  | row :: rows, g, k + 1 => by
    rw [tell, List.getElem?_cons_succ, List.getElem?_cons_succ, tell_get over r rows]
    rfl
theorem goneP_snoc (over : Int → Bool) (r g : Int) (rows : List (List Int)) (row : List Int) : goneP over r g (rows ++ [row]) = (tellRow over r (goneP over r g rows) row).1 := by
  simp [goneP]
def turnv (a k : Int) : Option Nat → Int
  | some r => (r : Int)
  | none => if k < a then -1 else 4
/-- whom the j-th desk takes -/
def DS.who (rs : List (Int × Int)) (n : Nat) (tick : Int) (desks : List (List Int)) (s : DS) (j : Nat) : Option Nat := whom n tick (desks.getD j []) (s.steps rs n tick desks j).W (s.A.getD j 0)
theorem step_A {rs : List (Int × Int)} {n : Nat} {tick : Int} {k : Nat} {desk : List Int} {s : DS} {i : Nat} (h : i ≠ k) : (s.step rs n tick k desk).A.getD i 0 = s.A.getD i 0 := by
  unfold DS.step
  split
  · rfl
  · simp only [List.getD_eq_getElem?_getD]
    rw [List.getElem?_set_ne (by omega)]
theorem steps_A {rs : List (Int × Int)} {n : Nat} {tick : Int} {desks : List (List Int)} {s : DS} : ∀ (k : Nat) {i : Nat}, k ≤ i → (s.steps rs n tick desks k).A.getD i 0 = s.A.getD i 0
  | 0, _, _ => rfl
  | k + 1, i, h => (step_A (by omega)).trans (steps_A k (by omega))
theorem step_who {rs : List (Int × Int)} {n : Nat} {tick : Int} {desks : List (List Int)} {s : DS} (k : Nat) : whom n tick (desks.getD k []) (s.steps rs n tick desks k).W ((s.steps rs n tick desks k).A.getD k 0) = s.who rs n tick desks k := by
  rw [steps_A k (Nat.le_refl k)]
  rfl
theorem steps_tk {rs : List (Int × Int)} {n : Nat} {tick : Int} {desks : List (List Int)} {s : DS} (h : s.tk = []) : ∀ k, (s.steps rs n tick desks k).tk = (List.range k).map (s.who rs n tick desks)
  | 0 => h
  | k + 1 => by
    rw [List.range_succ, List.map_append, ← steps_tk h k, List.map_singleton, ← step_who k]
    show (DS.step _ _ _ _ _ _).tk = _
    unfold DS.step
    split
    · rename_i hw; rw [hw]
    · rename_i r hw; rw [hw]
theorem steps_A2 {rs : List (Int × Int)} {n : Nat} {tick : Int} {desks : List (List Int)} {s : DS} : ∀ (k i : Nat), i < k → i < s.A.length → (s.steps rs n tick desks k).A.getD i 0 = (match s.who rs n tick desks i with | some r => tick + (rs.getD r (0, 0)).2 | none => s.A.getD i 0)
  | k + 1, i, h, hl => by
    by_cases hi : i = k
    · subst hi
      rw [← step_who i]
      show (DS.step _ _ _ _ _ _).A.getD i 0 = _
      unfold DS.step
      split
      · rename_i hw; rw [hw]; exact steps_A i (Nat.le_refl i)
      · rename_i r hw
        rw [hw]
        simp only [List.getD_eq_getElem?_getD]
        rw [List.getElem?_set_self (by rw [(steps_len rs n tick desks s i).2.1]; exact hl)]
        rfl
    · exact (step_A hi).trans (steps_A2 k i (by omega) hl)
/-- how many wait -/
def wl (W : List (List Int)) (r : Nat) : Int := ((W.getD r []).length : Int)
theorem step_wl {rs : List (Int × Int)} {n : Nat} {tick : Int} {k : Nat} {desk : List Int} {s : DS} {r : Nat} : wl (s.step rs n tick k desk).W r = if whom n tick desk s.W (s.A.getD k 0) = some r ∧ r < s.W.length then wl s.W r - 1 else wl s.W r := by
  unfold DS.step
  split
  · rename_i hw; rw [if_neg (by rw [hw]; simp)]
  · rename_i q hw
    by_cases hq : q = r
    · subst hq
      obtain ⟨_, _, hc⟩ := whom_some hw
      unfold canTake at hc
      rw [Bool.and_eq_true] at hc
      by_cases hl : q < s.W.length
      · rw [if_pos ⟨hw, hl⟩]
        unfold wl
        simp only [List.getD_eq_getElem?_getD] at hc ⊢
        rw [List.getElem?_set_self hl]
        cases hx : s.W[q]?.getD [] with
        | nil => rw [hx] at hc; simp at hc
        | cons x xs => simp
      · rw [if_neg (fun z => hl z.2)]
        unfold wl
        simp only [List.getD_eq_getElem?_getD]
        rw [List.getElem?_eq_none (by simpa using hl), List.getElem?_eq_none (by simpa using hl)]
    · rw [if_neg (by rw [hw]; simp [hq])]
      unfold wl
      simp only [List.getD_eq_getElem?_getD]
      rw [List.getElem?_set_ne hq]
theorem whom_none {n : Nat} {tick a : Int} {desk : List Int} {W : List (List Int)} (h : whom n tick desk W a = none) (ha : a ≤ tick) {r : Nat} (hr : r < n) (hd : desk.contains (r : Int) = true) : wl W r = 0 := by
  unfold whom at h
  rw [if_pos ha, List.find?_eq_none] at h
  have := h r (List.mem_range.mpr hr)
  unfold canTake at this
  rw [hd] at this
  simp at this
  unfold wl
  simp only [List.getD_eq_getElem?_getD]
  rw [this]
  rfl
theorem whom_less {n : Nat} {tick a : Int} {desk : List Int} {W : List (List Int)} {q : Nat} (h : whom n tick desk W a = some q) {r : Nat} (hr : r < q) (hd : desk.contains (r : Int) = true) : wl W r = 0 := by
  unfold whom at h
  split at h
  · have hq := List.mem_range.mp (List.mem_of_find?_eq_some h)
    rw [List.find?_range_eq_some] at h
    have h2 := h.2.2 r hr
    unfold canTake at h2
    rw [hd] at h2
    simp at h2
    unfold wl
    simp only [List.getD_eq_getElem?_getD]
    rw [h2]
    rfl
  · cases h
/-- the turns of the desks that take the rank -/
def ownTurns (rs : List (Int × Int)) (n : Nat) (tick : Int) (desks : List (List Int)) (s : DS) (r : Nat) (k : Nat) : List Int :=
  ((List.range k).filter fun j => (desks.getD j []).contains (r : Int)).map fun j => turnv (s.A.getD j 0) tick (s.who rs n tick desks j)
theorem tell_desks {rs : List (Int × Int)} {n : Nat} {tick : Int} {desks : List (List Int)} {s : DS} {r : Nat} (hr : r < n) (hn : n ≤ 4) (hw : s.W.length = n) (g : Int) : ∀ k,
    ∃ p, tellRow (overP n r) r g (ownTurns rs n tick desks s r k) = (g + wl s.W r - wl (s.steps rs n tick desks k).W r, p) ∧ (p = none ∨ p = some (g + wl s.W r))
  | 0 => ⟨none, by unfold ownTurns tellRow; simp [DS.steps], .inl rfl⟩
  | k + 1 => by
    obtain ⟨p, h1, h2⟩ := tell_desks (rs := rs) (tick := tick) (desks := desks) hr hn hw g k
    have hl : r < (s.steps rs n tick desks k).W.length := by rw [(steps_len rs n tick desks s k).1, hw]; exact hr
    have hwl := step_wl (rs := rs) (n := n) (tick := tick) (k := k) (desk := desks.getD k []) (s := s.steps rs n tick desks k) (r := r)
    rw [step_who k] at hwl
    have hs : (s.steps rs n tick desks (k + 1)) = (s.steps rs n tick desks k).step rs n tick k (desks.getD k []) := rfl
    rw [hs]
    have ho : s.who rs n tick desks k = whom n tick (desks.getD k []) (s.steps rs n tick desks k).W (s.A.getD k 0) := rfl
    by_cases hd : (desks.getD k []).contains (r : Int) = true
    · have e1 : ownTurns rs n tick desks s r (k + 1) = ownTurns rs n tick desks s r k ++ [turnv (s.A.getD k 0) tick (s.who rs n tick desks k)] := by
        unfold ownTurns
        rw [List.range_succ, List.filter_append, List.map_append]
        congr 1
        simp only [List.filter_cons, hd, List.filter_nil, if_true, List.map_cons, List.map_nil]
      have e2 : tellRow (overP n r) r g (ownTurns rs n tick desks s r (k + 1)) = tellStep (overP n r) r (g + wl s.W r - wl (s.steps rs n tick desks k).W r, p) (turnv (s.A.getD k 0) tick (s.who rs n tick desks k)) := by
        rw [e1]
        unfold tellRow at h1 ⊢
        rw [List.foldl_append, h1]
        rfl
      rw [e2]
      cases hq : s.who rs n tick desks k with
      | some q =>
        by_cases hqr : q = r
        · subst hqr
          rw [hwl, if_pos ⟨hq, hl⟩]
          refine ⟨p, ?_, h2⟩
          unfold tellStep turnv
          rw [if_pos rfl]
          ext1
          · show _ + 1 = _; omega
          · rfl
        · rw [hwl, if_neg (by rw [hq]; simp [hqr])]
          unfold tellStep
          rw [if_neg (by show ¬ ((q : Int) = (r : Int)); omega)]
          by_cases hlt : r < q
          · have hz := whom_less (ho ▸ hq) hlt hd
            have hqn : q < n := (whom_some (ho ▸ hq)).2.1
            have hov : overP n r (turnv (s.A.getD k 0) tick (some q)) = true := by
              unfold overP turnv
              simp
              omega
            rw [hov]
            cases p with
            | none =>
              refine ⟨some (g + wl s.W r - wl (s.steps rs n tick desks k).W r), ?_, .inr ?_⟩
              · rfl
              · rw [hz]; simp
            | some x => exact ⟨some x, rfl, h2⟩
          · have hov : overP n r (turnv (s.A.getD k 0) tick (some q)) = false := by
              have hqn : q < n := (whom_some (ho ▸ hq)).2.1
              unfold overP turnv
              simp
              omega
            rw [hov]
            exact ⟨p, rfl, h2⟩
      | none =>
        rw [hwl, if_neg (by rw [hq]; simp)]
        by_cases ha : tick < s.A.getD k 0
        · have ht : turnv (s.A.getD k 0) tick none = -1 := by unfold turnv; rw [if_pos ha]
          rw [ht]
          unfold tellStep
          rw [if_neg (by omega)]
          have hov : overP n r (-1) = false := by
            unfold overP
            simp
            omega
          rw [hov]
          exact ⟨p, rfl, h2⟩
        · have ht : turnv (s.A.getD k 0) tick none = 4 := by unfold turnv; rw [if_neg ha]
          rw [ht]
          unfold tellStep
          rw [if_neg (by omega)]
          have hz := whom_none (ho ▸ hq) (by omega) hr hd
          have hov : overP n r 4 = true := by unfold overP; simp
          rw [hov]
          cases p with
          | none =>
            refine ⟨some (g + wl s.W r - wl (s.steps rs n tick desks k).W r), rfl, .inr ?_⟩
            rw [hz]; simp
          | some x => exact ⟨some x, rfl, h2⟩
    · have e1 : ownTurns rs n tick desks s r (k + 1) = ownTurns rs n tick desks s r k := by
        unfold ownTurns
        rw [List.range_succ, List.filter_append, List.map_append]
        simp only [List.filter_cons, hd, List.filter_nil, List.map_nil, List.append_nil]
        simp
      rw [e1, hwl, if_neg]
      · exact ⟨p, h1, h2⟩
      · intro ⟨z, _⟩
        rw [ho] at z
        have := (whom_some z).2.2
        unfold canTake at this
        rw [Bool.and_eq_true] at this
        exact hd this.1
end Dn

/-! N1: the run, tick by tick, and what its turns tell. -/
namespace Dn
section
variable (rs : List (Int × Int)) (n : Nat) (desks coms : List (List Int))
abbrev sK (k : Nat) : RnS := (run0 n desks.length).runK rs n desks coms k
/-- the state ahead of the desks' turns at a tick -/
def dK (k : Nat) : DS := ⟨arrK k (coms.getD k []) (sK rs n desks coms k).W (coms.getD k []).length, (sK rs n desks coms k).A, (sK rs n desks coms k).T, []⟩
def whoK (k j : Nat) : Option Nat := (dK rs n desks coms k).who rs n k desks j
def freeK (k j : Nat) : Int := (sK rs n desks coms k).A.getD j 0
/-- how many had come ahead of a tick -/
def arrN (r : Nat) : Nat → Int
  | 0 => 0
  | k + 1 => arrN r k + (coms.getD k []).getD r 0
theorem sK_succ (k : Nat) : (sK rs n desks coms (k + 1)).W = ((dK rs n desks coms k).steps rs n k desks desks.length).W ∧ (sK rs n desks coms (k + 1)).A = ((dK rs n desks coms k).steps rs n k desks desks.length).A ∧ (sK rs n desks coms (k + 1)).B = (sK rs n desks coms k).B ++ [((dK rs n desks coms k).steps rs n k desks desks.length).tk] := ⟨rfl, rfl, rfl⟩
theorem sK_len : ∀ k, (sK rs n desks coms k).W.length = n ∧ (sK rs n desks coms k).A.length = desks.length ∧ (sK rs n desks coms k).B.length = k
  | 0 => by simp [sK, RnS.runK, run0]
  | k + 1 => by
    obtain ⟨h1, h2, h3⟩ := sK_succ rs n desks coms k
    obtain ⟨i1, i2, i3⟩ := sK_len k
    obtain ⟨l1, l2, _, _⟩ := steps_len rs n k desks (dK rs n desks coms k) desks.length
    refine ⟨?_, ?_, ?_⟩
    · rw [h1, l1]; show (arrK _ _ _ _).length = n; rw [arrK_len, i1]
    · rw [h2, l2]; exact i2
    · rw [h3, List.length_append, i3]; rfl
theorem sK_tk (k : Nat) : ((dK rs n desks coms k).steps rs n k desks desks.length).tk = (List.range desks.length).map (whoK rs n desks coms k) := steps_tk rfl _
theorem sK_B : ∀ k, (sK rs n desks coms k).B = (List.range k).map fun i => (List.range desks.length).map (whoK rs n desks coms i)
  | 0 => rfl
  | k + 1 => by
    rw [(sK_succ rs n desks coms k).2.2, sK_B k, sK_tk, List.range_succ, List.map_append]
    rfl
theorem freeK_0 (j : Nat) : freeK rs n desks coms 0 j = 0 := by
  show ((run0 n desks.length).A).getD j 0 = 0
  unfold run0
  simp only [List.getD_eq_getElem?_getD, List.getElem?_replicate]
  split <;> rfl
theorem freeK_succ (k j : Nat) (hj : j < desks.length) : freeK rs n desks coms (k + 1) j = (match whoK rs n desks coms k j with | some r => (k : Int) + (rs.getD r (0, 0)).2 | none => freeK rs n desks coms k j) := by
  unfold freeK
  rw [(sK_succ rs n desks coms k).2.1]
  exact steps_A2 desks.length j hj (by show j < (sK rs n desks coms k).A.length; rw [(sK_len rs n desks coms k).2.1]; exact hj)
end
theorem turnsP_run {stays : List Int} (f : Nat → Option Nat) (F : Nat → Int) (h : ∀ k, F (k + 1) = (match f k with | some r => (k : Int) + stays.getD r 0 | none => F k)) : ∀ (len k0 : Nat), turnsP stays (F k0) k0 ((List.range' k0 len).map f) = (List.range' k0 len).map fun k => turnv (F k) k (f k)
  | 0, _ => rfl
  | len + 1, k0 => by
    rw [List.range'_succ, List.map_cons, List.map_cons]
    have ih := turnsP_run f F h len (k0 + 1)
    have hk := h k0
    cases hf : f k0 with
    | some r =>
      rw [hf] at hk
      rw [turnsP, ← ih, hk]
      rfl
    | none =>
      rw [hf] at hk
      rw [turnsP, ← ih, hk]
      rfl
theorem stays_getD (rs : List (Int × Int)) (r : Nat) : (rs.map (·.2)).getD r 0 = (rs.getD r (0, 0)).2 := by
  simp only [List.getD_eq_getElem?_getD, List.getElem?_map]
  cases rs[r]? <;> rfl
section
variable (rs : List (Int × Int)) (n : Nat) (desks coms : List (List Int))
theorem turns_run (T j : Nat) (hj : j < desks.length) : turnsP (rs.map (·.2)) 0 0 ((List.range T).map fun k => whoK rs n desks coms k j) = (List.range T).map fun (k : Nat) => turnv (freeK rs n desks coms k j) k (whoK rs n desks coms k j) := by
  have := turnsP_run (stays := rs.map (·.2)) (fun k => whoK rs n desks coms k j) (fun k => freeK rs n desks coms k j) (fun k => by
    rw [freeK_succ rs n desks coms k j hj]
    cases whoK rs n desks coms k j with
    | none => rfl
    | some r => simp only [stays_getD]) T 0
  rw [freeK_0, ← List.range_eq_range'] at this
  exact this
theorem wl_arr {tick : Int} {row : List Int} {W : List (List Int)} {r : Nat} (hr : r < W.length) (hrow : row.length = W.length) (hc : 0 ≤ row.getD r 0) : wl (arrK tick row W row.length) r = wl W r + row.getD r 0 := by
  unfold wl
  have e : (arrK tick row W row.length).getD r [] = W.getD r [] ++ List.replicate (row.getD r 0).toNat tick := by
    simp only [List.getD_eq_getElem?_getD]
    rw [arrK_get (List.getElem?_eq_getElem hr), if_pos (by omega), List.getElem?_eq_getElem hr]
    rfl
  rw [e, List.length_append, List.length_replicate]
  omega
/-- the rows of turns of a rank's own desks -/
def ownRows (r T : Nat) : List (List Int) := (List.range T).map fun (k : Nat) => ((List.range desks.length).filter fun j => (desks.getD j []).contains (r : Int)).map fun j => turnv (freeK rs n desks coms k j) k (whoK rs n desks coms k j)
theorem ownRows_eq (r T : Nat) : ownRows rs n desks coms r T = (List.range T).map fun (k : Nat) => ownTurns rs n k desks (dK rs n desks coms k) r desks.length := rfl
variable {rs n desks coms}
theorem tell_tick {r : Nat} (hr : r < n) (hn : n ≤ 4) {k : Nat} (hrow : (coms.getD k []).length = n) (hc : 0 ≤ (coms.getD k []).getD r 0) {g : Int} (hg : g = arrN coms r k - wl (sK rs n desks coms k).W r) :
    ∃ p, tellRow (overP n r) r g (ownTurns rs n k desks (dK rs n desks coms k) r desks.length) = (arrN coms r (k + 1) - wl (sK rs n desks coms (k + 1)).W r, p) ∧ (p = none ∨ p = some (arrN coms r (k + 1))) := by
  have hl := (sK_len rs n desks coms k).1
  obtain ⟨p, h1, h2⟩ := tell_desks (rs := rs) (n := n) (tick := k) (desks := desks) (s := dK rs n desks coms k) (r := r) hr hn (by show (arrK _ _ _ _).length = n; rw [arrK_len, hl]) g desks.length
  have hw : wl (dK rs n desks coms k).W r = wl (sK rs n desks coms k).W r + (coms.getD k []).getD r 0 := wl_arr (by omega) (by omega) hc
  have e : g + wl (dK rs n desks coms k).W r = arrN coms r (k + 1) := by rw [hw, hg, arrN]; omega
  rw [e] at h1 h2
  exact ⟨p, h1, h2⟩
theorem wl_0 (r : Nat) : wl (sK rs n desks coms 0).W r = 0 := by
  show wl (run0 n desks.length).W r = 0
  unfold wl run0
  simp only [List.getD_eq_getElem?_getD, List.getElem?_replicate]
  split <;> rfl
theorem gone_run {r : Nat} (hr : r < n) (hn : n ≤ 4) (hrow : ∀ k, k < coms.length → (coms.getD k []).length = n) (hc : ∀ k, k < coms.length → 0 ≤ (coms.getD k []).getD r 0) : ∀ k, k ≤ coms.length → goneP (overP n r) r 0 (ownRows rs n desks coms r k) = arrN coms r k - wl (sK rs n desks coms k).W r
  | 0, _ => by rw [wl_0]; rfl
  | k + 1, hk => by
    have ih := gone_run hr hn hrow hc k (by omega)
    obtain ⟨p, h1, _⟩ := tell_tick (rs := rs) (desks := desks) hr hn (hrow k (by omega)) (hc k (by omega)) ih
    rw [ownRows_eq, List.range_succ, List.map_append, List.map_singleton, goneP_snoc, ← ownRows_eq, h1]
theorem take_map_range {α : Type} (f : Nat → α) (T k : Nat) (h : k ≤ T) : ((List.range T).map f).take k = (List.range k).map f := by
  rw [← List.map_take, List.take_range, Nat.min_eq_left h]
theorem told_run {r : Nat} (hr : r < n) (hn : n ≤ 4) (hrow : ∀ k, k < coms.length → (coms.getD k []).length = n) (hc : ∀ k, k < coms.length → 0 ≤ (coms.getD k []).getD r 0) (k : Nat) (hk : k < coms.length) :
    ∃ p, (tell (overP n r) r 0 (ownRows rs n desks coms r coms.length))[k]? = some (arrN coms r (k + 1) - wl (sK rs n desks coms (k + 1)).W r, p) ∧ (p = none ∨ p = some (arrN coms r (k + 1))) := by
  have ih := gone_run (rs := rs) (desks := desks) hr hn hrow hc k (by omega)
  obtain ⟨p, h1, h2⟩ := tell_tick (rs := rs) (desks := desks) hr hn (hrow k hk) (hc k hk) ih
  refine ⟨p, ?_, h2⟩
  rw [tell_get]
  have e1 : (ownRows rs n desks coms r coms.length)[k]? = some (ownTurns rs n k desks (dK rs n desks coms k) r desks.length) := by
    rw [ownRows_eq, List.getElem?_map, List.getElem?_range hk]
    rfl
  have e2 : (ownRows rs n desks coms r coms.length).take k = ownRows rs n desks coms r k := take_map_range _ _ _ (by omega)
  rw [e1, e2, Option.map_some, h1]
theorem wl_nn (W : List (List Int)) (r : Nat) : 0 ≤ wl W r := by unfold wl; omega
/-- each taking is of the desk's own, when it is free -/
theorem who_own {k j r : Nat} (h : whoK rs n desks coms k j = some r) : freeK rs n desks coms k j ≤ k ∧ r < n ∧ (desks.getD j []).contains (r : Int) = true := by
  obtain ⟨h1, h2, h3⟩ := whom_some h
  unfold canTake at h3
  rw [Bool.and_eq_true] at h3
  exact ⟨h1, h2, h3.1⟩
end
end Dn

/-! N2: steps and ways. -/
namespace Dn
def hiP (most high : Int) : Option Int → Int
  | some x => if x < high + most then x else high + most
  | none => high + most
def loP (low least : Int) : Int := if least > low then least else low
def stepsUp (most : Int) : Int → Int → List (Int × Option Int) → List (Int × Int)
  | _, _, [] => []
  | low, high, p :: l => (loP low p.1, hiP most high p.2) :: (if loP low p.1 > hiP most high p.2 then [] else stepsUp most (loP low p.1) (hiP most high p.2) l)
def barredP (s : List (Int × Int)) : Prop := ∃ p, s.getLast? = some p ∧ p.1 > p.2
/-- steps that go on: each no lower, and no more than most higher -/
def Chain (most : Int) : Int → Int → List (Int × Int) → Prop
  | _, _, [] => True
  | l, h, (l', h') :: s => l ≤ l' ∧ h' ≤ h + most ∧ l' ≤ h' ∧ Chain most l' h' s
theorem stepsUp_sound {most : Int} : ∀ (l : List (Int × Option Int)) (low high : Int) (a : Nat → Int), low ≤ a 0 → a 0 ≤ high → (∀ k, k < l.length → a k ≤ a (k + 1) ∧ a (k + 1) ≤ a k + most) →
    (∀ (k : Nat) (p : Int × Option Int), l[k]? = some p → p.1 ≤ a (k + 1) ∧ ∀ x, p.2 = some x → a (k + 1) ≤ x) →
    (stepsUp most low high l).length = l.length ∧ Chain most low high (stepsUp most low high l) ∧ ∀ (k : Nat) (p : Int × Int), (stepsUp most low high l)[k]? = some p → p.1 ≤ a (k + 1) ∧ a (k + 1) ≤ p.2
  | [], low, high, a, _, _, _, _ => ⟨rfl, trivial, fun k p h => by simp [stepsUp] at h⟩
  | (least, lim) :: l, low, high, a, h1, h2, hs, ht => by
    have hs0 := hs 0 (by simp)
    have ht0 := ht 0 _ rfl
    rw [Nat.zero_add] at hs0 ht0
    obtain ⟨lo, hlo⟩ : ∃ lo, loP low least = lo := ⟨_, rfl⟩
    obtain ⟨h, hh⟩ : ∃ h, hiP most high lim = h := ⟨_, rfl⟩
    rw [stepsUp]
    simp only [hlo, hh]
    have lo1 : low ≤ lo ∧ lo ≤ a 1 := by
      rw [← hlo]
      have := ht0.1
      unfold loP
      simp only at this
      split <;> omega
    have h3 : a 1 ≤ h ∧ h ≤ high + most := by
      rw [← hh]
      cases lim with
      | none => simp only [hiP]; omega
      | some x =>
        have := ht0.2 x rfl
        simp only [hiP]
        split <;> omega
    rw [if_neg (by omega)]
    obtain ⟨i1, i2, i3⟩ := stepsUp_sound (most := most) l lo h (fun k => a (k + 1)) lo1.2 h3.1 (fun k hk => hs (k + 1) (by simp; omega)) (fun k p hp => ht (k + 1) p (by simpa using hp))
    refine ⟨by rw [List.length_cons, List.length_cons, i1], ⟨lo1.1, h3.2, by omega, i2⟩, fun k p hp => ?_⟩
    cases k with
    | zero =>
      simp at hp
      subst hp
      exact ⟨lo1.2, h3.1⟩
    | succ k => exact i3 k p (by simpa using hp)
theorem Chain.last {most : Int} : ∀ {s : List (Int × Int)} {l h : Int}, Chain most l h s → ∀ p, s.getLast? = some p → p.1 ≤ p.2
  | [], _, _, _, p, hp => by simp at hp
  | [q], _, _, hc, p, hp => by
    simp at hp
    subst hp
    exact hc.2.2.1
  | q :: q2 :: s, _, _, hc, p, hp => by
    rw [List.getLast?_cons_cons] at hp
    exact Chain.last (s := q2 :: s) hc.2.2.2 p hp
theorem stepsUp_ne {most low high : Int} {l : List (Int × Option Int)} (h : l ≠ []) : stepsUp most low high l ≠ [] := by
  cases l with
  | nil => exact absurd rfl h
  | cons p l => rw [stepsUp]; simp
def downHd (most : Int) (p : Int × Int) : List (Int × Int) → List (Int × Int)
  | [] => [p]
  | q :: t => ((if p.1 > q.1 - most then p.1 else q.1 - most), (if p.2 < q.2 then p.2 else q.2)) :: q :: t
/-- the steps by what is told behind, too -/
def down (most : Int) : List (Int × Int) → List (Int × Int)
  | [] => []
  | p :: s => downHd most p (down most s)
theorem downHd_len (most : Int) (p : Int × Int) (t : List (Int × Int)) : (downHd most p t).length = t.length + 1 := by cases t <;> rfl
theorem down_len (most : Int) : ∀ s, (down most s).length = s.length
  | [] => rfl
  | p :: s => by rw [down, downHd_len, down_len most s]; rfl
theorem down_chain {most : Int} (hm : 0 ≤ most) : ∀ {s : List (Int × Int)} {l h : Int}, Chain most l h s → l ≤ h → Chain most l h (down most s) ∧ (∀ p, (down most s).head? = some p → l ≤ p.1 ∧ p.2 ≤ h + most ∧ p.1 ≤ p.2)
  | [], _, _, _, _ => ⟨trivial, fun p hp => by simp [down] at hp⟩
  | (l', h') :: s, l, h, hc, hlh => by
    obtain ⟨c1, c2, c3, c4⟩ := hc
    obtain ⟨i1, i2⟩ := down_chain hm c4 c3
    rw [down]
    cases hd : down most s with
    | nil =>
      refine ⟨⟨c1, c2, c3, trivial⟩, fun p hp => ?_⟩
      simp [downHd] at hp
      subst hp
      exact ⟨c1, c2, c3⟩
    | cons q t =>
      rw [hd] at i1 i2
      obtain ⟨q1, q2⟩ := q
      obtain ⟨k1, k2, k3⟩ := i2 _ rfl
      obtain ⟨j1, j2, j3, j4⟩ := i1
      simp only at k1 k2 k3
      have e1 : l' ≤ (if l' > q1 - most then l' else q1 - most) ∧ (if l' > q1 - most then l' else q1 - most) ≤ q1 ∧ q1 - most ≤ (if l' > q1 - most then l' else q1 - most) ∧ (if l' > q1 - most then l' else q1 - most) ≤ h' := by split <;> omega
      have e2 : (if h' < q2 then h' else q2) ≤ h' ∧ q2 ≤ (if h' < q2 then h' else q2) + most ∧ (if h' < q2 then h' else q2) ≤ q2 := by split <;> omega
      have e3 : (if l' > q1 - most then l' else q1 - most) ≤ (if h' < q2 then h' else q2) := by split <;> split <;> omega
      refine ⟨⟨by omega, by omega, e3, by omega, by omega, k3, j4⟩, fun p hp => ?_⟩
      simp [downHd] at hp
      subst hp
      exact ⟨by simp only; omega, by simp only; omega, e3⟩
/-- the program's way down -/
def downStep (most : Int) (st : (Int × Int) × List (Int × Int)) (p : Int × Int) : (Int × Int) × List (Int × Int) :=
  let q := ((if p.1 > st.1.1 - most then p.1 else st.1.1 - most), (if p.2 < st.1.2 then p.2 else st.1.2))
  (q, st.2 ++ [q])
theorem down_fold {most : Int} (hm : 0 < most) : ∀ (s : List (Int × Int)) (p : Int × Int), s.getLast? = some p →
    ∃ q t, down most s = q :: t ∧ s.reverse.foldl (downStep most) (p, []) = (q, (q :: t).reverse)
  | [], _, h => by simp at h
  | [p], q, h => by
    simp at h
    subst h
    refine ⟨p, [], rfl, ?_⟩
    have e : (if p.1 > p.1 - most then p.1 else p.1 - most) = p.1 := if_pos (by omega)
    simp [downStep]
    rw [if_pos (by omega)]
  | p :: p2 :: s, q, h => by
    rw [List.getLast?_cons_cons] at h
    obtain ⟨q', t, e1, e2⟩ := down_fold hm (p2 :: s) q h
    rw [down, e1]
    refine ⟨_, _, rfl, ?_⟩
    rw [List.reverse_cons, List.foldl_append, e2]
    simp [downStep]
end Dn

/-! N3: ways. -/
namespace Dn
def sumTo : Nat → (Nat → Int) → Int
  | 0, _ => 0
  | n + 1, f => sumTo n f + f n
theorem sumTo_congr : ∀ {n : Nat} {f g : Nat → Int}, (∀ i, i < n → f i = g i) → sumTo n f = sumTo n g
  | 0, _, _, _ => rfl
  | n + 1, f, g, h => by rw [sumTo, sumTo, sumTo_congr (fun i hi => h i (by omega)), h n (by omega)]
theorem sumTo_sub : ∀ (n : Nat) (f g : Nat → Int), sumTo n (fun i => f i - g i) = sumTo n f - sumTo n g
  | 0, _, _ => rfl
  | n + 1, f, g => by rw [sumTo, sumTo, sumTo, sumTo_sub n]; omega
theorem sumTo_nn : ∀ {n : Nat} {f : Nat → Int}, (∀ i, i < n → 0 ≤ f i) → 0 ≤ sumTo n f
  | 0, _, _ => Int.le_refl 0
  | n + 1, f, h => by
    rw [sumTo]
    have := sumTo_nn (n := n) (f := f) fun i hi => h i (by omega)
    have := h n (by omega)
    omega
theorem sumTo_mono {f : Nat → Int} (h : ∀ i, 0 ≤ f i) : ∀ {m n : Nat}, m ≤ n → sumTo m f ≤ sumTo n f
  | m, 0, hmn => by rw [Nat.le_zero.mp hmn]; exact Int.le_refl _
  | m, n + 1, hmn => by
    by_cases e : m = n + 1
    · rw [e]; exact Int.le_refl _
    · have := sumTo_mono h (m := m) (n := n) (by omega)
      have := h n
      rw [sumTo]; omega
/-- the sum of the first ones -/
def S (w : List Int) (k : Nat) : Int := sumTo k fun i => w.getD i 0
theorem S_cons (x : Int) (w : List Int) : ∀ k, S (x :: w) (k + 1) = x + S w k
  | 0 => by simp [S, sumTo]
  | k + 1 => by
    have := S_cons x w k
    unfold S at this ⊢
    rw [sumTo, this, sumTo]
    simp only [List.getD_cons_succ]
    omega
theorem S_all : ∀ (w : List Int) (k : Nat), w.length ≤ k → S w k = w.sum
  | [], k, _ => by
    have : S [] k = sumTo k fun _ => 0 := sumTo_congr fun i _ => rfl
    rw [this]
    induction k with
    | zero => rfl
    | succ k ih => rw [sumTo, ih (by simp) (sumTo_congr fun i _ => rfl)]; rfl
  | x :: w, 0, h => by simp at h
  | x :: w, k + 1, h => by rw [S_cons, S_all w k (by simpa using h), List.sum_cons]
theorem S_mono {w : List Int} (h : ∀ x ∈ w, 0 ≤ x) {m n : Nat} (hmn : m ≤ n) : S w m ≤ S w n := sumTo_mono (fun i => by
  rw [List.getD_eq_getElem?_getD]
  cases hw : w[i]? with
  | none => exact Int.le_refl 0
  | some x => exact h x (List.mem_of_getElem? hw)) hmn
/-- how many ways lead to each of so many places from the start on, where at most so many come -/
def waysIn (w : List Int) (most start many : Nat) : List Int := (List.range many).map fun i => S w (start + i + 1) - S w (start + i - most)
theorem waysIn_len (w : List Int) (most start many : Nat) : (waysIn w most start many).length = many := by simp [waysIn]
theorem waysIn_nn {w : List Int} (h : ∀ x ∈ w, 0 ≤ x) (most start many : Nat) : ∀ x ∈ waysIn w most start many, 0 ≤ x ∧ x ≤ w.sum := by
  intro x hx
  obtain ⟨i, _, rfl⟩ := List.mem_map.mp hx
  have h1 := S_mono h (m := start + i - most) (n := start + i + 1) (by omega)
  have h2 : S w (start + i + 1) ≤ w.sum := by
    rw [← S_all w (max w.length (start + i + 1)) (by omega)]
    exact S_mono h (by omega)
  have h3 : S w 0 ≤ S w (start + i - most) := S_mono h (by omega)
  have h4 : S w 0 = 0 := rfl
  omega
theorem sum_le {w : List Int} {x : Int} (h : ∀ y ∈ w, y ≤ x) : w.sum ≤ w.length * x := by
  induction w with
  | nil => simp
  | cons y w ih =>
    have h1 := h y (by simp)
    have h2 := ih fun z hz => h z (by simp [hz])
    rw [List.sum_cons, List.length_cons, Int.natCast_add, Int.add_mul]
    simp
    omega
theorem sum_nn {w : List Int} (h : ∀ y ∈ w, 0 ≤ y) : 0 ≤ w.sum := by
  induction w with
  | nil => simp
  | cons y w ih =>
    have h1 := h y (by simp)
    have h2 := ih fun z hz => h z (by simp [hz])
    rw [List.sum_cons]
    omega
theorem sum_map_range (f : Nat → Int) : ∀ n, ((List.range n).map f).sum = sumTo n f
  | 0 => rfl
  | n + 1 => by rw [List.range_succ, List.map_append, List.sum_append, sum_map_range f n, sumTo]; simp
theorem sumTo_shift {T : Nat → Int} (h0 : T 0 = 0) : ∀ n, sumTo n (fun i => T (i + 1)) = sumTo n T + T n
  | 0 => by rw [h0]; rfl
  | n + 1 => by rw [sumTo, sumTo_shift h0 n, sumTo]
theorem sumTo_back {T : Nat → Int} (h0 : T 0 = 0) (b : Nat) : ∀ n, sumTo (b + n) (fun i => T (i - b)) = sumTo n T
  | 0 => by
    have : ∀ m, m ≤ b → sumTo m (fun i => T (i - b)) = 0 := fun m => by
      induction m with
      | zero => intro _; rfl
      | succ m ih => intro h; rw [sumTo, ih (by omega), Nat.sub_eq_zero_of_le (by omega), h0]; rfl
    exact this b (Nat.le_refl b)
  | n + 1 => by rw [← Nat.add_assoc, sumTo, sumTo_back h0 b n, Nat.add_sub_cancel_left, sumTo]
theorem sumTo_add (f : Nat → Int) (m : Nat) : ∀ n, sumTo (m + n) f = sumTo m f + sumTo n fun i => f (m + i)
  | 0 => by rw [Nat.add_zero, sumTo, Int.add_zero]
  | n + 1 => by rw [← Nat.add_assoc, sumTo, sumTo_add f m n, sumTo]; omega
theorem sumTo_const (c : Int) : ∀ n : Nat, sumTo n (fun _ => c) = n * c
  | 0 => by simp [sumTo]
  | n + 1 => by rw [sumTo, sumTo_const c n, Int.natCast_add, Int.add_mul]; simp
/-- all ways of a full band -/
theorem waysIn_full (w : List Int) (b : Nat) : (waysIn w b 0 (w.length + b)).sum = (b + 1) * w.sum := by
  unfold waysIn
  rw [sum_map_range]
  simp only [Nat.zero_add]
  rw [sumTo_sub, sumTo_shift (T := S w) rfl, Nat.add_comm w.length b, sumTo_back (T := S w) rfl, Nat.add_comm b w.length, sumTo_add, S_all w (w.length + b) (by omega)]
  have e : sumTo b (fun i => S w (w.length + i)) = sumTo b fun _ => w.sum := sumTo_congr fun i _ => S_all w _ (by omega)
  rw [e, sumTo_const, Int.add_mul]
  omega
/-- the ways up to the last step -/
def lastW (most : Nat) : List Int → Int → List (Int × Int) → List Int
  | w, _, [] => w
  | w, l, p :: s => lastW most (waysIn w most (p.1 - l).toNat (p.2 - p.1 + 1).toNat) p.1 s
def waysTo (most : Nat) : List Int → Int → List (Int × Int) → List (List Int)
  | _, _, [] => []
  | w, l, p :: s => waysIn w most (p.1 - l).toNat (p.2 - p.1 + 1).toNat :: waysTo most (waysIn w most (p.1 - l).toNat (p.2 - p.1 + 1).toNat) p.1 s
theorem waysTo_last (most : Nat) : ∀ (s : List (Int × Int)) (w : List Int) (l : Int), s ≠ [] → (waysTo most w l s).getLast? = some (lastW most w l s)
  | [], _, _, h => absurd rfl h
  | [p], w, l, _ => rfl
  | p :: q :: s, w, l, _ => by
    rw [waysTo, lastW, ← waysTo_last most (q :: s) _ _ (by simp)]
    rw [waysTo, List.getLast?_cons_cons]
def allWays (most : Nat) (s : List (Int × Int)) : Int := (lastW most [1] 0 s).sum
theorem lastW_mine (b : Nat) : ∀ (T k : Nat) (w : List Int), w.length = b * k + 1 → (lastW b w 0 ((List.range' (k + 1) T).map fun (t : Nat) => ((0 : Int), (b : Int) * (t : Int)))).sum = ((b : Int) + 1) ^ T * w.sum
  | 0, k, w, _ => by simp [lastW]
  | T + 1, k, w, h => by
    rw [List.range'_succ, List.map_cons, lastW]
    simp only
    have e1 : ((b : Int) * ((k + 1 : Nat) : Int) - 0 + 1).toNat = w.length + b := by
      rw [h, Int.sub_zero, ← Int.natCast_mul, Nat.mul_add]
      omega
    rw [e1, show ((0 : Int) - 0).toNat = 0 from rfl, lastW_mine b T (k + 1) _ (by rw [waysIn_len, h, Nat.mul_add]; omega), waysIn_full, Int.pow_succ, Int.mul_assoc]
theorem lastW_shut (b : Nat) : ∀ (T : Nat), lastW b [1] 0 (List.replicate T ((0 : Int), (0 : Int))) = [1]
  | 0 => rfl
  | T + 1 => by
    rw [List.replicate_succ, lastW]
    have : waysIn [1] b ((0 : Int) - 0).toNat ((0 : Int) - 0 + 1).toNat = [1] := by
      simp [waysIn, S, sumTo]
    simp only [this, lastW_shut b T]
/-- no more than so many -/
theorem lastW_bound {most : Nat} : ∀ (s : List (Int × Int)) (w : List Int) (l : Int) (X : Int), (∀ x ∈ w, 0 ≤ x) → w.sum ≤ X → (∀ p ∈ s, p.2 - p.1 + 1 ≤ 256) → (∀ x ∈ lastW most w l s, 0 ≤ x) ∧ (lastW most w l s).sum ≤ 256 ^ s.length * X
  | [], w, l, X, h1, h2, _ => ⟨h1, by simpa [lastW] using h2⟩
  | p :: s, w, l, X, h1, h2, h3 => by
    have k := waysIn_nn h1 most (p.1 - l).toNat (p.2 - p.1 + 1).toNat
    have hX : 0 ≤ w.sum := sum_nn h1
    have hp := h3 p (by simp)
    have e1 : (waysIn w most (p.1 - l).toNat (p.2 - p.1 + 1).toNat).sum ≤ 256 * X := by
      have := sum_le fun y hy => (k y hy).2
      rw [waysIn_len] at this
      have h4 : ((p.2 - p.1 + 1).toNat : Int) ≤ 256 := by omega
      have h5 := Int.mul_le_mul h4 h2 hX (by decide)
      omega
    obtain ⟨i1, i2⟩ := lastW_bound (most := most) s _ p.1 (256 * X) (fun x hx => (k x hx).1) e1 fun q hq => h3 q (by simp [hq])
    refine ⟨i1, ?_⟩
    rw [List.length_cons, Int.pow_succ, Int.mul_assoc]
    exact i2
end Dn

set_option maxHeartbeats 1000000
/-! Ev: what a text is worth, worked out by its shape. -/
namespace Dn
open PySem PySem.Spec PyProof.Rows L2
theorem ev_ret {α : Type} {a : α} {env : DEnv} : mRet a env = some (a, env) := rfl
theorem ev_var {i : Nat} {env : DEnv} {d : D} (h : env[i]? = some (some (SV.fz d))) : mVar i env = some (d, env) := by unfold mVar; simp only [h]
def seqK (F' : So) (f : Fl) : Option Fl := match f with | .nx e1 => F' e1 | g => some g
theorem ev_seq {F F' : So} {env : DEnv} {f : Fl} {r : Option Fl} (h : F env = some f) (h2 : seqK F' f = r) : sSeq F F' env = r := by
  unfold sSeq
  rw [h]
  cases f <;> exact h2
theorem seqK_nx {F' : So} {e1 : DEnv} {r : Option Fl} (h : F' e1 = r) : seqK F' (.nx e1) = r := h
theorem seqK_rt {F' : So} {d : D} {e1 : DEnv} {r : Option Fl} (h : some (Fl.rt d e1) = r) : seqK F' (.rt d e1) = r := h
theorem seqK_bk {F' : So} {e1 : DEnv} {r : Option Fl} (h : some (Fl.bk e1) = r) : seqK F' (.bk e1) = r := h
theorem seqK_ct {F' : So} {e1 : DEnv} {r : Option Fl} (h : some (Fl.ct e1) = r) : seqK F' (.ct e1) = r := h
theorem ev_if {c : Mo Bool} {F F' : So} {env e1 : DEnv} {k : Bool} {r : Option Fl} (h : c env = some (k, e1)) (h2 : (if k = true then F e1 else F' e1) = r) : sIf c F F' env = r := by
  unfold sIf
  simp only [h]
  exact h2
theorem ev_mif {α : Type} {c : Mo Bool} {m n : Mo α} {env e1 : DEnv} {k : Bool} {r : Option (α × DEnv)} (h : c env = some (k, e1)) (h2 : (if k = true then m e1 else n e1) = r) : mIf c m n env = r := (mIf_ev h).trans h2
theorem ev_and {m n : Mo Bool} {env e1 : DEnv} {k : Bool} {r : Option (Bool × DEnv)} (h : m env = some (k, e1)) (h2 : (if k = true then n e1 else some (false, e1)) = r) : mAnd m n env = r := by
  unfold mAnd mBind
  rw [h]
  cases k <;> exact h2
theorem ev_or {m n : Mo Bool} {env e1 : DEnv} {k : Bool} {r : Option (Bool × DEnv)} (h : m env = some (k, e1)) (h2 : (if k = true then some (true, e1) else n e1) = r) : mOr m n env = r := by
  unfold mOr mBind
  rw [h]
  cases k <;> exact h2
theorem ev_not {m : Mo Bool} {env e1 : DEnv} {k : Bool} (h : m env = some (k, e1)) : mNot m env = some (!k, e1) := by
  unfold mNot mBind
  rw [h]
  rfl
theorem ev_andv {m n : Mo D} {env e1 : DEnv} {k : Bool} {r : Option (D × DEnv)} (h : m env = some (.bool k, e1)) (h2 : (if k = true then n e1 else some (.bool false, e1)) = r) : mAndV m n env = r := by
  unfold mAndV mBind
  rw [mMap_ev h (z := k) rfl]
  cases k <;> exact h2
theorem ev_chain {g g' : D → D → Option D} {m n l : Mo D} {env e1 e2 : DEnv} {x y z : D} {k k2 : Bool} (h1 : m env = some (x, e1)) (h2 : n e1 = some (y, e2)) (h3 : g x y = some (.bool k)) (h4 : l e2 = some (z, e2)) (h5 : g' y z = some (.bool k2)) :
    mChain g g' m n l env = some (k && k2, e2) := by
  unfold mChain mBind
  rw [h1]
  simp only [h2, mMap, mBind, mLift, h3, Option.map_some]
  cases k
  · rfl
  · simp only [gB, if_pos, h4, h5]
    rfl
theorem ite_t {α : Type} {k : Bool} {a b r : α} (h : k = true) (h2 : a = r) : (if k = true then a else b) = r := by rw [if_pos h]; exact h2
theorem ite_f {α : Type} {k : Bool} {a b r : α} (h : k = false) (h2 : b = r) : (if k = true then a else b) = r := by rw [if_neg (by rw [h]; decide)]; exact h2
theorem ev_set {i : Nat} {m : Mo D} {env e1 e2 : DEnv} {d : D} (h : m env = some (d, e1)) (h2 : e1.set i (some (SV.fz d)) = e2) : sSet i m env = some (.nx e2) := by rw [sSet_ev h, h2]
theorem ev_setN {i k : Nat} {m : Mo D} {env e1 e2 : DEnv} {d : D} (h : m env = some (d, e1)) (h2 : e1.set i (some (SV.ow false k d)) = e2) : sSetN i k m env = some (.nx e2) := by
  unfold sSetN
  rw [h]
  rw [← h2]
theorem ev_aug {i : Nat} {g : D → D → Option D} {m : Mo D} {env e1 e2 : DEnv} {x y z : D} (h0 : env[i]? = some (some (SV.fz x))) (h : m env = some (y, e1)) (h1 : g x y = some z) (h2 : e1.set i (some (SV.fz z)) = e2) : sAug i g m env = some (.nx e2) := by
  unfold sAug
  simp only [h0, h, h1, h2]
theorem ev_frz {i : Nat} {F : So} {env e1 : DEnv} {io : Bool} {k : Nat} {d : D} {r : Option Fl} (h0 : env[i]? = some (some (SV.ow io k d))) (h1 : env.set i (some (SV.fz d)) = e1) (h2 : F e1 = r) : sFrz i F env = r := by
  unfold sFrz
  simp only [h0, h1, h2]
theorem ev_drop {α : Type} {m : Mo α} {env e1 : DEnv} {x : α} (h : m env = some (x, e1)) : sDrop m env = some (.nx e1) := by
  unfold sDrop
  rw [h]
theorem ev_app {i : Nat} {m : Mo D} {env e1 e2 : DEnv} {io : Bool} {ds : List D} {d : D} {p : Bool × List D} (h0 : ownAt env i = some p) (h : m env = some (d, e1)) (h1 : ownAt e1 i = some (io, ds)) (hl : ds.length < 100000) (h2 : e1.set i (some (.ow io 0 (.list (ds ++ [d])))) = e2) : sApp i m env = some (.nx e2) := by
  rw [sApp_ev ⟨p, h0⟩ h h1 hl, h2]
theorem ev_lend {m : Mo D} {env e0 e1 : DEnv} {d : D} (h0 : lendE env = e0) (h : m e0 = some (d, e1)) (f : flatD d = true) : mLend m env = some (d, env) := mLend_ev (h0 ▸ h) f
theorem ev_lendT {m : Mo Bool} {env e0 e1 : DEnv} {d : Bool} (h0 : lendE env = e0) (h : m e0 = some (d, e1)) : mLendT m env = some (d, env) := mLendT_ev (h0 ▸ h)
theorem ev_for {items : Mo (List D)} {tgt : D → DEnv → Option DEnv} {body : So} {env e1 : DEnv} {ds : List D} {r : Option Fl} (h1 : items env = some (ds, e1)) (h2 : forGo tgt body ds e1 = r) : sFor items tgt body env = r := (sFor_ev h1).trans h2
theorem restGo_wipe (vs : List Nat) : ∀ (e : DEnv) (k : Nat), restGo vs k e (wipeGo vs k e) = e
  | [], _ => rfl
  | s :: e, k => by
    rw [wipeGo, restGo, restGo_wipe vs e (k + 1)]
    split <;> rfl
theorem ev_lc {items : Mo (List D)} {tgt : D → DEnv → Option DEnv} {test : Mo Bool} {elt : Mo D} {vs : List Nat} {env e1 : DEnv} {ds ys : List D} (h1 : items env = some (ds, e1)) (h3 : okW e1 vs = true) (h4 : lcGo tgt test elt vs ds (wipeD e1 vs) = some (ys, wipeD e1 vs)) (h2 : ds.length ≤ 100000) :
    mLc items tgt test elt vs env = some (ys, e1) := by rw [mLc_ev h1 h2 h3 h4, restD, wipeD, restGo_wipe]
theorem ev_len {n : Nat} {F : List D → Option D} {ds : List D} {z : D} (h : ds.length = n) (h2 : F ds = some z) : lenIs n F ds = some z := (if_pos h).trans h2
theorem ev_sl {m : Mo D} {l h : Mo (Option Int)} {env e1 e2 e3 : DEnv} {x z : D} {lo hi : Option Int} (h1 : m env = some (x, e1)) (h2 : l e1 = some (lo, e2)) (h3 : h e2 = some (hi, e3)) (h4 : gSl x lo hi = some z) : mSl m l h env = some (z, e3) := by
  simp [mSl, mBind, mLift, h1, h2, h3, h4]
theorem ev_star {m : Mo D} {n : Mo (List D)} {env e1 e2 : DEnv} {x : D} {xs ys : List D} (h1 : m env = some (x, e1)) (h0 : gSeq x = some xs) (h2 : n e1 = some (ys, e2)) : mStar m n env = some (xs ++ ys, e2) := by
  simp [mStar, mMap, mBind, mLift, mRet, h1, h0, h2]
theorem ev_nil {env : DEnv} : sNil env = some (.nx env) := rfl
theorem ev_tup {m : Mo D} {t : D → DEnv → Option DEnv} {env e1 e2 : DEnv} {d : D} (h : m env = some (d, e1)) (h2 : t d e1 = some e2) : sTup m t env = some (.nx e2) := by
  unfold sTup
  rw [h]
  show (t d e1).map Fl.nx = _
  rw [h2]
  rfl
theorem ev_fin {a b : Fl} (h : a = b) : some a = some b := congrArg some h
theorem ev_bk {env : DEnv} : (fun env : DEnv => some (Fl.bk env)) env = some (.bk env) := rfl
theorem ev_pars {is : List Nat} {m : Mo (List (Option Nat × D))} {env e1 e2 : DEnv} {its : List (Option Nat × D)} (h : m env = some (its, e1)) (hl : is.length = its.length) (h2 : setE is its e1 = e2) : sPars is m env = some (.nx e2) := by rw [sPars_ev h hl, h2]
theorem ev_io {i k : Nat} {F' : Mo (List AR)} {env e1 : DEnv} {io : Bool} {d : D} {ars : List AR} (h0 : env[i]? = some (some (SV.ow io k d))) (h : F' env = some (ars, e1)) : mIo i F' env = some (AR.io i :: ars, e1) := by
  unfold mIo
  simp only [h0]
  exact mCons_ev rfl h
theorem ev_callIO {ms : Ms} {F : List D → Option (D × List D)} {m : Mo (List AR)} {env e1 e2 : DEnv} {ars : List AR} {i k : Nat} {io : Bool} {ds : List D} {z o d : D} (h : m env = some (ars, e1)) (hn : iosOf ars = [i]) (h0 : e1[i]? = some (some (SV.ow io k d))) (h2 : argsOf ms ars e1 = some ds) (h3 : F ds = some (z, [o])) (h4 : putOuts ms ars [o] e1 = some (e1.set i (some (SV.ow io k o)))) (h5 : e1.set i (some (SV.ow io k o)) = e2) : mCallIO ms F m env = some (z, e2) := by
  unfold mCallIO
  have hnd : [i].Nodup := by simp
  simp only [h, hn, h2, h3, h4, hnd, if_true, Option.map_some, h5]
theorem ev_gnm {i : Nat} {d : D} {env e1 : DEnv} (h : env.set i (some (SV.fz d)) = e1) : gNm i d env = some e1 := by rw [← h]; rfl
theorem ev_tu {n : Nat} {Bs : List D → DEnv → Option DEnv} {ds : List D} {env e1 : DEnv} (h : ds.length = n) (h2 : Bs ds env = some e1) : gTu n Bs (.tuple ds) env = some e1 := (if_pos h).trans h2
theorem ev_gcons {B : D → DEnv → Option DEnv} {Bs : List D → DEnv → Option DEnv} {d : D} {ds : List D} {env e1 e2 : DEnv} (h : B d env = some e1) (h2 : Bs ds e1 = some e2) : gsCons B Bs (d :: ds) env = some e2 := by
  unfold gsCons
  simp only [h, h2]
theorem ev_gnil {env : DEnv} : gsNil [] env = some env := rfl
theorem ev_outF {B : So} {env e1 : DEnv} {d : D} (h : B env = some (.rt d e1)) : outF (B env) = some d := by rw [h]; rfl
theorem ev_outN {B : So} {env e1 : DEnv} (h : B env = some (.nx e1)) : outF (B env) = some .none := by rw [h]; rfl
theorem gSub_int (i j : Int) : gSub (.int i) (.int j) = some (.int (i - j)) := rfl
theorem gIAdd_int (i j : Int) : gIAdd (.int i) (.int j) = some (.int (i + j)) := rfl
theorem gLt_int (i j : Int) : gLt (.int i) (.int j) = some (.bool (decide (i < j))) := rfl
theorem gLe_int (i j : Int) : gLe (.int i) (.int j) = some (.bool (decide (i ≤ j))) := rfl
theorem gGt_int (i j : Int) : gGt (.int i) (.int j) = some (.bool (decide (j < i))) := rfl
theorem gGe_int (i j : Int) : gGe (.int i) (.int j) = some (.bool (decide (j ≤ i))) := rfl
theorem gEq_int (i j : Int) : gEq (.int i) (.int j) = some (.bool (i == j)) := rfl
theorem gNe_int (i j : Int) : gNe (.int i) (.int j) = some (.bool (!(i == j))) := rfl
theorem gIxt0 (x : D) (xs : List D) : gIx (.tuple (x :: xs)) (.int 0) = some x := atI_0 x xs
theorem gIxt1 (x y : D) (xs : List D) : gIx (.tuple (x :: y :: xs)) (.int 1) = some y := atI_1 x y xs
theorem gIxl0 (x : D) (xs : List D) : gIx (.list (x :: xs)) (.int 0) = some x := atI_0 x xs
theorem gIxl1 (x y : D) (xs : List D) : gIx (.list (x :: y :: xs)) (.int 1) = some y := atI_1 x y xs
theorem gIx_tn {xs : List D} {k : Nat} {x : D} (h : xs[k]? = some x) : gIx (.tuple xs) (.int k) = some x := atI_nat h
theorem gIx_ln {xs : List D} {k : Nat} {x : D} (h : xs[k]? = some x) : gIx (.list xs) (.int k) = some x := atI_nat h
end Dn

/-! names of loops -/
namespace Dn
open PySem PySem.Spec PyProof.Rows L2
abbrev T_are_whole_1 : D → DEnv → Option DEnv := (gNm 1)
abbrev L_are_whole_1 : So := (sSeq (sIf (mAnd (mMap gB (mMap gTyNotInt (mVar 1))) (mNot (mMap gTru (mMap (lenIs 1 F_is_whole) (mCons (mVar 1) (mRet [])))))) (sSeq (sRet (mRet (.bool false)))
    sNil) sNil)
    sNil)
abbrev CT_are_rows_1 : D → DEnv → Option DEnv := (gNm 3)
abbrev CC_are_rows_1 : Mo Bool := (mMap gTru (mMap gIsTuple (mVar 3)))
abbrev CE_are_rows_1 : Mo D := (mMap gLen (mCons (mVar 3) (mRet [])))
abbrev T_is_rising_1 : D → DEnv → Option DEnv := (gTu 2 (gsCons (gNm 1) (gsCons (gNm 2) gsNil)))
abbrev L_is_rising_1 : So := (sSeq (sIf (mNot (mMap gB (mBin gLt (mVar 1) (mVar 2)))) (sSeq (sRet (mRet (.bool false)))
    sNil) sNil)
    sNil)
abbrev T_is_column_1 : D → DEnv → Option DEnv := (gTu 2 (gsCons (gNm 4) (gsCons (gNm 5) gsNil)))
abbrev L_is_column_1 : So := (sSeq (sIf (mMap gB (mMap gNotN (mVar 5))) (sSeq (sIf (mOr (mMap gB (mBin gLt (mVar 4) (mVar 3))) (mOr (mMap gB (mBin (gIn true) (mVar 5) (mVar 1))) (mAnd (mMap gB (mMap gTyNotInt (mVar 5))) (mNot (mMap gTru (mMap (lenIs 1 F_is_whole) (mCons (mVar 5) (mRet [])))))))) (sSeq (sRet (mRet (.bool false)))
    sNil) sNil)
    (sSeq (sSet 3 (mBin gAdd (mVar 4) (mBin gIx (mVar 0) (mVar 5))))
    sNil)) sNil)
    sNil)
abbrev T_turns_of_1 : D → DEnv → Option DEnv := (gTu 2 (gsCons (gNm 4) (gsCons (gNm 5) gsNil)))
abbrev L_turns_of_1 : So := (sSeq (sIf (mMap gB (mMap gNotN (mVar 5))) (sSeq (sApp 2 (mVar 5))
    (sSeq (sSet 3 (mBin gAdd (mVar 4) (mBin gIx (mVar 0) (mVar 5))))
    sNil)) (sSeq (sApp 2 (mIf (mMap gB (mBin gLt (mVar 4) (mVar 3))) (mRet (.int (-1))) (mRet (.int (4)))))
    sNil))
    sNil)
abbrev CT_all_stays_1 : D → DEnv → Option DEnv := (gTu 2 (gsCons (gNm 1) (gsCons (gNm 2) gsNil)))
abbrev CC_all_stays_1 : Mo Bool := (mRet true)
abbrev CE_all_stays_1 : Mo D := (mVar 2)
abbrev CT_all_turns_1 : D → DEnv → Option DEnv := (gNm 3)
abbrev CC_all_turns_1 : Mo Bool := (mRet true)
abbrev CE_all_turns_1 : Mo D := (mMap (lenIs 2 F_turns_of) (mCons (mVar 2) (mCons (mVar 3) (mRet []))))
abbrev T__are_desks_1 : D → DEnv → Option DEnv := (gNm 2)
abbrev L__are_desks_1 : So := (sSeq (sIf (mOr (mNot (mMap gTru (mMap gIsTuple (mVar 2)))) (mNot (mMap gTru (mVar 2)))) (sSeq (sRet (mRet (.bool false)))
    sNil) sNil)
    (sSeq (sSet 3 (mRet (.int 0)))
    (sSeq (sFor (mMap gSeq (mVar 2)) (gNm 4) (sSeq (sIf (mOr (mAnd (mMap gB (mMap gTyNotInt (mVar 4))) (mNot (mMap gTru (mMap (lenIs 1 F_is_whole) (mCons (mVar 4) (mRet [])))))) (mNot (mChain gLe gLt (mVar 3) (mVar 4) (mVar 1)))) (sSeq (sRet (mRet (.bool false)))
    sNil) sNil)
    (sSeq (sSet 3 (mBin gAdd (mVar 4) (mRet (.int 1))))
    sNil)))
    sNil)))
abbrev T__are_desks_2 : D → DEnv → Option DEnv := (gNm 4)
abbrev L__are_desks_2 : So := (sSeq (sIf (mOr (mAnd (mMap gB (mMap gTyNotInt (mVar 4))) (mNot (mMap gTru (mMap (lenIs 1 F_is_whole) (mCons (mVar 4) (mRet [])))))) (mNot (mChain gLe gLt (mVar 3) (mVar 4) (mVar 1)))) (sSeq (sRet (mRet (.bool false)))
    sNil) sNil)
    (sSeq (sSet 3 (mBin gAdd (mVar 4) (mRet (.int 1))))
    sNil))
abbrev T__are_ranks_1 : D → DEnv → Option DEnv := (gNm 1)
abbrev L__are_ranks_1 : So := (sSeq (sIf (mOr (mNot (mMap gTru (mMap gIsTuple (mVar 1)))) (mOr (mMap gB (mBin gNe (mMap gLen (mCons (mVar 1) (mRet []))) (mRet (.int 2)))) (mNot (mMap gTru (mMap (lenIs 1 F_are_whole) (mCons (mVar 1) (mRet []))))))) (sSeq (sRet (mRet (.bool false)))
    sNil) sNil)
    (sSeq (sTup (mVar 1) (gTu 2 (gsCons (gNm 2) (gsCons (gNm 3) gsNil))))
    (sSeq (sIf (mOr (mNot (mChain gLe gLe (mRet (.int 1)) (mVar 2) (mRet (.int (5))))) (mNot (mChain gLe gLe (mRet (.int 1)) (mVar 3) (mRet (.int (10)))))) (sSeq (sRet (mRet (.bool false)))
    sNil) sNil)
    sNil)))
abbrev T_columns_of_1 : D → DEnv → Option DEnv := (gTu 2 (gsCons (gNm 5) (gsCons (gNm 6) gsNil)))
abbrev L_columns_of_1 : So := (sSeq (sIf (mNot (mMap gTru (mMap (lenIs 3 F_is_column) (mCons (mVar 3) (mCons (mVar 6) (mCons (mVar 5) (mRet []))))))) (sSeq (sRet (mRet .none))
    sNil) sNil)
    sNil)
abbrev T__are_looks_of_1 : D → DEnv → Option DEnv := (gNm 3)
abbrev L__are_looks_of_1 : So := sNone
abbrev CT_told_of_1 : D → DEnv → Option DEnv := (gTu 2 (gsCons (gNm 13) (gsCons (gNm 14) gsNil)))
abbrev CC_told_of_1 : Mo Bool := (mMap gB (mBin (gIn false) (mVar 2) (mVar 14)))
abbrev CE_told_of_1 : Mo D := (mVar 13)
abbrev CT_told_of_2 : D → DEnv → Option DEnv := (gNm 15)
abbrev CC_told_of_2 : Mo Bool := (mRet true)
abbrev CE_told_of_2 : Mo D := (mMap gTup (mRet []))
abbrev T_told_of_1 : D → DEnv → Option DEnv := (gNm 10)
abbrev L_told_of_1 : So := (sSeq (sSet 11 (mRet .none))
    (sSeq (sFor (mMap gSeq (mVar 10)) (gNm 12) (sSeq (sIf (mMap gB (mBin gEq (mVar 12) (mVar 2))) (sSeq (sAug 4 gIAdd (mRet (.int 1)))
    sNil) (sSeq (sIf (mAnd (mMap gB (mBin (gInK false) (mVar 12) (mVar 5))) (mMap gB (mMap gIsN (mVar 11)))) (sSeq (sSet 11 (mVar 4))
    sNil) sNil)
    sNil))
    sNil))
    (sSeq (sApp 8 (mVar 4))
    (sSeq (sApp 9 (mVar 11))
    sNil))))
abbrev T_told_of_2 : D → DEnv → Option DEnv := (gNm 12)
abbrev L_told_of_2 : So := (sSeq (sIf (mMap gB (mBin gEq (mVar 12) (mVar 2))) (sSeq (sAug 4 gIAdd (mRet (.int 1)))
    sNil) (sSeq (sIf (mAnd (mMap gB (mBin (gInK false) (mVar 12) (mVar 5))) (mMap gB (mMap gIsN (mVar 11)))) (sSeq (sSet 11 (mVar 4))
    sNil) sNil)
    sNil))
    sNil)
abbrev T_told_with_1 : D → DEnv → Option DEnv := (gTu 4 (gsCons (gNm 6) (gsCons (gNm 7) (gsCons (gNm 8) (gsCons (gNm 9) gsNil)))))
abbrev L_told_with_1 : So := (sSeq (sIf (mMap gB (mBin gEq (mVar 7) (mVar 2))) (sSeq (sPut 4 (mVar 6) (mLend (mMap gMax2 (mCons (mBin gIx (mVar 4) (mVar 6)) (mCons (mBin gAdd (mBin gIx (mVar 3) (mVar 6)) (mVar 8)) (mRet []))))))
    (sSeq (sPut 5 (mVar 6) (mLend (mIf (mMap gB (mMap gIsN (mBin gIx (mVar 5) (mVar 6)))) (mBin gAdd (mBin gIx (mVar 3) (mVar 6)) (mVar 9)) (mMap gMin2 (mCons (mBin gIx (mVar 5) (mVar 6)) (mCons (mBin gAdd (mBin gIx (mVar 3) (mVar 6)) (mVar 9)) (mRet [])))))))
    sNil)) sNil)
    sNil)
abbrev T_steps_up_1 : D → DEnv → Option DEnv := (gTu 2 (gsCons (gNm 5) (gsCons (gNm 6) gsNil)))
abbrev L_steps_up_1 : So := (sSeq (sAug 3 gIAdd (mVar 1))
    (sSeq (sIf (mAnd (mMap gB (mMap gNotN (mVar 6))) (mMap gB (mBin gLt (mVar 6) (mVar 3)))) (sSeq (sSet 3 (mVar 6))
    sNil) sNil)
    (sSeq (sIf (mMap gB (mBin gGt (mVar 5) (mVar 2))) (sSeq (sSet 2 (mVar 5))
    sNil) sNil)
    (sSeq (sApp 4 (mMap gTup (mCons (mVar 2) (mCons (mVar 3) (mRet [])))))
    (sSeq (sIf (mMap gB (mBin gGt (mVar 2) (mVar 3))) (sSeq (fun env => some (.bk env))
    sNil) sNil)
    sNil)))))
abbrev T_steps_down_1 : D → DEnv → Option DEnv := (gTu 2 (gsCons (gNm 5) (gsCons (gNm 6) gsNil)))
abbrev L_steps_down_1 : So := (sSeq (sSet 2 (mIf (mMap gB (mBin gGt (mVar 5) (mBin gSub (mVar 2) (mVar 1)))) (mVar 5) (mBin gSub (mVar 2) (mVar 1))))
    (sSeq (sSet 3 (mIf (mMap gB (mBin gLt (mVar 6) (mVar 3))) (mVar 6) (mVar 3)))
    (sSeq (sApp 4 (mMap gTup (mCons (mVar 2) (mCons (mVar 3) (mRet [])))))
    sNil)))
abbrev T_all_up_1 : D → DEnv → Option DEnv := (gNm 5)
abbrev L_all_up_1 : So := (sSeq (sSet 6 (mMap (lenIs 4 F_rank_up) (mCons (mVar 0) (mCons (mVar 3) (mCons (mVar 2) (mCons (mVar 5) (mRet [])))))))
    (sSeq (sIf (mMap gTru (mMap (lenIs 1 F_is_barred) (mCons (mVar 6) (mRet [])))) (sSeq (sRet (mRet .none))
    sNil) sNil)
    (sSeq (sApp 4 (mVar 6))
    sNil)))
abbrev CT_all_steps_1 : D → DEnv → Option DEnv := (gTu 2 (gsCons (gNm 4) (gsCons (gTu 2 (gsCons (gNm 5) (gsCons (gNm 6) gsNil))) gsNil)))
abbrev CC_all_steps_1 : Mo Bool := (mRet true)
abbrev CE_all_steps_1 : Mo D := (mMap (lenIs 2 F_steps_down) (mCons (mVar 4) (mCons (mVar 5) (mRet []))))
abbrev CT_ways_within_1 : D → DEnv → Option DEnv := (gTu 2 (gsCons (gNm 6) (gsCons (gNm 7) gsNil)))
abbrev CC_ways_within_1 : Mo Bool := (mRet true)
abbrev CE_ways_within_1 : Mo D := (mBin gSub (mVar 6) (mVar 7))
abbrev T_ways_to_1 : D → DEnv → Option DEnv := (gTu 2 (gsCons (gNm 5) (gsCons (gNm 6) gsNil)))
abbrev L_ways_to_1 : So := (sSeq (sSet 3 (mMap (lenIs 4 F_ways_within) (mCons (mVar 3) (mCons (mVar 1) (mCons (mBin gSub (mVar 5) (mVar 4)) (mCons (mBin gAdd (mBin gSub (mVar 6) (mVar 5)) (mRet (.int 1))) (mRet [])))))))
    (sSeq (sApp 2 (mVar 3))
    (sSeq (sSet 4 (mVar 5))
    sNil)))
abbrev T_all_comings_1 : D → DEnv → Option DEnv := (gTu 2 (gsCons (gNm 3) (gsCons (gTu 2 (gsCons (gNm 4) (gsCons (gNm 5) gsNil))) gsNil)))
abbrev L_all_comings_1 : So := (sSeq (sSet 2 (mBin gMulB (mVar 2) (mMap (lenIs 2 F_all_ways) (mCons (mVar 3) (mCons (mVar 4) (mRet []))))))
    sNil)
abbrev CT__law_bags_1 : D → DEnv → Option DEnv := (gTu 2 (gsCons (gNm 2) (gsCons (gNm 3) gsNil)))
abbrev CC__law_bags_1 : Mo Bool := (mRet true)
abbrev CE__law_bags_1 : Mo D := (mMap (lenIs 2 F__law_well) (mCons (mVar 3) (mCons (mBin gMulB (mRet (.int 977)) (mVar 2)) (mRet []))))
abbrev CT__law_some_1 : D → DEnv → Option DEnv := (gNm 3)
abbrev CC__law_some_1 : Mo Bool := (mMap gB (mBin gGt (mCallIO [some 0, none] F__law_take (mIo 0 (mCons (mMap (fun d => some (AR.fz d)) (mRet (.int 4))) (mRet [])))) (mRet (.int 0))))
abbrev CE__law_some_1 : Mo D := (mVar 3)
abbrev T__law_hall_1 : D → DEnv → Option DEnv := (gNm 9)
abbrev L__law_hall_1 : So := (sSeq (sApp 8 (mMap gTup (mCons (mBin gAdd (mRet (.int 1)) (mCallIO [some 0, none] F__law_take (mIo 0 (mCons (mMap (fun d => some (AR.fz d)) (mVar 3)) (mRet []))))) (mCons (mIf (mMap gTru (mVar 5)) (mVar 7) (mBin gAdd (mRet (.int 1)) (mCallIO [some 0, none] F__law_take (mIo 0 (mCons (mMap (fun d => some (AR.fz d)) (mVar 4)) (mRet [])))))) (mRet [])))))
    sNil)
abbrev T__law_hall_2 : D → DEnv → Option DEnv := (gNm 11)
abbrev L__law_hall_2 : So := (sSeq (sApp 10 (mIf (mOr (mMap gTru (mVar 5)) (mMap gB (mBin gEq (mCallIO [some 0, none] F__law_take (mIo 0 (mCons (mMap (fun d => some (AR.fz d)) (mRet (.int 2))) (mRet [])))) (mRet (.int 0))))) (mMap gTupRg (mVar 6)) (mCallIO [some 0, none] F__law_some (mIo 0 (mCons (mMap (fun d => some (AR.fz d)) (mVar 6)) (mRet []))))))
    sNil)
abbrev CT__law_comings_1 : D → DEnv → Option DEnv := (gNm 7)
abbrev CC__law_comings_1 : Mo Bool := (mRet true)
abbrev CE__law_comings_1 : Mo D := (mCallIO [some 0, none] F__law_take (mIo 0 (mCons (mMap (fun d => some (AR.fz d)) (mRet (.int 6))) (mRet []))))
abbrev T__law_comings_1 : D → DEnv → Option DEnv := (gNm 5)
abbrev L__law_comings_1 : So := (sSeq (sSetN 6 0 (mMap gLst (mRet [])))
    (sSeq (sFor (mMap gZip2 (mCons (mBin gIx (mVar 1) (mRet (.int 0))) (mCons (mVar 3) (mRet [])))) (gTu 2 (gsCons (gNm 7) (gsCons (gNm 8) gsNil))) (sSeq (sApp 6 (mIf (mMap gB (mBin gLt (mCallIO [some 0, none] F__law_take (mIo 0 (mCons (mMap (fun d => some (AR.fz d)) (mRet (.int 6))) (mRet [])))) (mVar 8))) (mRet (.int 0)) (mCallIO [some 0, none] F__law_take (mIo 0 (mCons (mMap (fun d => some (AR.fz d)) (mBin gAdd (mBin gIx (mVar 7) (mRet (.int 0))) (mRet (.int 1)))) (mRet []))))))
    sNil))
    (sFrz 6 (sSeq (sApp 4 (mMap gTuple (mCons (mVar 6) (mRet []))))
    sNil))))
abbrev T__law_comings_2 : D → DEnv → Option DEnv := (gTu 2 (gsCons (gNm 7) (gsCons (gNm 8) gsNil)))
abbrev L__law_comings_2 : So := (sSeq (sApp 6 (mIf (mMap gB (mBin gLt (mCallIO [some 0, none] F__law_take (mIo 0 (mCons (mMap (fun d => some (AR.fz d)) (mRet (.int 6))) (mRet [])))) (mVar 8))) (mRet (.int 0)) (mCallIO [some 0, none] F__law_take (mIo 0 (mCons (mMap (fun d => some (AR.fz d)) (mBin gAdd (mBin gIx (mVar 7) (mRet (.int 0))) (mRet (.int 1)))) (mRet []))))))
    sNil)
abbrev T__law_order_1 : D → DEnv → Option DEnv := (gNm 3)
abbrev L__law_order_1 : So := (sSeq (sIf (mAnd (mMap gB (mBin (gIn false) (mVar 3) (mVar 0))) (mMap gB (mBin gNe (mBin gIx (mVar 1) (mVar 3)) (mMap gLst (mRet []))))) (sSeq (sRet (mVar 3))
    sNil) sNil)
    sNil)
abbrev CT__law_run_by_1 : D → DEnv → Option DEnv := (gNm 12)
abbrev CC__law_run_by_1 : Mo Bool := (mRet true)
abbrev CE__law_run_by_1 : Mo D := (mMap gLst (mRet []))
abbrev CT__law_run_by_2 : D → DEnv → Option DEnv := (gNm 12)
abbrev CC__law_run_by_2 : Mo Bool := (mRet true)
abbrev CE__law_run_by_2 : Mo D := (mMap gLst (mRet []))
abbrev T__law_run_by_1 : D → DEnv → Option DEnv := (gTu 2 (gsCons (gNm 10) (gsCons (gNm 11) gsNil)))
abbrev L__law_run_by_1 : So := (sSeq (sFor (mMap gEnum (mCons (mVar 11) (mRet []))) (gTu 2 (gsCons (gNm 12) (gsCons (gNm 13) gsNil))) (sSeq (sPut2 5 (mVar 12) (mAdd2 5 (mVar 12) (mBin gMulB (mMap gLst (mCons (mVar 10) (mRet []))) (mVar 13))))
    sNil))
    (sSeq (sSetN 14 0 (mMap gLst (mRet [])))
    (sSeq (sFor (mMap gEnum (mCons (mVar 4) (mRet []))) (gTu 2 (gsCons (gNm 15) (gsCons (gNm 16) gsNil))) (sSeq (sSet 17 (mLend (mIf (mMap gB (mBin gLe (mBin gIx (mVar 6) (mVar 15)) (mVar 10))) (mMap (lenIs 3 F__law_order) (mCons (mVar 16) (mCons (mVar 5) (mCons (mVar 2) (mRet []))))) (mRet .none))))
    (sSeq (sApp 14 (mVar 17))
    (sSeq (sIf (mMap gB (mMap gNotN (mVar 17))) (sSeq (sApp2 9 (mVar 17) (mBin gSub (mVar 10) (mPop2 5 (mVar 17) (mRet (.int 0)))))
    (sSeq (sPut 6 (mVar 15) (mBin gAdd (mVar 10) (mBin gIx (mBin gIx (mVar 3) (mVar 17)) (mRet (.int 1)))))
    sNil)) sNil)
    sNil))))
    (sFrz 14 (sSeq (sApp 7 (mMap gTuple (mCons (mVar 14) (mRet []))))
    (sSeq (sApp 8 (mCopy2 5 18))
    sNil))))))
abbrev T__law_run_by_2 : D → DEnv → Option DEnv := (gTu 2 (gsCons (gNm 12) (gsCons (gNm 13) gsNil)))
abbrev L__law_run_by_2 : So := (sSeq (sPut2 5 (mVar 12) (mAdd2 5 (mVar 12) (mBin gMulB (mMap gLst (mCons (mVar 10) (mRet []))) (mVar 13))))
    sNil)
abbrev T__law_run_by_3 : D → DEnv → Option DEnv := (gTu 2 (gsCons (gNm 15) (gsCons (gNm 16) gsNil)))
abbrev L__law_run_by_3 : So := (sSeq (sSet 17 (mLend (mIf (mMap gB (mBin gLe (mBin gIx (mVar 6) (mVar 15)) (mVar 10))) (mMap (lenIs 3 F__law_order) (mCons (mVar 16) (mCons (mVar 5) (mCons (mVar 2) (mRet []))))) (mRet .none))))
    (sSeq (sApp 14 (mVar 17))
    (sSeq (sIf (mMap gB (mMap gNotN (mVar 17))) (sSeq (sApp2 9 (mVar 17) (mBin gSub (mVar 10) (mPop2 5 (mVar 17) (mRet (.int 0)))))
    (sSeq (sPut 6 (mVar 15) (mBin gAdd (mVar 10) (mBin gIx (mBin gIx (mVar 3) (mVar 17)) (mRet (.int 1)))))
    sNil)) sNil)
    sNil)))
abbrev CT__law_moved_1 : D → DEnv → Option DEnv := (gNm 6)
abbrev CC__law_moved_1 : Mo Bool := (mRet true)
abbrev CE__law_moved_1 : Mo D := (mMap gTuple (mCons (mMap (fun ds => some (.list ds)) (mLc (mMap gSeq (mVar 6)) (gNm 7) (mRet true) (mBin gAdd (mVar 7) (mRet (.int 1))) [7])) (mRet [])))
abbrev CT__law_moved_2 : D → DEnv → Option DEnv := (gNm 7)
abbrev CC__law_moved_2 : Mo Bool := (mRet true)
abbrev CE__law_moved_2 : Mo D := (mBin gAdd (mVar 7) (mRet (.int 1)))
abbrev CT__law_moved_3 : D → DEnv → Option DEnv := (gNm 8)
abbrev CC__law_moved_3 : Mo Bool := (mRet true)
abbrev CE__law_moved_3 : Mo D := (mMap gTuple (mCons (mMap (fun ds => some (.list ds)) (mLc (mMap gSeq (mVar 8)) (gNm 7) (mRet true) (mIf (mMap gB (mMap gIsN (mVar 7))) (mRet .none) (mBin gAdd (mVar 7) (mRet (.int 1)))) [7])) (mRet [])))
abbrev CT__law_moved_4 : D → DEnv → Option DEnv := (gNm 7)
abbrev CC__law_moved_4 : Mo Bool := (mRet true)
abbrev CE__law_moved_4 : Mo D := (mIf (mMap gB (mMap gIsN (mVar 7))) (mRet .none) (mBin gAdd (mVar 7) (mRet (.int 1))))
abbrev L_law_1 : So := (sSeq (sSet 2 (mCallIO [some 0, none, none, none, none, none] F__law_hall (mIo 1 (mCons (mMap (fun d => some (AR.fz d)) (mRet (.int 3))) (mCons (mMap (fun d => some (AR.fz d)) (mRet (.int 2))) (mCons (mMap (fun d => some (AR.fz d)) (mBin gIx (mMap gLst (mCons (mRet (.int 4)) (mCons (mRet (.int 2)) (mRet [])))) (mCallIO [some 0, none] F__law_take (mIo 1 (mCons (mMap (fun d => some (AR.fz d)) (mRet (.int 2))) (mRet [])))))) (mCons (mMap (fun d => some (AR.fz d)) (mBin gIx (mMap gLst (mCons (mRet (.int 8)) (mCons (mRet (.int 3)) (mRet [])))) (mCallIO [some 0, none] F__law_take (mIo 1 (mCons (mMap (fun d => some (AR.fz d)) (mRet (.int 2))) (mRet [])))))) (mCons (mMap (fun d => some (AR.fz d)) (mRet (.bool false))) (mRet [])))))))))
    (sSeq (sTup (mCallIO [some 0, none, none] F__law_own (mIo 1 (mCons (mMap (fun d => some (AR.fz d)) (mVar 2)) (mCons (mMap (fun d => some (AR.fz d)) (mBin gAdd (mRet (.int 1)) (mCallIO [some 0, none] F__law_take (mIo 1 (mCons (mMap (fun d => some (AR.fz d)) (mRet (.int 40))) (mRet [])))))) (mRet []))))) (gTu 2 (gsCons (gNm 3) (gsCons (gNm 4) gsNil))))
    (sSeq (sSet 5 (mMap (lenIs 3 F_how_many) (mCons (mVar 2) (mCons (mVar 3) (mCons (mMap gTup (mRet [])) (mRet []))))))
    (sSeq (sPars [6, 7] (mCons (mMap (fun d => some (none, d)) (mMap gTup (mCons (mBin gAdd (mRet (.int 1)) (mCallIO [some 0, none] F__law_take (mIo 1 (mCons (mMap (fun d => some (AR.fz d)) (mRet (.int 5))) (mRet []))))) (mCons (mBin gAdd (mRet (.int 1)) (mCallIO [some 0, none] F__law_take (mIo 1 (mCons (mMap (fun d => some (AR.fz d)) (mRet (.int 10))) (mRet []))))) (mRet []))))) (mCons (mMap (fun d => some (none, d)) (mBin gEq (mCallIO [some 0, none] F__law_take (mIo 1 (mCons (mMap (fun d => some (AR.fz d)) (mRet (.int 2))) (mRet [])))) (mRet (.int 0)))) (mRet []))))
    (sSeq (sTup (mMap (lenIs 4 F__law_moved) (mCons (mVar 2) (mCons (mVar 3) (mCons (mVar 6) (mCons (mVar 7) (mRet [])))))) (gTu 2 (gsCons (gNm 8) (gsCons (gNm 9) gsNil))))
    (sSeq (sTup (mIf (mMap gTru (mVar 7)) (mMap gTup (mCons (mRet (.int 0)) (mCons (mRet (.int 1)) (mRet [])))) (mMap gTup (mCons (mMap gLen (mCons (mBin gIx (mVar 2) (mRet (.int 0))) (mRet []))) (mCons (mRet (.int 0)) (mRet []))))) (gTu 2 (gsCons (gNm 10) (gsCons (gNm 11) gsNil))))
    (sSeq (sSet 12 (mRet (.int 1)))
    (sSeq (sFor (mMap gRg1 (mCons (mMap gLen (mCons (mVar 3) (mRet []))) (mRet []))) (gNm 13) (sSeq (sSet 12 (mBin gMulB (mVar 12) (mBin gAdd (mBin gIx (mVar 6) (mRet (.int 0))) (mRet (.int 1)))))
    sNil))
    (sSeq (sIf (mOr (mMap gB (mBin gNe (mMap (lenIs 3 F_how_many) (mCons (mVar 8) (mCons (mVar 9) (mCons (mMap gTup (mRet [])) (mRet []))))) (mBin gMulB (mVar 5) (mVar 12)))) (mMap gB (mBin gNe (mMap (lenIs 4 F_how_many_of) (mCons (mVar 8) (mCons (mVar 9) (mCons (mMap gTup (mRet [])) (mCons (mVar 10) (mRet [])))))) (mVar 12)))) (sSeq (sRet (mRet (.bool false)))
    sNil) sNil)
    (sSeq (sIf (mMap gB (mBin gNe (mMap (lenIs 4 F_stairs) (mCons (mVar 8) (mCons (mVar 9) (mCons (mMap gTup (mRet [])) (mCons (mVar 10) (mRet [])))))) (mMap (fun ds => some (.list ds)) (mLc (mMap gRg1 (mCons (mMap gLen (mCons (mVar 3) (mRet []))) (mRet []))) (gNm 13) (mRet true) (mMap gTup (mCons (mRet (.int 0)) (mCons (mBin gMulB (mBin gIx (mVar 6) (mRet (.int 0))) (mBin gAdd (mVar 13) (mRet (.int 1)))) (mRet [])))) [13])))) (sSeq (sRet (mRet (.bool false)))
    sNil) sNil)
    (sSeq (sFor (mMap gRg1 (mCons (mMap gLen (mCons (mBin gIx (mVar 2) (mRet (.int 0))) (mRet []))) (mRet []))) (gNm 14) (sSeq (sIf (mMap gB (mBin gNe (mMap (lenIs 4 F_stairs) (mCons (mVar 8) (mCons (mVar 9) (mCons (mMap gTup (mRet [])) (mCons (mBin gAdd (mVar 14) (mVar 11)) (mRet [])))))) (mMap (lenIs 4 F_stairs) (mCons (mVar 2) (mCons (mVar 3) (mCons (mMap gTup (mRet [])) (mCons (mVar 14) (mRet [])))))))) (sSeq (sRet (mRet (.bool false)))
    sNil) sNil)
    sNil))
    (sSeq (sSet 15 (mMap gTup (mCons (mBin gIx (mVar 8) (mRet (.int 0))) (mCons (mBin gAdd (mBin gIx (mVar 8) (mRet (.int 1))) (mMap gTup (mCons (mMap gTup (mCons (mVar 10) (mRet []))) (mRet [])))) (mRet [])))))
    (sSeq (sSet 16 (mMap gTuple (mCons (mMap (fun ds => some (.list ds)) (mLc (mMap gSeq (mVar 9)) (gNm 17) (mRet true) (mBin gAdd (mVar 17) (mMap gTup (mCons (mRet .none) (mRet [])))) [17])) (mRet []))))
    (sSeq (sIf (mOr (mMap gB (mBin gNe (mMap (lenIs 3 F_how_many) (mCons (mVar 15) (mCons (mVar 16) (mCons (mMap gTup (mRet [])) (mRet []))))) (mVar 5))) (mMap gB (mBin gNe (mMap (lenIs 4 F_stairs) (mCons (mVar 15) (mCons (mVar 16) (mCons (mMap gTup (mRet [])) (mCons (mVar 10) (mRet [])))))) (mBin gMulB (mMap gLst (mCons (mMap gTup (mCons (mRet (.int 0)) (mCons (mRet (.int 0)) (mRet [])))) (mRet []))) (mMap gLen (mCons (mVar 3) (mRet []))))))) (sSeq (sRet (mRet (.bool false)))
    sNil) sNil)
    sNil))))))))))))))
abbrev T_law_2 : D → DEnv → Option DEnv := (gNm 13)
abbrev L_law_2 : So := (sSeq (sSet 12 (mBin gMulB (mVar 12) (mBin gAdd (mBin gIx (mVar 6) (mRet (.int 0))) (mRet (.int 1)))))
    sNil)
abbrev CT_law_1 : D → DEnv → Option DEnv := (gNm 13)
abbrev CC_law_1 : Mo Bool := (mRet true)
abbrev CE_law_1 : Mo D := (mMap gTup (mCons (mRet (.int 0)) (mCons (mBin gMulB (mBin gIx (mVar 6) (mRet (.int 0))) (mBin gAdd (mVar 13) (mRet (.int 1)))) (mRet []))))
abbrev T_law_3 : D → DEnv → Option DEnv := (gNm 14)
abbrev L_law_3 : So := (sSeq (sIf (mMap gB (mBin gNe (mMap (lenIs 4 F_stairs) (mCons (mVar 8) (mCons (mVar 9) (mCons (mMap gTup (mRet [])) (mCons (mBin gAdd (mVar 14) (mVar 11)) (mRet [])))))) (mMap (lenIs 4 F_stairs) (mCons (mVar 2) (mCons (mVar 3) (mCons (mMap gTup (mRet [])) (mCons (mVar 14) (mRet [])))))))) (sSeq (sRet (mRet (.bool false)))
    sNil) sNil)
    sNil)
abbrev CT_law_2 : D → DEnv → Option DEnv := (gNm 17)
abbrev CC_law_2 : Mo Bool := (mRet true)
abbrev CE_law_2 : Mo D := (mBin gAdd (mVar 17) (mMap gTup (mCons (mRet .none) (mRet []))))
end Dn

set_option maxHeartbeats 1000000
/-! R0: loops by their states; steps up, steps down. -/
local macro_rules | `(tactic| array_mem_dec) => `(tactic| first
  | with_reducible rfl
  | with_reducible assumption
  | (simp only [beq_self_eq_true, Bool.not_true, Bool.not_false]; done)
  | ((fail_if_success rw [beq_self_eq_true]); first
    | exact decide_eq_true (by first | with_reducible assumption | omega)
    | exact decide_eq_false (by first | with_reducible assumption | omega)
    | exact beq_iff_eq.mpr (by first | with_reducible assumption | omega)
    | exact beq_eq_false_iff_ne.mpr (by first | with_reducible assumption | omega)
    | (simp only [Bool.and_eq_true, Bool.and_eq_false_iff, Bool.or_eq_true, Bool.or_eq_false_iff, Bool.not_eq_true', Bool.not_eq_false', decide_eq_true_eq, decide_eq_false_iff_not, beq_iff_eq, beq_eq_false_iff_ne]; first | with_reducible assumption | omega)
    | exact rfl))
local macro_rules | `(tactic| array_get_dec) => `(tactic| first
  | with_reducible assumption
  | with_reducible exact Dn.gAdd_int _ _
  | with_reducible exact Dn.gSub_int _ _
  | with_reducible exact Dn.gIAdd_int _ _
  | with_reducible exact Dn.gLt_int _ _
  | with_reducible exact Dn.gLe_int _ _
  | with_reducible exact Dn.gGt_int _ _
  | with_reducible exact Dn.gGe_int _ _
  | with_reducible exact Dn.gEq_int _ _
  | with_reducible exact Dn.gNe_int _ _
  | with_reducible exact Dn.gIxt0 _ _
  | with_reducible exact Dn.gIxt1 _ _ _
  | with_reducible exact Dn.gIxl0 _ _
  | with_reducible exact Dn.gIxl1 _ _ _
  | with_reducible assumption
  | ((with_reducible apply Dn.ev_len); (· exact rfl); (· with_reducible assumption))
  | exact rfl
  | assumption
  | exact Dn.gIxl0 _ _
  | exact Dn.gIxt0 _ _
  | exact Dn.gIxt1 _ _ _
  | fail)
local macro_rules | `(tactic| sizeOf_list_dec) => `(tactic| first
  | with_reducible assumption
  | with_reducible exact Dn.ev_ret
  | with_reducible exact Dn.ev_nil
  | ((with_reducible apply Dn.ev_var); exact rfl)
  | ((with_reducible apply Dn.mBin_ev); (· sizeOf_list_dec); (· sizeOf_list_dec); (· array_get_dec))
  | ((with_reducible apply Dn.mMap_ev); (· sizeOf_list_dec); (· array_get_dec))
  | ((with_reducible apply Dn.mCons_ev); (· sizeOf_list_dec); (· sizeOf_list_dec))
  | ((with_reducible apply Dn.ev_seq); (· sizeOf_list_dec); (· ((first | with_reducible apply Dn.seqK_nx | with_reducible apply Dn.seqK_rt | with_reducible apply Dn.seqK_bk | with_reducible apply Dn.seqK_ct); sizeOf_list_dec)))
  | ((with_reducible apply Dn.ev_set); (· sizeOf_list_dec); (· (dsimp only [List.set] <;> exact rfl)))
  | ((with_reducible apply Dn.ev_if); (· sizeOf_list_dec); (· sizeOf_list_dec))
  | ((with_reducible apply Dn.ite_t); (· array_mem_dec); (· sizeOf_list_dec))
  | ((with_reducible apply Dn.ite_f); (· array_mem_dec); (· sizeOf_list_dec))
  | ((with_reducible apply Dn.ev_mif); (· sizeOf_list_dec); (· sizeOf_list_dec))
  | ((with_reducible apply Dn.ev_and); (· sizeOf_list_dec); (· sizeOf_list_dec))
  | ((with_reducible apply Dn.ev_or); (· sizeOf_list_dec); (· sizeOf_list_dec))
  | ((with_reducible apply Dn.ev_not); sizeOf_list_dec)
  | ((with_reducible apply Dn.ev_andv); (· sizeOf_list_dec); (· sizeOf_list_dec))
  | ((with_reducible apply Dn.ev_chain); (· sizeOf_list_dec); (· sizeOf_list_dec); (· array_get_dec); (· sizeOf_list_dec); (· array_get_dec))
  | ((with_reducible apply Dn.sRet_ev); sizeOf_list_dec)
  | ((with_reducible apply Dn.ev_setN); (· sizeOf_list_dec); (· (dsimp only [List.set] <;> exact rfl)))
  | ((with_reducible apply Dn.ev_aug); (· exact rfl); (· sizeOf_list_dec); (· array_get_dec); (· (dsimp only [List.set] <;> exact rfl)))
  | ((with_reducible apply Dn.ev_frz); (· exact rfl); (· (dsimp only [List.set] <;> exact rfl)); (· sizeOf_list_dec))
  | ((with_reducible apply Dn.ev_drop); sizeOf_list_dec)
  | ((with_reducible apply Dn.ev_app); (· exact rfl); (· sizeOf_list_dec); (· exact rfl); (· (simp only [List.length_map, List.length_append, List.length_cons, List.length_nil]; omega)); (· (dsimp only [List.set] <;> exact rfl)))
  | ((with_reducible apply Dn.ev_lend); (· (dsimp only [Dn.lendE, List.map, Option.map, Dn.lendSV] <;> exact rfl)); (· sizeOf_list_dec); (· exact rfl))
  | ((with_reducible apply Dn.ev_lendT); (· (dsimp only [Dn.lendE, List.map, Option.map, Dn.lendSV] <;> exact rfl)); (· sizeOf_list_dec))
  | ((with_reducible apply Dn.ev_for); (· sizeOf_list_dec); (· first | with_reducible assumption | assumption | fail))
  | ((with_reducible apply Dn.ev_lc); (· sizeOf_list_dec); (· exact rfl); (· first | with_reducible assumption | assumption | fail); (· first | assumption | (simp only [List.length_map, List.length_append, List.length_cons, List.length_nil]; omega) | fail))
  | ((with_reducible apply Dn.ev_sl); (· sizeOf_list_dec); (· sizeOf_list_dec); (· sizeOf_list_dec); (· array_get_dec))
  | ((with_reducible apply Dn.ev_star); (· sizeOf_list_dec); (· exact rfl); (· sizeOf_list_dec))
  | ((with_reducible apply Dn.ev_pars); (· sizeOf_list_dec); (· exact rfl); (· (dsimp only [Dn.setE, List.set] <;> exact rfl)))
  | ((with_reducible apply Dn.ev_callIO); (· sizeOf_list_dec); (· exact rfl); (· exact rfl); (· (simp only [Dn.argsOf, List.getElem?_cons_succ, List.getElem?_cons_zero, if_true, Option.map_some] <;> exact rfl)); (· first | with_reducible assumption | fail); (· exact rfl); (· (dsimp only [List.set] <;> exact rfl)))
  | ((with_reducible apply Dn.ev_io); (· exact rfl); (· sizeOf_list_dec))
  | ((with_reducible apply Dn.ev_tup); (· sizeOf_list_dec); (· sizeOf_list_dec))
  | ((with_reducible apply Dn.ev_gcons); (· sizeOf_list_dec); (· sizeOf_list_dec))
  | with_reducible exact Dn.ev_gnil
  | ((with_reducible apply Dn.ev_gnm); (dsimp only [List.set] <;> exact rfl))
  | with_reducible rfl
  | exact Dn.ev_nil
  | ((with_reducible apply Dn.ev_fin); exact rfl)
  | exact Dn.ev_bk
  | ((apply Dn.ev_tu); (· exact rfl); (· sizeOf_list_dec))
  | with_reducible assumption
  | assumption
  | fail)
namespace Dn
open PySem PySem.Spec PyProof.Rows L2
theorem forGo_E {St α : Type} {tgt : D → DEnv → Option DEnv} {body : So} (enc : α → D) (E : St → DEnv) (step : St → α → St) (P : St → Prop) : ∀ (l : List α) (s : St), P s →
    (∀ s a, a ∈ l → P s → P (step s a) ∧ ∃ e1, tgt (enc a) (E s) = some e1 ∧ body e1 = some (.nx (E (step s a)))) → forGo tgt body (l.map enc) (E s) = some (.nx (E (l.foldl step s))) ∧ P (l.foldl step s)
  | [], s, h, _ => ⟨rfl, h⟩
  | a :: l, s, h, hs => by
    obtain ⟨p, e1, h1, h2⟩ := hs s a (by simp) h
    obtain ⟨i1, i2⟩ := forGo_E enc E step P l (step s a) p fun s b hb => hs s b (by simp [hb])
    refine ⟨?_, i2⟩
    simp only [List.map_cons, forGo, h1, h2, List.foldl_cons]
    exact i1
theorem forGo_cons_nx {tgt : D → DEnv → Option DEnv} {body : So} {d : D} {ds : List D} {e e1 e2 : DEnv} {r : Option Fl} (h1 : tgt d e = some e1) (h2 : body e1 = some (.nx e2)) (h3 : forGo tgt body ds e2 = r) : forGo tgt body (d :: ds) e = r := by
  simp only [forGo, h1, h2, h3]
theorem forGo_cons_bk {tgt : D → DEnv → Option DEnv} {body : So} {d : D} {ds : List D} {e e1 e2 : DEnv} (h1 : tgt d e = some e1) (h2 : body e1 = some (.bk e2)) : forGo tgt body (d :: ds) e = some (.nx e2) := by
  simp only [forGo, h1, h2]
theorem pairsD_map {α β γ : Type} (f : α → D) (g : β → D) (p : γ → α) (q : γ → β) : ∀ l : List γ, pairsD (l.map fun x => f (p x)) (l.map fun x => g (q x)) = l.map fun x => .tuple [f (p x), g (q x)]
  | [] => rfl
  | x :: l => by rw [List.map_cons, List.map_cons, List.map_cons, pairsD, pairsD_map f g p q l]
def encOI : Option Int → D
  | none => .none
  | some x => .int x
abbrev encS (s : List (Int × Int)) : List D := s.map encR
abbrev encT (l : List (Int × Option Int)) : D := .tuple [.list (encI (l.map (·.1))), .list ((l.map (·.2)).map encOI)]
theorem up_body {told : D} {most low high least : Int} {lim : Option Int} {acc : List (Int × Int)} (hl : acc.length < 1000) :
    (loP low least > hiP most high lim → L_steps_up_1 [some (SV.fz told), some (SV.fz (.int most)), some (SV.fz (.int low)), some (SV.fz (.int high)), some (SV.ow false 0 (.list (encS acc))), some (SV.fz (.int least)), some (SV.fz (encOI lim))] =
      some (.bk [some (SV.fz told), some (SV.fz (.int most)), some (SV.fz (.int (loP low least))), some (SV.fz (.int (hiP most high lim))), some (SV.ow false 0 (.list (encS (acc ++ [(loP low least, hiP most high lim)])))), some (SV.fz (.int least)), some (SV.fz (encOI lim))])) ∧
    (¬ loP low least > hiP most high lim → L_steps_up_1 [some (SV.fz told), some (SV.fz (.int most)), some (SV.fz (.int low)), some (SV.fz (.int high)), some (SV.ow false 0 (.list (encS acc))), some (SV.fz (.int least)), some (SV.fz (encOI lim))] =
      some (.nx [some (SV.fz told), some (SV.fz (.int most)), some (SV.fz (.int (loP low least))), some (SV.fz (.int (hiP most high lim))), some (SV.ow false 0 (.list (encS (acc ++ [(loP low least, hiP most high lim)])))), some (SV.fz (.int least)), some (SV.fz (encOI lim))])) := by
  simp only [encS, List.map_append]
  have e1 : (low < least ∧ loP low least = least) ∨ (¬ low < least ∧ loP low least = low) := by
    by_cases h : low < least
    · exact .inl ⟨h, if_pos h⟩
    · exact .inr ⟨h, if_neg h⟩
  cases lim with
  | none =>
    rcases e1 with ⟨h1, e⟩ | ⟨h1, e⟩ <;> rw [e] <;> simp only [hiP, encOI] <;> constructor <;> intro h3 <;> sizeOf_list_dec
  | some x =>
    have e2 : (x < high + most ∧ hiP most high (some x) = x) ∨ (¬ x < high + most ∧ hiP most high (some x) = high + most) := by
      by_cases h : x < high + most
      · exact .inl ⟨h, if_pos h⟩
      · exact .inr ⟨h, if_neg h⟩
    rcases e1 with ⟨h1, e⟩ | ⟨h1, e⟩ <;> rcases e2 with ⟨h2, e'⟩ | ⟨h2, e'⟩ <;> rw [e, e'] <;> simp only [encOI] <;> constructor <;> intro h3 <;> sizeOf_list_dec
theorem up_go {told : D} {most : Int} : ∀ (l : List (Int × Option Int)) (low high : Int) (acc : List (Int × Int)) (j5 j6 : Option SV), acc.length + l.length < 1000 →
    ∃ a b c d, forGo T_steps_up_1 L_steps_up_1 (l.map fun p => .tuple [.int p.1, encOI p.2]) [some (SV.fz told), some (SV.fz (.int most)), some (SV.fz (.int low)), some (SV.fz (.int high)), some (SV.ow false 0 (.list (encS acc))), j5, j6] =
      some (.nx [some (SV.fz told), some (SV.fz (.int most)), a, b, some (SV.ow false 0 (.list (encS (acc ++ stepsUp most low high l)))), c, d])
  | [], low, high, acc, j5, j6, _ => ⟨_, _, _, _, by rw [stepsUp, List.append_nil]; rfl⟩
  | (least, lim) :: l, low, high, acc, j5, j6, hl => by
    rw [List.length_cons] at hl
    have ih := up_go (told := told) (most := most) l (loP low least) (hiP most high lim) (acc ++ [(loP low least, hiP most high lim)]) (some (SV.fz (.int least))) (some (SV.fz (encOI lim))) (by rw [List.length_append, List.length_singleton]; omega)
    have hb := up_body (told := told) (most := most) (low := low) (high := high) (least := least) (lim := lim) (acc := acc) (by omega)
    rw [stepsUp]
    simp only
    by_cases h : loP low least > hiP most high lim
    · rw [if_pos h]
      exact ⟨_, _, _, _, forGo_cons_bk rfl (hb.1 h)⟩
    · rw [if_neg h]
      obtain ⟨a, b, c, d, ih⟩ := ih
      refine ⟨a, b, c, d, forGo_cons_nx rfl (hb.2 h) ?_⟩
      rw [ih, List.append_assoc]
      rfl
theorem steps_up_ok {l : List (Int × Option Int)} {most low high : Int} (hl : l.length < 1000) : F_steps_up [encT l, .int most, .int low, .int high] = some (.list (encS (stepsUp most low high l))) := by
  obtain ⟨a, b, c, d, h⟩ := up_go (told := encT l) (most := most) l low high [] none none (by simpa using hl)
  rw [List.nil_append] at h
  refine ev_outF (e1 := [some (SV.fz (encT l)), some (SV.fz (.int most)), a, b, some (SV.fz (.list (encS (stepsUp most low high l)))), c, d]) ?_
  show B_steps_up [some (SV.fz (encT l)), some (SV.fz (.int most)), some (SV.fz (.int low)), some (SV.fz (.int high)), none, none, none] = _
  unfold B_steps_up
  have hz : gZip2 [.list (encI (l.map (·.1))), .list ((l.map (·.2)).map encOI)] = some (l.map fun p => .tuple [.int p.1, encOI p.2]) := by
    show some (pairsD _ _) = _
    rw [encI, List.map_map, List.map_map]
    exact congrArg some (pairsD_map PyData.int encOI (fun (p : Int × Option Int) => p.1) (fun p => p.2) l)
  sizeOf_list_dec
theorem is_barred_ok {s : List (Int × Int)} {p : Int × Int} (h : s.getLast? = some p) : F_is_barred [.list (encS s)] = some (.bool (decide (p.1 > p.2))) := by
  have hl : s ≠ [] := by intro e; rw [e] at h; simp at h
  have hx : gIx (.list (encS s)) (.int (-1)) = some (encR p) := by
    refine ixN_at (xs := encS s) (n := s.length - 1) ?_ (by rw [List.getElem?_map, ← List.getLast?_eq_getElem?, h]; rfl)
    have : 0 < s.length := List.length_pos_iff.mpr hl
    rw [List.length_map]
    unfold ixN
    rw [if_neg (by decide), if_pos (by omega)]
    congr 1
    omega
  refine ev_outF (e1 := [some (SV.fz (.list (encS s))), some (SV.fz (.int p.1)), some (SV.fz (.int p.2))]) ?_
  show B_is_barred [some (SV.fz (.list (encS s))), none, none] = _
  unfold B_is_barred
  sizeOf_list_dec
end Dn

set_option maxHeartbeats 1000000
/-! R1: steps down. -/
namespace Dn
open PySem PySem.Spec PyProof.Rows L2
theorem down_body {sD : D} {most low high : Int} {acc : List (Int × Int)} {p : Int × Int} (hl : acc.length < 1000) :
    L_steps_down_1 [some (SV.fz sD), some (SV.fz (.int most)), some (SV.fz (.int low)), some (SV.fz (.int high)), some (SV.ow false 0 (.list (encS acc))), some (SV.fz (.int p.1)), some (SV.fz (.int p.2))] =
      some (.nx [some (SV.fz sD), some (SV.fz (.int most)), some (SV.fz (.int (if p.1 > low - most then p.1 else low - most))), some (SV.fz (.int (if p.2 < high then p.2 else high))), some (SV.ow false 0 (.list (encS (acc ++ [(if p.1 > low - most then p.1 else low - most, if p.2 < high then p.2 else high)])))), some (SV.fz (.int p.1)), some (SV.fz (.int p.2))]) := by
  simp only [encS, List.map_append]
  by_cases h1 : low - most < p.1
  · have e1 : (if p.1 > low - most then p.1 else low - most) = p.1 := if_pos h1
    by_cases h2 : p.2 < high
    · rw [e1, if_pos h2]; sizeOf_list_dec
    · rw [e1, if_neg h2]; sizeOf_list_dec
  · have e1 : (if p.1 > low - most then p.1 else low - most) = low - most := if_neg h1
    by_cases h2 : p.2 < high
    · rw [e1, if_pos h2]; sizeOf_list_dec
    · rw [e1, if_neg h2]; sizeOf_list_dec
/-- the state: where it stands, what is found; the last things looked at -/
abbrev downE (sD : D) (most : Int) (st : ((Int × Int) × List (Int × Int)) × (Option SV × Option SV)) : DEnv :=
  [some (SV.fz sD), some (SV.fz (.int most)), some (SV.fz (.int st.1.1.1)), some (SV.fz (.int st.1.1.2)), some (SV.ow false 0 (.list (encS st.1.2))), st.2.1, st.2.2]
abbrev downS (most : Int) (st : ((Int × Int) × List (Int × Int)) × (Option SV × Option SV)) (p : Int × Int) : ((Int × Int) × List (Int × Int)) × (Option SV × Option SV) := (downStep most st.1 p, (some (SV.fz (.int p.1)), some (SV.fz (.int p.2))))
theorem foldl_fst {α β γ : Type} (f : α → γ → α) (g : β → γ → β) : ∀ (l : List γ) (s : α) (t : β), (l.foldl (fun (st : α × β) x => (f st.1 x, g st.2 x)) (s, t)) = (l.foldl f s, l.foldl g t)
  | [], _, _ => rfl
  | x :: l, s, t => foldl_fst f g l (f s x) (g t x)
theorem downStep_len (most : Int) : ∀ (l : List (Int × Int)) (s : (Int × Int) × List (Int × Int)), (l.foldl (downStep most) s).2.length = s.2.length + l.length
  | [], _ => rfl
  | x :: l, s => by
    rw [List.foldl_cons, downStep_len most l]
    simp [downStep]
    omega
theorem down_go {sD : D} {most : Int} : ∀ (l : List (Int × Int)) (s : (Int × Int) × List (Int × Int)) (j5 j6 : Option SV), s.2.length + l.length < 1000 →
    ∃ a b, forGo T_steps_down_1 L_steps_down_1 (encS l) [some (SV.fz sD), some (SV.fz (.int most)), some (SV.fz (.int s.1.1)), some (SV.fz (.int s.1.2)), some (SV.ow false 0 (.list (encS s.2))), j5, j6] =
      some (.nx [some (SV.fz sD), some (SV.fz (.int most)), some (SV.fz (.int (l.foldl (downStep most) s).1.1)), some (SV.fz (.int (l.foldl (downStep most) s).1.2)), some (SV.ow false 0 (.list (encS (l.foldl (downStep most) s).2))), a, b])
  | [], s, j5, j6, _ => ⟨_, _, rfl⟩
  | p :: l, s, j5, j6, h => by
    rw [List.length_cons] at h
    obtain ⟨a, b, ih⟩ := down_go (sD := sD) (most := most) l (downStep most s p) (some (SV.fz (.int p.1))) (some (SV.fz (.int p.2))) (by simp [downStep]; omega)
    exact ⟨a, b, forGo_cons_nx rfl (down_body (by omega)) ih⟩
theorem steps_down_ok {s : List (Int × Int)} {most : Int} (hm : 0 < most) (hs : s ≠ []) (hl : s.length < 1000) : F_steps_down [.list (encS s), .int most] = some (.list (encS (down most s))) := by
  obtain ⟨p, hp⟩ : ∃ p, s.getLast? = some p := ⟨_, List.getLast?_eq_some_getLast hs⟩
  obtain ⟨q, t, e1, e2⟩ := down_fold hm s p hp
  have hx : gIx (.list (encS s)) (.int (-1)) = some (encR p) := by
    refine ixN_at (xs := encS s) (n := s.length - 1) ?_ (by rw [List.getElem?_map, ← List.getLast?_eq_getElem?, hp]; rfl)
    have : 0 < s.length := List.length_pos_iff.mpr hs
    rw [List.length_map]
    unfold ixN
    rw [if_neg (by decide), if_pos (by omega)]
    congr 1
    omega
  obtain ⟨a, b, h⟩ := down_go (sD := .list (encS s)) (most := most) s.reverse (p, []) none none (by simpa using hl)
  rw [e2] at h
  have hr : gRevI [.list (encS s)] = some (encS s.reverse) := by unfold gRevI encS; rw [List.map_reverse]
  have hv : gRevL (.list (encS (q :: t).reverse)) = some (.list (encS (down most s))) := by
    show some (PyData.list (encS (q :: t).reverse).reverse) = _
    unfold encS; rw [List.map_reverse, List.reverse_reverse, e1]
  refine ev_outF (e1 := [some (SV.fz (.list (encS s))), some (SV.fz (.int most)), some (SV.fz (.int q.1)), some (SV.fz (.int q.2)), some (SV.fz (.list (encS (q :: t).reverse))), a, b]) ?_
  show B_steps_down [some (SV.fz (.list (encS s))), some (SV.fz (.int most)), none, none, none, none, none] = _
  unfold B_steps_down
  sizeOf_list_dec
end Dn

set_option maxHeartbeats 1000000
/-! R2: what turns tell of a rank. -/
namespace Dn
open PySem PySem.Spec PyProof.Rows L2
theorem lcGo_filt {α : Type} {tgt : D → DEnv → Option DEnv} {test : Mo Bool} {elt : Mo D} {vs : List Nat} {e : DEnv} (enc f : α → D) (p : α → Bool) : ∀ (l : List α), (∀ a ∈ l, ∃ e1 e2, tgt (enc a) e = some e1 ∧ test e1 = some (p a, e2) ∧ wipeD e2 vs = e ∧ (p a = true → ∃ e3, elt e2 = some (f a, e3) ∧ wipeD e3 vs = e)) →
    lcGo tgt test elt vs (l.map enc) e = some ((l.filter p).map f, e)
  | [], _ => rfl
  | a :: l, h => by
    obtain ⟨e1, e2, h1, h2, h3, h4⟩ := h a (by simp)
    have ih := lcGo_filt (tgt := tgt) (test := test) (elt := elt) (vs := vs) (e := e) enc f p l fun x hx => h x (by simp [hx])
    cases hp : p a with
    | true =>
      obtain ⟨e3, h5, h6⟩ := h4 hp
      rw [hp] at h2
      rw [List.filter_cons_of_pos hp, List.map_cons, List.map_cons]
      simp only [lcGo, h1, h2, h5, h6, ih, if_pos]
    | false =>
      rw [hp] at h2
      rw [List.filter_cons_of_neg (by simp [hp]), List.map_cons]
      simp only [lcGo, h1, h2, h3, ih]
      rfl
theorem dcGo_ints {tgt : D → DEnv → Option DEnv} {test : Mo Bool} {kx vx : Mo D} {vs : List Nat} {e : DEnv} : ∀ (l : List Int) (ks : List Key), (∀ i ∈ l, ∃ e1 e2 e3 e4, tgt (.int i) e = some e1 ∧ test e1 = some (true, e2) ∧ kx e2 = some (.int i, e3) ∧ vx e3 = some (.bool true, e4) ∧ wipeD e4 vs = e) →
    l.Nodup → (∀ i ∈ l, Sum.inl i ∉ ks) → dcGo tgt test kx vx vs (encI l) ks e = some (l.map Sum.inl, l.map (fun _ => .bool true), e)
  | [], _, _, _, _ => rfl
  | i :: l, ks, h, hd, hk => by
    obtain ⟨e1, e2, e3, e4, h1, h2, h3, h4, h5⟩ := h i (by simp)
    have hn := List.nodup_cons.mp hd
    have ih := dcGo_ints (tgt := tgt) (test := test) (kx := kx) (vx := vx) (vs := vs) (e := e) l (ks ++ [.inl i]) (fun x hx => h x (by simp [hx])) hn.2 (fun x hx z => by
      rcases List.mem_append.mp z with z | z
      · exact hk x (by simp [hx]) z
      · simp at z
        exact hn.1 (z ▸ hx))
    have hka : (ks.any fun k' => decide (k' = (Sum.inl i : Key))) = false := by
      rw [List.any_eq_false]
      intro x hx z
      have z := of_decide_eq_true z
      exact hk i (by simp) (z ▸ hx)
    show dcGo tgt test kx vx vs (.int i :: encI l) ks e = _
    simp only [dcGo, h1, h2, h3, h4, h5, keyOf, hka, ih, if_pos]
    rfl
theorem mDc_ev {items : Mo (List D)} {tgt : D → DEnv → Option DEnv} {test : Mo Bool} {kx vx : Mo D} {vs : List Nat} {env e1 e2 : DEnv} {ds ys : List D} {ks : List Key} (h1 : items env = some (ds, e1)) (h2 : ds.length ≤ 100000) (h3 : okW e1 vs = true) (h4 : dcGo tgt test kx vx vs ds [] (wipeD e1 vs) = some (ks, ys, e2)) :
    mDc items tgt test kx vx vs env = some (.dict ((ks.map keyD).zip ys), restD e1 e2 vs) := by
  unfold mDc
  rw [h1]
  simp only [decide_eq_true h2, h3, Bool.and_self, if_pos, h4]
/-- a dict of these, all true -/
def overD (l : List Int) : D := .dict (l.map fun i => (.int i, .bool true))
theorem overD_eq (l : List Int) : PyData.dict (((l.map Sum.inl : List Key).map keyD).zip (l.map fun _ => PyData.bool true)) = overD l := by
  unfold overD
  congr 1
  induction l with
  | nil => rfl
  | cons x l ih => simp only [List.map_cons, List.zip_cons_cons, ih]; rfl
theorem any_eq_contains (x : Int) : ∀ m : List Int, (m.any fun j => j == x) = m.contains x
  | [] => rfl
  | y :: m => by
    rw [List.any_cons, any_eq_contains x m, List.contains_cons]
    show (y == x || m.contains x) = (x == y || m.contains x)
    rw [Bool.beq_comm]
theorem gInK_over {l : List Int} (hl : l ≠ []) (x : Int) : gInK false (.int x) (overD l) = some (.bool (l.contains x)) := by
  unfold gInK overD
  have e2 : l.isEmpty = false := by cases l with | nil => exact absurd rfl hl | cons y l => rfl
  simp only [List.all_map, List.any_map, Function.comp_def, List.isEmpty_map, e2, any_eq_contains]
  simp
theorem pairsD_zip {α β : Type} (f : α → D) (g : β → D) : ∀ (l : List α) (m : List β), pairsD (l.map f) (m.map g) = (l.zip m).map fun p => .tuple [f p.1, g p.2]
  | [], m => by cases m <;> rfl
  | x :: l, [] => rfl
  | x :: l, y :: m => by rw [List.map_cons, List.map_cons, pairsD, pairsD_zip f g l m]; rfl
/-- the columns of a rank's own desks -/
def ownCols (turns desks : List (List Int)) (r : Int) : List (List Int) := ((turns.zip desks).filter fun p => p.2.contains r).map (·.1)
def colRows (cols : List (List Int)) (T : Nat) : List (List Int) := (List.range T).map fun k => cols.map fun c => c.getD k 0
theorem seqsOf_ints : ∀ cs : List (List Int), seqsOf (cs.map fun c => .list (encI c)) = some (cs.map encI)
  | [] => rfl
  | c :: cs => by
    rw [List.map_cons, seqsOf, seqsOf_ints cs]
    rfl
theorem zipS_ints {cs : List (List Int)} {T : Nat} (h0 : cs ≠ []) (hT : 1 ≤ T) (hl : cs.length ≤ 1000) (h : ∀ c ∈ cs, c.length = T) : gZipS (.list (cs.map fun c => .list (encI c))) = some (.list ((colRows cs T).map fun r => .tuple (encI r))) := by
  unfold gZipS
  simp only [gSeq, seqsOf_ints]
  cases cs with
  | nil => exact absurd rfl h0
  | cons c cs =>
    simp only [List.map_cons]
    have hc := h c (by simp)
    rw [if_pos]
    · congr 2
      unfold colD colRows
      rw [List.length_map, hc, List.map_map]
      refine List.map_congr_left fun j hj => ?_
      have hj := List.mem_range.mp hj
      show _ = PyData.tuple (encI ((c :: cs).map fun c => c.getD j 0))
      congr 1
      unfold encI
      rw [List.map_map, ← List.map_cons (f := List.map PyData.int), List.map_map]
      refine List.map_congr_left fun x hx => ?_
      have hx := h x hx
      simp only [Function.comp, List.getD_eq_getElem?_getD, List.getElem?_map]
      rw [List.getElem?_eq_getElem (by omega)]
      rfl
    · refine ⟨by rw [List.length_map]; omega, by rw [List.length_map]; simp at hl; omega, ?_⟩
      rw [List.all_eq_true]
      intro q hq
      obtain ⟨x, hx, rfl⟩ := List.mem_map.mp hq
      have := h x (by simp [hx])
      simp [hc, this]
end Dn

set_option maxHeartbeats 1000000
/-! R3: told_of. -/
namespace Dn
open PySem PySem.Spec PyProof.Rows L2
section
variable {h t b ow rw : D} {r : Int} {ov : List Int}
abbrev toE (h t b ow rw : D) (r : Int) (ov : List Int) (g : Int) (least : List Int) (most : List (Option Int)) (j10 j11 j12 j13 j14 j15 : Option SV) : DEnv :=
  [some (SV.fz h), some (SV.fz t), some (SV.fz (.int r)), some (SV.fz b), some (SV.fz (.int g)), some (SV.fz (overD ov)), some (SV.fz ow), some (SV.fz rw), some (SV.ow false 0 (.list (encI least))), some (SV.ow false 0 (.list (most.map encOI))), j10, j11, j12, j13, j14, j15]
theorem told_in_body {g x : Int} {p : Option Int} {least : List Int} {most : List (Option Int)} {j10 j13 j14 j15 : Option SV} (hov : ov ≠ []) :
    L_told_of_2 (toE h t b ow rw r ov g least most j10 (some (SV.fz (encOI p))) (some (SV.fz (.int x))) j13 j14 j15) =
      some (.nx (toE h t b ow rw r ov (tellStep (ov.contains ·) r (g, p) x).1 least most j10 (some (SV.fz (encOI (tellStep (ov.contains ·) r (g, p) x).2))) (some (SV.fz (.int x))) j13 j14 j15)) := by
  have hin := gInK_over hov x
  unfold tellStep
  by_cases h1 : x = r
  · rw [if_pos h1]
    sizeOf_list_dec
  · rw [if_neg h1]
    cases hc : ov.contains x with
    | false =>
      rw [hc] at hin
      simp only [hc, Bool.false_and, Bool.false_eq_true, if_false]
      sizeOf_list_dec
    | true =>
      rw [hc] at hin
      cases p with
      | none =>
        simp only [hc, Bool.true_and, Option.isNone_none, if_true]
        sizeOf_list_dec
      | some y =>
        simp only [hc, Bool.true_and, Option.isNone_some, Bool.false_eq_true, if_false]
        sizeOf_list_dec
theorem told_in {least : List Int} {most : List (Option Int)} {j10 j13 j14 j15 : Option SV} (hov : ov ≠ []) : ∀ (row : List Int) (s : Int × Option Int) (j12 : Option SV),
    ∃ a, forGo T_told_of_2 L_told_of_2 (encI row) (toE h t b ow rw r ov s.1 least most j10 (some (SV.fz (encOI s.2))) j12 j13 j14 j15) =
      some (.nx (toE h t b ow rw r ov (row.foldl (tellStep (ov.contains ·) r) s).1 least most j10 (some (SV.fz (encOI (row.foldl (tellStep (ov.contains ·) r) s).2))) a j13 j14 j15))
  | [], s, j12 => ⟨_, rfl⟩
  | x :: row, s, j12 => by
    obtain ⟨a, ih⟩ := told_in (least := least) (most := most) (j10 := j10) (j13 := j13) (j14 := j14) (j15 := j15) hov row (tellStep (ov.contains ·) r s x) (some (SV.fz (.int x)))
    exact ⟨a, forGo_cons_nx rfl (told_in_body hov) ih⟩
theorem told_out_body {g : Int} {row : List Int} {least : List Int} {most : List (Option Int)} {j11 j12 j13 j14 j15 : Option SV} (hov : ov ≠ []) (h1 : least.length < 1000) (h2 : most.length < 1000) :
    ∃ a, L_told_of_1 (toE h t b ow rw r ov g least most (some (SV.fz (.tuple (encI row)))) j11 j12 j13 j14 j15) =
      some (.nx (toE h t b ow rw r ov (tellRow (ov.contains ·) r g row).1 (least ++ [(tellRow (ov.contains ·) r g row).1]) (most ++ [(tellRow (ov.contains ·) r g row).2]) (some (SV.fz (.tuple (encI row)))) (some (SV.fz (encOI (tellRow (ov.contains ·) r g row).2))) a j13 j14 j15)) := by
  obtain ⟨a, h3⟩ := told_in (h := h) (t := t) (b := b) (ow := ow) (rw := rw) (r := r) (ov := ov) (least := least) (most := most) (j10 := some (SV.fz (.tuple (encI row)))) (j13 := j13) (j14 := j14) (j15 := j15) hov row (g, none) j12
  refine ⟨a, ?_⟩
  unfold tellRow
  obtain ⟨q, hq⟩ : ∃ q, row.foldl (tellStep (ov.contains ·) r) (g, none) = q := ⟨_, rfl⟩
  rw [hq] at h3 ⊢
  simp only [toE, encI, List.map_append]
  sizeOf_list_dec
theorem told_out (hov : ov ≠ []) : ∀ (rows : List (List Int)) (g : Int) (least : List Int) (most : List (Option Int)) (j10 j11 j12 j13 j14 j15 : Option SV), least.length + rows.length < 1000 → most.length + rows.length < 1000 →
    ∃ g' a10 a11 a12, forGo T_told_of_1 L_told_of_1 (rows.map fun r => .tuple (encI r)) (toE h t b ow rw r ov g least most j10 j11 j12 j13 j14 j15) =
      some (.nx (toE h t b ow rw r ov g' (least ++ (tell (ov.contains ·) r g rows).map (·.1)) (most ++ (tell (ov.contains ·) r g rows).map (·.2)) a10 a11 a12 j13 j14 j15))
  | [], g, least, most, j10, j11, j12, j13, j14, j15, _, _ => ⟨g, j10, j11, j12, by simp [tell, forGo]⟩
  | row :: rows, g, least, most, j10, j11, j12, j13, j14, j15, h1, h2 => by
    rw [List.length_cons] at h1 h2
    obtain ⟨a, hb⟩ := told_out_body (h := h) (t := t) (b := b) (ow := ow) (rw := rw) (r := r) (ov := ov) (g := g) (row := row) (least := least) (most := most) (j11 := j11) (j12 := j12) (j13 := j13) (j14 := j14) (j15 := j15) hov (by omega) (by omega)
    obtain ⟨g', a10, a11, a12, ih⟩ := told_out hov rows (tellRow (ov.contains ·) r g row).1 (least ++ [(tellRow (ov.contains ·) r g row).1]) (most ++ [(tellRow (ov.contains ·) r g row).2]) (some (SV.fz (.tuple (encI row)))) (some (SV.fz (encOI (tellRow (ov.contains ·) r g row).2))) a j13 j14 j15 (by rw [List.length_append, List.length_singleton]; omega) (by rw [List.length_append, List.length_singleton]; omega)
    refine ⟨g', a10, a11, a12, forGo_cons_nx rfl hb ?_⟩
    rw [ih, tell, List.map_cons, List.map_cons, List.append_assoc, List.append_assoc]
    rfl
end
end Dn

set_option maxHeartbeats 1000000
/-! R4: told_of, whole. -/
namespace Dn
open PySem PySem.Spec PyProof.Rows L2
abbrev encM (t : List (List Int)) : D := .list (t.map fun c => .list (encI c))
theorem gIx_desks (h : Hall) : gIx (encH h) (.int 1) = some (.tuple (h.desks.map fun d => .tuple (encI d))) := rfl
theorem gIx_ranks (h : Hall) : gIx (encH h) (.int 0) = some (.tuple (h.ranks.map encR)) := rfl
theorem told_of_ok {h : Hall} {turns : List (List Int)} {r g : Int} {bh : List Int} {T : Nat} (hl : turns.length = h.desks.length) (h4 : turns.length ≤ 100) (h0 : turns ≠ []) (hT : ∀ c ∈ turns, c.length = T) (T1 : 1 ≤ T) (T2 : T < 900) (hb : (4 :: bh).Nodup) (hbl : bh.length ≤ 100) :
    F_told_of [encH h, encM turns, .int r, .tuple (encI bh), .int g] = some (encT (tell ((4 :: bh).contains ·) r g (colRows (ownCols turns h.desks r) T))) := by
  have hE : envOf ["hall", "turns", "rank", "behind", "gone", "over", "own", "rows", "least", "most", "row", "passed", "one", "column", "desk", "_"] [encH h, encM turns, .int r, .tuple (encI bh), .int g] =
    [some (SV.fz (encH h)), some (SV.fz (encM turns)), some (SV.fz (.int r)), some (SV.fz (.tuple (encI bh))), some (SV.fz (.int g)), none, none, none, none, none, none, none, none, none, none, none] := rfl
  have hover : mDc (mMap gSeq (mMap gTup (mCons (mRet (.int (4))) (mStar (mVar 3) (mRet []))))) (gNm 12) (mRet true) (mVar 12) (mRet (.bool true)) [12] [some (SV.fz (encH h)), some (SV.fz (encM turns)), some (SV.fz (.int r)), some (SV.fz (.tuple (encI bh))), some (SV.fz (.int g)), none, none, none, none, none, none, none, none, none, none, none] =
      some (overD (4 :: bh), [some (SV.fz (encH h)), some (SV.fz (encM turns)), some (SV.fz (.int r)), some (SV.fz (.tuple (encI bh))), some (SV.fz (.int g)), none, none, none, none, none, none, none, none, none, none, none]) := by
    have hi : mMap gSeq (mMap gTup (mCons (mRet (.int (4))) (mStar (mVar 3) (mRet [])))) [some (SV.fz (encH h)), some (SV.fz (encM turns)), some (SV.fz (.int r)), some (SV.fz (.tuple (encI bh))), some (SV.fz (.int g)), none, none, none, none, none, none, none, none, none, none, none] = some (encI (4 :: bh), [some (SV.fz (encH h)), some (SV.fz (encM turns)), some (SV.fz (.int r)), some (SV.fz (.tuple (encI bh))), some (SV.fz (.int g)), none, none, none, none, none, none, none, none, none, none, none]) := by
      refine mMap_ev (x := .tuple (encI (4 :: bh))) (mMap_ev (x := .int 4 :: encI bh) ?_ ?_) rfl
      · exact mCons_ev rfl ((ev_star (xs := encI bh) (ys := []) rfl rfl rfl).trans (by rw [List.append_nil]))
      · unfold gTup
        rw [if_pos (by simp; omega)]
        rfl
    have hd := dcGo_ints (tgt := gNm 12) (test := mRet true) (kx := mVar 12) (vx := mRet (.bool true)) (vs := [12]) (e := wipeD [some (SV.fz (encH h)), some (SV.fz (encM turns)), some (SV.fz (.int r)), some (SV.fz (.tuple (encI bh))), some (SV.fz (.int g)), none, none, none, none, none, none, none, none, none, none, none] [12]) (4 :: bh) [] (fun i _ => ⟨_, _, _, _, rfl, rfl, rfl, rfl, rfl⟩) hb (fun i _ => by simp)
    have := mDc_ev hi (by simp; omega) rfl hd
    rw [overD_eq] at this
    exact this
  have hz : gZip2 [encM turns, .tuple (h.desks.map fun d => .tuple (encI d))] = some ((turns.zip h.desks).map fun p => .tuple [.list (encI p.1), .tuple (encI p.2)]) := congrArg some (pairsD_zip (fun c => .list (encI c)) (fun d => .tuple (encI d)) turns h.desks)
  have hzl : ((turns.zip h.desks).map fun p => PyData.tuple [.list (encI p.1), .tuple (encI p.2)]).length ≤ 100000 := by rw [List.length_map, List.length_zip]; omega
  have hown := lcGo_filt (tgt := CT_told_of_1) (test := CC_told_of_1) (elt := CE_told_of_1) (vs := [13, 14]) (e := wipeD [some (SV.fz (encH h)), some (SV.fz (encM turns)), some (SV.fz (.int r)), some (SV.fz (.tuple (encI bh))), some (SV.fz (.int g)), some (SV.fz (overD (4 :: bh))), none, none, none, none, none, none, none, none, none, none] [13, 14])
    (fun p : List Int × List Int => PyData.tuple [.list (encI p.1), .tuple (encI p.2)]) (fun p => .list (encI p.1)) (fun p => p.2.contains r) (turns.zip h.desks) (fun p _ => ⟨_, _, rfl, mMap_ev (mBin_ev (m := mVar 2) rfl (n := mVar 14) rfl (gIn_ints r p.2)) rfl, rfl, fun _ => ⟨_, rfl, rfl⟩⟩)
  have hcols : ((turns.zip h.desks).filter fun p => p.2.contains r).map (fun p => PyData.list (encI p.1)) = (ownCols turns h.desks r).map fun c => .list (encI c) := by unfold ownCols; rw [List.map_map]; rfl
  rw [hcols] at hown
  have hcl : (ownCols turns h.desks r).length ≤ 1000 := by
    unfold ownCols
    rw [List.length_map]
    exact Nat.le_trans (List.length_filter_le _ _) (by rw [List.length_zip]; omega)
  have hcT : ∀ c ∈ ownCols turns h.desks r, c.length = T := by
    intro c hc
    unfold ownCols at hc
    obtain ⟨p, hp, rfl⟩ := List.mem_map.mp hc
    exact hT _ (List.of_mem_zip (List.mem_filter.mp hp).1).1
  obtain ⟨rwD, hrw, hrows⟩ : ∃ rwD, rwD = PyData.list ((colRows (ownCols turns h.desks r) T).map fun r => .tuple (encI r)) ∧
      mIf (mMap gTru (mVar 6)) (mMap gZipS (mVar 6)) (mMap (fun ds => some (PyData.list ds)) (mLc (mMap gSeq (mBin gIx (mVar 1) (mRet (.int 0)))) (gNm 15) (mRet true) (mMap gTup (mRet [])) [15])) [some (SV.fz (encH h)), some (SV.fz (encM turns)), some (SV.fz (.int r)), some (SV.fz (.tuple (encI bh))), some (SV.fz (.int g)), some (SV.fz (overD (4 :: bh))), some (SV.fz (encM (ownCols turns h.desks r))), none, none, none, none, none, none, none, none, none] =
        some (rwD, [some (SV.fz (encH h)), some (SV.fz (encM turns)), some (SV.fz (.int r)), some (SV.fz (.tuple (encI bh))), some (SV.fz (.int g)), some (SV.fz (overD (4 :: bh))), some (SV.fz (encM (ownCols turns h.desks r))), none, none, none, none, none, none, none, none, none]) := by
    by_cases hc : ownCols turns h.desks r = []
    · refine ⟨_, rfl, ?_⟩
      rw [hc]
      obtain ⟨c, cs, rfl⟩ : ∃ c cs, turns = c :: cs := by cases turns with | nil => exact absurd rfl h0 | cons c cs => exact ⟨c, cs, rfl⟩
      have hct := hT c (by simp)
      have hg := lcGo_mapE (tgt := gNm 15) (test := mRet true) (elt := mMap gTup (mRet [])) (vs := [15]) (e := wipeD [some (SV.fz (encH h)), some (SV.fz (encM (c :: cs))), some (SV.fz (.int r)), some (SV.fz (.tuple (encI bh))), some (SV.fz (.int g)), some (SV.fz (overD (4 :: bh))), some (SV.fz (encM [])), none, none, none, none, none, none, none, none, none] [15]) PyData.int (fun _ => PyData.tuple []) c (fun a _ => ⟨_, _, _, rfl, rfl, rfl, rfl⟩)
      have hrep : c.map (fun _ => PyData.tuple []) = (colRows [] T).map fun r => .tuple (encI r) := by
        unfold colRows
        rw [List.map_map]
        refine List.ext_getElem (by simp [hct]) fun i h1 h2 => ?_
        simp [encI]
      rw [hrep] at hg
      have hcl2 : (encI c).length ≤ 100000 := by rw [List.length_map]; omega
      sizeOf_list_dec
    · have hzs := zipS_ints hc T1 hcl hcT
      obtain ⟨c, cs, hcc⟩ : ∃ c cs, ownCols turns h.desks r = c :: cs := by
        cases h : ownCols turns _ r with | nil => exact absurd h hc | cons c cs => exact ⟨c, cs, rfl⟩
      rw [hcc] at hzs ⊢
      exact ⟨_, rfl, by sizeOf_list_dec⟩
  subst hrw
  have hrl : (colRows (ownCols turns h.desks r) T).length = T := by simp [colRows]
  obtain ⟨g', a10, a11, a12, hout⟩ := told_out (h := encH h) (t := encM turns) (b := .tuple (encI bh)) (ow := encM (ownCols turns h.desks r)) (rw := .list ((colRows (ownCols turns h.desks r) T).map fun r => .tuple (encI r))) (r := r) (ov := 4 :: bh) (by simp) (colRows (ownCols turns h.desks r) T) g [] [] none none none none none none (by rw [hrl]; simp; omega) (by rw [hrl]; simp; omega)
  rw [List.nil_append, List.nil_append] at hout
  unfold F_told_of
  rw [hE]
  apply ev_outF
  unfold B_told_of
  sizeOf_list_dec
end Dn

set_option maxHeartbeats 1000000
/-! R5: ways. -/
namespace Dn
open PySem PySem.Spec PyProof.Rows L2
theorem intsOf_encI : ∀ l : List Int, intsOf (encI l) = some l
  | [] => rfl
  | x :: l => by
    show (intsOf (encI l)).map (x :: ·) = _
    rw [intsOf_encI l]
    rfl
theorem gAcc_ints (w : List Int) : gAcc (.list (encI w)) = some (.list (encI (psums 0 w))) := by
  show (intsOf (encI w)).map _ = _
  rw [intsOf_encI]
  rfl
theorem gSum_ints (w : List Int) : gSum [.list (encI w)] = some (.int w.sum) := by
  show (intsOf (encI w)).map _ = _
  rw [intsOf_encI]
  rfl
theorem psums_S : ∀ (w : List Int) (t : Int), psums t w = (List.range w.length).map fun i => t + S w (i + 1)
  | [], _ => rfl
  | x :: w, t => by
    rw [psums, psums_S w (t + x), List.length_cons, List.range_succ_eq_map, List.map_cons, List.map_map]
    congr 1
    · rw [S_cons]; show t + x = t + (x + 0); omega
    · refine List.map_congr_left fun i _ => ?_
      show t + x + S w (i + 1) = t + S (x :: w) (i + 1 + 1)
      rw [S_cons]
      omega
/-- the sums, with what lies ahead and behind -/
theorem ext_sums (w : List Int) (most : Nat) : List.replicate (most + 1) 0 ++ psums 0 w ++ List.replicate most (S w w.length) = (List.range (w.length + 2 * most + 1)).map fun i => S w (i - most) := by
  have hl : (List.replicate (most + 1) (0 : Int) ++ psums 0 w).length = most + 1 + w.length := by rw [List.length_append, psums_len, List.length_replicate]
  refine List.ext_getElem (by rw [List.length_append, hl, List.length_replicate, List.length_map, List.length_range]; omega) fun i h1 h2 => ?_
  rw [List.getElem_map, List.getElem_range]
  by_cases ha : i < most + 1 + w.length
  · rw [List.getElem_append_left (by rw [hl]; exact ha)]
    by_cases hb : i < most + 1
    · rw [List.getElem_append_left (by rw [List.length_replicate]; exact hb), List.getElem_replicate, Nat.sub_eq_zero_of_le (by omega)]
      rfl
    · rw [List.getElem_append_right (by rw [List.length_replicate]; omega)]
      simp only [psums_S, List.getElem_map, List.getElem_range, List.length_replicate]
      rw [Int.zero_add]
      congr 1
      omega
  · rw [List.getElem_append_right (by rw [hl]; omega), List.getElem_replicate, S_all w _ (Nat.le_refl _), S_all w _ (by omega)]
theorem cut_nat {xs : List D} {a m : Nat} (h : a + m ≤ xs.length) : cutD xs (some (a : Int)) (some ((a + m : Nat) : Int)) = (xs.drop a).take m := by
  unfold cutD
  rw [HT.sIx_nat, HT.sIx_nat, Nat.min_eq_left (by omega), Nat.min_eq_left (by omega)]
  congr 1
  omega
theorem cut_range {f : Nat → Int} {L a m : Nat} (h : a + m ≤ L) : cutD (encI ((List.range L).map f)) (some (a : Int)) (some ((a + m : Nat) : Int)) = encI ((List.range m).map fun i => f (a + i)) := by
  rw [cut_nat (by simpa using h)]
  refine List.ext_getElem (by simp; omega) fun i h1 h2 => ?_
  simp
theorem gCat_ints {a b : List Int} (h : a.length + b.length ≤ 100000) : gAdd (.list (encI a)) (.list (encI b)) = some (.list (encI (a ++ b))) := by
  refine gAdd_lists ?_
  simp only [gCat]
  rw [if_pos (by simpa using h)]
  simp [encI]
theorem within_ok {w : List Int} {most start many : Nat} (hw : w ≠ []) (h1 : w.length ≤ 1000) (h2 : most ≤ 900) (h3 : start + many ≤ w.length + most) (h4 : start ≤ 5000) : F_ways_within [.list (encI w), .int most, .int start, .int many] = some (.list (encI (waysIn w most start many))) := by
  obtain ⟨E, hE⟩ : ∃ E, E = (List.range (w.length + 2 * most + 1)).map fun i => S w (i - most) := ⟨_, rfl⟩
  have a1 := gAcc_ints w
  have a2 : gMulB (.list [.int 0]) (.int ((most : Int) + 1)) = some (.list (encI (List.replicate (most + 1) 0))) := by
    have := gRep_tick 0 (c := (most : Int) + 1) (by omega) (by omega)
    rw [this]
    congr 3
  have a3 : gAdd (.list (encI (List.replicate (most + 1) 0))) (.list (encI (psums 0 w))) = some (.list (encI (List.replicate (most + 1) 0 ++ psums 0 w))) := gCat_ints (by rw [List.length_replicate, psums_len]; omega)
  have a4 : gIx (.list (encI (psums 0 w))) (.int (-1)) = some (.int (S w w.length)) := by
    have hwl : 0 < w.length := List.length_pos_iff.mpr hw
    refine ixN_at (xs := encI (psums 0 w)) (n := w.length - 1) ?_ ?_
    · rw [List.length_map, psums_len]
      unfold ixN
      rw [if_neg (by decide), if_pos (by omega)]
      congr 1
      omega
    · rw [List.getElem?_map, psums_S, List.getElem?_map, List.getElem?_range (by omega)]
      simp only [Option.map_some]
      congr 2
      rw [Int.zero_add]
      congr 1
      omega
  have a5 : gMulB (.list [.int (S w w.length)]) (.int most) = some (.list (encI (List.replicate most (S w w.length)))) := by
    have := gRep_tick (S w w.length) (c := (most : Int)) (by omega) (by omega)
    rw [this, Int.toNat_natCast]
  have a6 : gAdd (.list (encI (List.replicate (most + 1) 0 ++ psums 0 w))) (.list (encI (List.replicate most (S w w.length)))) = some (.list (encI E)) := by
    rw [hE, ← ext_sums]
    exact gCat_ints (by rw [List.length_append, List.length_replicate, List.length_replicate, psums_len]; omega)
  have c1 : gSl (.list (encI E)) (some ((start : Int) + most + 1)) (some ((start : Int) + most + 1 + many)) = some (.list (encI ((List.range many).map fun i => S w (start + i + 1)))) := by
    show some (PyData.list (cutD (encI E) _ _)) = _
    have := cut_range (f := fun i => S w (i - most)) (L := w.length + 2 * most + 1) (a := start + most + 1) (m := many) (by omega)
    rw [hE, show ((start : Int) + most + 1) = ((start + most + 1 : Nat) : Int) by omega, show (((start + most + 1 : Nat) : Int) + many) = ((start + most + 1 + many : Nat) : Int) by omega, this]
    congr 3
    refine List.map_congr_left fun i _ => ?_
    congr 1
    omega
  have c2 : gSl (.list (encI E)) (some (start : Int)) (some ((start : Int) + many)) = some (.list (encI ((List.range many).map fun i => S w (start + i - most)))) := by
    show some (PyData.list (cutD (encI E) _ _)) = _
    have := cut_range (f := fun i => S w (i - most)) (L := w.length + 2 * most + 1) (a := start) (m := many) (by omega)
    rw [hE, show ((start : Int) + many) = ((start + many : Nat) : Int) by omega, this]
  have hz : gZip2 [.list (encI ((List.range many).map fun i => S w (start + i + 1))), .list (encI ((List.range many).map fun i => S w (start + i - most)))] = some ((List.range many).map fun i => .tuple [.int (S w (start + i + 1)), .int (S w (start + i - most))]) := by
    show some (pairsD _ _) = _
    rw [encI, encI, List.map_map, List.map_map]
    exact congrArg some (pairsD_map PyData.int PyData.int (fun i : Nat => S w (start + i + 1)) (fun i => S w (start + i - most)) (List.range many))
  have hg := lcGo_mapE (tgt := CT_ways_within_1) (test := CC_ways_within_1) (elt := CE_ways_within_1) (vs := [6, 7]) (e := wipeD [some (SV.fz (.list (encI w))), some (SV.fz (.int most)), some (SV.fz (.int start)), some (SV.fz (.int many)), some (SV.fz (.list (encI E))), some (SV.fz (.int ((start : Int) + most + 1))), none, none] [6, 7])
    (fun i : Nat => PyData.tuple [.int (S w (start + i + 1)), .int (S w (start + i - most))]) (fun i => .int (S w (start + i + 1) - S w (start + i - most))) (List.range many) (fun i _ => ⟨_, _, _, rfl, rfl, mBin_ev (m := mVar 6) rfl (n := mVar 7) rfl (gSub_int _ _), rfl⟩)
  have hlen : ((List.range many).map fun i => PyData.tuple [.int (S w (start + i + 1)), .int (S w (start + i - most))]).length ≤ 100000 := by rw [List.length_map, List.length_range]; omega
  have hres : (List.range many).map (fun i => PyData.int (S w (start + i + 1) - S w (start + i - most))) = encI (waysIn w most start many) := by unfold waysIn encI; rw [List.map_map]; rfl
  rw [hres] at hg
  unfold F_ways_within
  rw [show envOf ["ways", "most", "start", "many", "by", "behind", "one", "other"] [.list (encI w), .int most, .int start, .int many] = [some (SV.fz (.list (encI w))), some (SV.fz (.int most)), some (SV.fz (.int start)), some (SV.fz (.int many)), none, none, none, none] from rfl]
  apply ev_outF
  unfold B_ways_within
  sizeOf_list_dec
end Dn

set_option maxHeartbeats 1000000
/-! R6: ways to, all ways, all comings. -/
namespace Dn
open PySem PySem.Spec PyProof.Rows L2
theorem ways_body {sD : D} {w : List Int} {l : Int} {most : Nat} {acc : List (List Int)} {p : Int × Int} (hw : w ≠ []) (h1 : w.length ≤ 1000) (h2 : most ≤ 900) (h3 : l ≤ p.1) (h4 : p.1 ≤ p.2) (h5 : p.2 - l + 1 ≤ w.length + most) (h6 : p.1 - l ≤ 5000) (hl : acc.length < 1000) :
    L_ways_to_1 [some (SV.fz sD), some (SV.fz (.int most)), some (SV.ow false 0 (.list (acc.map fun c => .list (encI c)))), some (SV.fz (.list (encI w))), some (SV.fz (.int l)), some (SV.fz (.int p.1)), some (SV.fz (.int p.2))] =
      some (.nx [some (SV.fz sD), some (SV.fz (.int most)), some (SV.ow false 0 (.list ((acc ++ [waysIn w most (p.1 - l).toNat (p.2 - p.1 + 1).toNat]).map fun c => .list (encI c)))), some (SV.fz (.list (encI (waysIn w most (p.1 - l).toNat (p.2 - p.1 + 1).toNat)))), some (SV.fz (.int p.1)), some (SV.fz (.int p.1)), some (SV.fz (.int p.2))]) := by
  have hc : F_ways_within [.list (encI w), .int most, .int (p.1 - l), .int (p.2 - p.1 + 1)] = some (.list (encI (waysIn w most (p.1 - l).toNat (p.2 - p.1 + 1).toNat))) := by
    have := within_ok (w := w) (most := most) (start := (p.1 - l).toNat) (many := (p.2 - p.1 + 1).toNat) hw h1 h2 (by omega) (by omega)
    rw [Int.toNat_of_nonneg (by omega), Int.toNat_of_nonneg (by omega)] at this
    exact this
  simp only [List.map_append]
  sizeOf_list_dec
theorem ways_go {sD : D} {most : Nat} (h2 : most ≤ 100) : ∀ (s : List (Int × Int)) (w : List Int) (l h : Int) (acc : List (List Int)) (j5 j6 : Option SV), Chain most l h s → w.length = h - l + 1 → 0 ≤ l → l ≤ h → h ≤ 800 → (∀ p ∈ s, p.2 ≤ 800) → acc.length + s.length < 1000 →
    ∃ a3 a4 a b, forGo T_ways_to_1 L_ways_to_1 (encS s) [some (SV.fz sD), some (SV.fz (.int most)), some (SV.ow false 0 (.list (acc.map fun c => .list (encI c)))), some (SV.fz (.list (encI w))), some (SV.fz (.int l)), j5, j6] =
      some (.nx [some (SV.fz sD), some (SV.fz (.int most)), some (SV.ow false 0 (.list ((acc ++ waysTo most w l s).map fun c => .list (encI c)))), a3, a4, a, b])
  | [], w, l, h, acc, j5, j6, _, _, _, _, _, _, _ => ⟨_, _, _, _, by rw [waysTo, List.append_nil]; rfl⟩
  | p :: s, w, l, h, acc, j5, j6, hc, hw, h0, hlh, hh, hs, hl => by
    rw [List.length_cons] at hl
    obtain ⟨c1, c2, c3, c4⟩ := hc
    have hp := hs p (by simp)
    have hb := ways_body (sD := sD) (w := w) (l := l) (most := most) (acc := acc) (p := p) (by intro e; rw [e] at hw; simp at hw; omega) (by omega) (by omega) c1 c3 (by omega) (by omega) (by omega)
    obtain ⟨a3, a4, a, b, ih⟩ := ways_go (sD := sD) h2 s (waysIn w most (p.1 - l).toNat (p.2 - p.1 + 1).toNat) p.1 p.2 (acc ++ [waysIn w most (p.1 - l).toNat (p.2 - p.1 + 1).toNat]) (some (SV.fz (.int p.1))) (some (SV.fz (.int p.2))) c4 (by rw [waysIn_len]; omega) (by omega) c3 hp (fun q hq => hs q (by simp [hq])) (by rw [List.length_append, List.length_singleton]; omega)
    refine ⟨a3, a4, a, b, forGo_cons_nx rfl hb ?_⟩
    rw [ih, waysTo, List.append_assoc]
    rfl
theorem ways_to_ok {s : List (Int × Int)} {most : Nat} (h2 : most ≤ 100) (hc : Chain most 0 0 s) (hs : ∀ p ∈ s, p.2 ≤ 800) (hl : s.length < 900) : F_ways_to [.list (encS s), .int most] = some (encM (waysTo most [1] 0 s)) := by
  obtain ⟨a3, a4, a, b, h⟩ := ways_go (sD := .list (encS s)) h2 s [1] 0 0 [] none none hc rfl (Int.le_refl 0) (Int.le_refl 0) (by decide) hs (by simpa using by omega)
  rw [List.nil_append, List.map_nil] at h
  unfold F_ways_to
  rw [show envOf ["steps", "most", "found", "ahead", "low_ahead", "low", "high"] [.list (encS s), .int most] = [some (SV.fz (.list (encS s))), some (SV.fz (.int most)), none, none, none, none, none] from rfl]
  apply ev_outF
  unfold B_ways_to
  sizeOf_list_dec
theorem gIx_last {xs : List D} {x : D} (h : xs.getLast? = some x) : gIx (.list xs) (.int (-1)) = some x := by
  have hl : xs ≠ [] := by intro e; rw [e] at h; simp at h
  have : 0 < xs.length := List.length_pos_iff.mpr hl
  refine ixN_at (n := xs.length - 1) ?_ (by rw [← List.getLast?_eq_getElem?, h])
  unfold ixN
  rw [if_neg (by decide), if_pos (by omega)]
  congr 1
  omega
theorem all_ways_ok {s : List (Int × Int)} {most : Nat} (h2 : most ≤ 100) (hc : Chain most 0 0 s) (hs : ∀ p ∈ s, p.2 ≤ 800) (hl : s.length < 900) (h0 : s ≠ []) : F_all_ways [.list (encS s), .int most] = some (.int (allWays most s)) := by
  have h1 := ways_to_ok h2 hc hs hl
  have h3 : gIx (encM (waysTo most [1] 0 s)) (.int (-1)) = some (.list (encI (lastW most [1] 0 s))) := gIx_last (by rw [List.getLast?_map, waysTo_last most s _ _ h0]; rfl)
  have h4 := gSum_ints (lastW most [1] 0 s)
  unfold F_all_ways
  rw [show envOf ["steps", "most"] [.list (encS s), .int most] = [some (SV.fz (.list (encS s))), some (SV.fz (.int most))] from rfl]
  apply ev_outF
  unfold B_all_ways
  unfold allWays
  sizeOf_list_dec
/-- steps as the program has them of a rank that can come -/
structure StepsOk (most : Nat) (s : List (Int × Int)) : Prop where
  m : most ≤ 100
  c : Chain most 0 0 s
  b : ∀ p ∈ s, p.2 - p.1 + 1 ≤ 256 ∧ p.2 ≤ 800
  l : s.length ≤ 40
  n : s ≠ []
theorem StepsOk.nn {most : Nat} {s : List (Int × Int)} (h : StepsOk most s) : 0 ≤ allWays most s ∧ allWays most s ≤ 2 ^ 320 := by
  obtain ⟨h1, h2⟩ := lastW_bound (most := most) s [1] 0 1 (by simp) (by simp) fun p hp => (h.b p hp).1
  refine ⟨sum_nn h1, ?_⟩
  unfold allWays
  have h3 : (256 : Int) ^ s.length ≤ 256 ^ 40 := by
    have := h.l
    have : (256 : Nat) ^ s.length ≤ 256 ^ 40 := Nat.pow_le_pow_right (by decide) this
    exact_mod_cast this
  have h4 : (256 : Int) ^ 40 = 2 ^ 320 := by decide
  rw [Int.mul_one] at h2
  omega
def prodW (l : List (List (Int × Int) × (Int × Int))) (m : Int) : Int := l.foldl (fun m p => m * allWays p.2.1.toNat p.1) m
theorem comings_go {hD eD : D} : ∀ (l : List (List (Int × Int) × (Int × Int))) (m : Int) (k : Nat) (j3 j4 j5 : Option SV), (∀ p ∈ l, 0 ≤ p.2.1 ∧ StepsOk p.2.1.toNat p.1) → 0 ≤ m → m ≤ 2 ^ (320 * k) → k + l.length ≤ 5 →
    ∃ a b c, forGo T_all_comings_1 L_all_comings_1 (l.map fun p => .tuple [.list (encS p.1), encR p.2]) [some (SV.fz hD), some (SV.fz eD), some (SV.fz (.int m)), j3, j4, j5] = some (.nx [some (SV.fz hD), some (SV.fz eD), some (SV.fz (.int (prodW l m))), a, b, c])
  | [], m, k, j3, j4, j5, _, _, _, _ => ⟨_, _, _, rfl⟩
  | p :: l, m, k, j3, j4, j5, hp, m0, m1, hk => by
    rw [List.length_cons] at hk
    obtain ⟨p0, ok⟩ := hp p (by simp)
    obtain ⟨n0, n1⟩ := ok.nn
    have hc := all_ways_ok ok.m ok.c (fun q hq => (ok.b q hq).2) (by have := ok.l; omega) ok.n
    rw [Int.toNat_of_nonneg p0] at hc
    have e1 : (2 : Int) ^ (320 * k) * 2 ^ 320 = 2 ^ (320 * (k + 1)) := by rw [Nat.mul_succ, Int.pow_add]
    have big : ∀ x : Int, 0 ≤ x → x ≤ 2 ^ (320 * k) → x.natAbs < 2 ^ 4000 := fun x hx hy => by
      have h1 : x.natAbs ≤ 2 ^ (320 * k) := by
        have : ((x.natAbs : Nat) : Int) ≤ ((2 ^ (320 * k) : Nat) : Int) := by rw [Int.natAbs_of_nonneg hx]; exact_mod_cast hy
        exact_mod_cast this
      exact Nat.lt_of_le_of_lt h1 (Nat.pow_lt_pow_right (by decide) (by omega))
    have big2 : (allWays p.2.1.toNat p.1).natAbs < 2 ^ 4000 := by
      have h1 : (allWays p.2.1.toNat p.1).natAbs ≤ 2 ^ 320 := by
        have : (((allWays p.2.1.toNat p.1).natAbs : Nat) : Int) ≤ ((2 ^ 320 : Nat) : Int) := by rw [Int.natAbs_of_nonneg n0]; exact_mod_cast n1
        exact_mod_cast this
      exact Nat.lt_of_le_of_lt h1 (Nat.pow_lt_pow_right (by decide) (by decide))
    have hm : gMulB (.int m) (.int (allWays p.2.1.toNat p.1)) = some (.int (m * allWays p.2.1.toNat p.1)) := by
      simp only [gMulB, gInt, if_pos (And.intro (big m m0 m1) big2), Option.map_some]
    obtain ⟨a, b, c, ih⟩ := comings_go (hD := hD) (eD := eD) l (m * allWays p.2.1.toNat p.1) (k + 1) (some (SV.fz (.list (encS p.1)))) (some (SV.fz (.int p.2.1))) (some (SV.fz (.int p.2.2))) (fun q hq => hp q (by simp [hq])) (Int.mul_nonneg m0 n0) (by rw [← e1]; exact Int.mul_le_mul m1 n1 n0 (Int.pow_nonneg (by decide))) (by omega)
    refine ⟨a, b, c, forGo_cons_nx rfl ?_ ih⟩
    have hb : L_all_comings_1 [some (SV.fz hD), some (SV.fz eD), some (SV.fz (.int m)), some (SV.fz (.list (encS p.1))), some (SV.fz (.int p.2.1)), some (SV.fz (.int p.2.2))] = some (.nx [some (SV.fz hD), some (SV.fz eD), some (SV.fz (.int (m * allWays p.2.1.toNat p.1))), some (SV.fz (.list (encS p.1))), some (SV.fz (.int p.2.1)), some (SV.fz (.int p.2.2))]) := by
      sizeOf_list_dec
    exact hb
theorem all_comings_ok {h : Hall} {every : List (List (Int × Int))} (hl : h.ranks.length ≤ 4) (hs : ∀ p ∈ every.zip h.ranks, 0 ≤ p.2.1 ∧ StepsOk p.2.1.toNat p.1) : F_all_comings [encH h, .list (every.map fun s => .list (encS s))] = some (.int (prodW (every.zip h.ranks) 1)) := by
  obtain ⟨a, b, c, hg⟩ := comings_go (hD := encH h) (eD := .list (every.map fun s => .list (encS s))) (every.zip h.ranks) 1 0 none none none hs (by decide) (by decide) (by rw [List.length_zip]; omega)
  have hz : gZip2 [.list (every.map fun s => .list (encS s)), .tuple (h.ranks.map encR)] = some ((every.zip h.ranks).map fun p => .tuple [.list (encS p.1), encR p.2]) := congrArg some (pairsD_zip (fun s => .list (encS s)) encR every h.ranks)
  unfold F_all_comings
  rw [show envOf ["hall", "every", "many", "steps", "most", "_"] [encH h, .list (every.map fun s => .list (encS s))] = [some (SV.fz (encH h)), some (SV.fz (.list (every.map fun s => .list (encS s)))), none, none, none, none] from rfl]
  apply ev_outF
  unfold B_all_comings
  sizeOf_list_dec
end Dn

set_option maxHeartbeats 1000000
/-! R7: halls and books that are such. -/
namespace Dn
open PySem PySem.Spec PyProof.Rows L2
theorem forGo_same {tgt : D → DEnv → Option DEnv} {body : So} {α : Type} (enc : α → D) (I : DEnv → Prop) : ∀ (l : List α) (e : DEnv), I e → (∀ a e, a ∈ l → I e → ∃ e1 e2, tgt (enc a) e = some e1 ∧ body e1 = some (.nx e2) ∧ I e2) → ∃ e', forGo tgt body (l.map enc) e = some (.nx e') ∧ I e'
  | [], e, h, _ => ⟨e, rfl, h⟩
  | a :: l, e, h, hs => by
    obtain ⟨e1, e2, h1, h2, h3⟩ := hs a e (by simp) h
    obtain ⟨e', h4, h5⟩ := forGo_same enc I l e2 h3 fun b e hb => hs b e (by simp [hb])
    exact ⟨e', by simp only [List.map_cons, forGo, h1, h2, h4], h5⟩
theorem are_whole_ints (l : List Int) : F_are_whole [.tuple (encI l)] = some (.bool true) := by
  obtain ⟨e', hg, x, he⟩ := forGo_same (tgt := T_are_whole_1) (body := L_are_whole_1) PyData.int (fun e => ∃ x, e = [some (SV.fz (.tuple (encI l))), x]) l [some (SV.fz (.tuple (encI l))), none] ⟨none, rfl⟩ (fun a e _ ⟨x, he⟩ => by
    subst he
    exact ⟨_, _, rfl, rfl, ⟨_, rfl⟩⟩)
  subst he
  unfold F_are_whole
  rw [show envOf ["things", "thing"] [.tuple (encI l)] = [some (SV.fz (.tuple (encI l))), none] from rfl]
  apply ev_outF
  unfold B_are_whole
  sizeOf_list_dec
theorem are_ranks_ok {h : Hall} (hh : h.Ok 4 3) : F__are_ranks [.tuple (h.ranks.map encR)] = some (.bool true) := by
  obtain ⟨e', hg, x, y, z, he⟩ := forGo_same (tgt := T__are_ranks_1) (body := L__are_ranks_1) encR (fun e => ∃ x y z, e = [some (SV.fz (.tuple (h.ranks.map encR))), x, y, z]) h.ranks [some (SV.fz (.tuple (h.ranks.map encR))), none, none, none] ⟨none, none, none, rfl⟩ (fun p e hp ⟨x, y, z, he⟩ => by
    subst he
    have w : F_are_whole [encR p] = some (.bool true) := are_whole_ints [p.1, p.2]
    obtain ⟨p1, p2, p3, p4⟩ := hh.rank p hp
    refine ⟨_, [some (SV.fz (.tuple (h.ranks.map encR))), some (SV.fz (encR p)), some (SV.fz (.int p.1)), some (SV.fz (.int p.2))], rfl, ?_, ⟨_, _, _, rfl⟩⟩
    sizeOf_list_dec)
  subst he
  have t : F_is_tuple [.tuple (h.ranks.map encR), .int 1, .int 4] = some (.bool true) := by
    rw [is_tuple_tup, List.length_map]
    have := hh.r1
    have := hh.r2
    rw [decide_eq_true (by omega), decide_eq_true (by omega)]
    rfl
  unfold F__are_ranks
  rw [show envOf ["thing", "pair", "most", "stay"] [.tuple (h.ranks.map encR)] = [some (SV.fz (.tuple (h.ranks.map encR))), none, none, none] from rfl]
  apply ev_outF
  unfold B__are_ranks
  sizeOf_list_dec
theorem desk_in {dD : D} {n : Nat} {x2 : D} : ∀ (d : List Int) (low : Int) (x4 : Option SV), (∀ r ∈ d, low ≤ r ∧ r < n) → d.Pairwise (· < ·) →
    ∃ l y, forGo T__are_desks_2 L__are_desks_2 (encI d) [some (SV.fz dD), some (SV.fz (.int n)), some (SV.fz x2), some (SV.fz (.int low)), x4] = some (.nx [some (SV.fz dD), some (SV.fz (.int n)), some (SV.fz x2), some (SV.fz (.int l)), y])
  | [], low, x4, _, _ => ⟨_, _, rfl⟩
  | r :: d, low, x4, h1, h2 => by
    obtain ⟨k1, k2⟩ := h1 r (by simp)
    obtain ⟨k3, k4⟩ := List.pairwise_cons.mp h2
    obtain ⟨l, y, ih⟩ := desk_in (dD := dD) (n := n) (x2 := x2) d (r + 1) (some (SV.fz (.int r))) (fun q hq => ⟨by have := k3 q hq; omega, (h1 q (by simp [hq])).2⟩) k4
    refine ⟨l, y, forGo_cons_nx rfl ?_ ih⟩
    have hb : L__are_desks_2 [some (SV.fz dD), some (SV.fz (.int n)), some (SV.fz x2), some (SV.fz (.int low)), some (SV.fz (.int r))] = some (.nx [some (SV.fz dD), some (SV.fz (.int n)), some (SV.fz x2), some (SV.fz (.int (r + 1))), some (SV.fz (.int r))]) := by
      sizeOf_list_dec
    exact hb
theorem are_desks_ok {h : Hall} (hh : h.Ok 4 3) : F__are_desks [.tuple (h.desks.map fun d => .tuple (encI d)), .int h.ranks.length] = some (.bool true) := by
  obtain ⟨dD, hdD⟩ : ∃ dD, dD = PyData.tuple (h.desks.map fun d => .tuple (encI d)) := ⟨_, rfl⟩
  obtain ⟨e', hg, x, y, z, he⟩ := forGo_same (tgt := T__are_desks_1) (body := L__are_desks_1) (fun d => PyData.tuple (encI d)) (fun e => ∃ x y z, e = [some (SV.fz dD), some (SV.fz (.int h.ranks.length)), x, y, z]) h.desks [some (SV.fz dD), some (SV.fz (.int h.ranks.length)), none, none, none] ⟨none, none, none, rfl⟩ (fun d e hd ⟨x, y, z, he⟩ => by
    subst he
    obtain ⟨d0, d1, d2⟩ := hh.desk d hd
    obtain ⟨l, y', hin⟩ := desk_in (dD := dD) (n := h.ranks.length) (x2 := .tuple (encI d)) d 0 z (fun r hr => d2 r hr) d1
    obtain ⟨r, d', rfl⟩ : ∃ r d', d = r :: d' := by cases d with | nil => exact absurd rfl d0 | cons r d' => exact ⟨r, d', rfl⟩
    refine ⟨_, [some (SV.fz dD), some (SV.fz (.int h.ranks.length)), some (SV.fz (.tuple (encI (r :: d')))), some (SV.fz (.int l)), y'], rfl, ?_, ⟨_, _, _, rfl⟩⟩
    sizeOf_list_dec)
  subst he
  have t : F_is_tuple [dD, .int 1, .int 3] = some (.bool true) := by
    rw [hdD, is_tuple_tup, List.length_map]
    have := hh.k1
    have := hh.k2
    rw [decide_eq_true (by omega), decide_eq_true (by omega)]
    rfl
  rw [← hdD]
  unfold F__are_desks
  rw [show envOf ["thing", "ranks", "desk", "low", "rank"] [dD, .int h.ranks.length] = [some (SV.fz dD), some (SV.fz (.int h.ranks.length)), none, none, none] from rfl]
  apply ev_outF
  unfold B__are_desks
  have hs : gSeq dD = some (h.desks.map fun d => .tuple (encI d)) := by rw [hdD]; rfl
  sizeOf_list_dec
theorem is_hall_ok {h : Hall} (hh : h.Ok 4 3) : F_is_hall [encH h] = some (.bool true) := by
  have h1 := are_ranks_ok hh
  have h2 := are_desks_ok hh
  have t : F_is_tuple [encH h, .int 2, .int 2] = some (.bool true) := by
    unfold encH
    rw [is_tuple_tup]
    rfl
  have hl : gLen [.tuple (h.ranks.map encR)] = some (.int h.ranks.length) := by simp [gLen]
  unfold F_is_hall
  rw [show envOf ["thing", "ranks", "desks"] [encH h] = [some (SV.fz (encH h)), none, none] from rfl]
  apply ev_outF
  unfold B_is_hall
  sizeOf_list_dec
theorem need_hall_ok {h : Hall} (hh : h.Ok 4 3) : F_need_hall [encH h] = some .none := by
  have h1 := is_hall_ok hh
  unfold F_need_hall
  rw [show envOf ["thing"] [encH h] = [some (SV.fz (encH h))] from rfl]
  apply ev_outN
  unfold B_need_hall
  sizeOf_list_dec
theorem need_rank_ok {h : Hall} (hh : h.Ok 4 3) {r : Nat} (hr : r < h.ranks.length) : F_need_rank [encH h, .int r] = some .none := by
  have h1 : F_is_from_to [.int r, .int 0, .int ((h.ranks.length : Int) - 1)] = some (.bool true) := by
    rw [is_from_to_int, decide_eq_true (by omega), decide_eq_true (by omega)]
    rfl
  have hl : gLen [.tuple (h.ranks.map encR)] = some (.int h.ranks.length) := by simp [gLen]
  unfold F_need_rank
  rw [show envOf ["hall", "thing"] [encH h, .int r] = [some (SV.fz (encH h)), some (SV.fz (.int r))] from rfl]
  apply ev_outN
  unfold B_need_rank
  sizeOf_list_dec
end Dn

set_option maxHeartbeats 1000000
/-! R8: books. -/
namespace Dn
open PySem PySem.Spec PyProof.Rows L2
abbrev encBk (B : List (List (Option Nat))) : D := .tuple (B.map fun t => .tuple (t.map encO))
def colOf (B : List (List (Option Nat))) (j : Nat) : List (Option Nat) := B.map fun row => row.getD j none
def colsOf (B : List (List (Option Nat))) (m : Nat) : List (List (Option Nat)) := (List.range m).map (colOf B)
def ColOk (stays desk : List Int) : Int → Nat → List (Option Nat) → Prop
  | _, _, [] => True
  | free, k, some r :: c => free ≤ (k : Int) ∧ desk.contains (r : Int) = true ∧ r < stays.length ∧ ColOk stays desk (k + stays.getD r 0) (k + 1) c
  | free, k, none :: c => ColOk stays desk free (k + 1) c
structure BookOk (h : Hall) (B : List (List (Option Nat))) : Prop where
  t1 : 1 ≤ B.length
  t2 : B.length ≤ 40
  w : ∀ row ∈ B, row.length = h.desks.length
  c : ∀ j, j < h.desks.length → ColOk (h.ranks.map (·.2)) (h.desks.getD j []) 0 0 (colOf B j)
theorem gNotIn_ints (r : Int) (desk : List Int) : gIn true (.int r) (.tuple (encI desk)) = some (.bool (!desk.contains r)) := by
  have e := gIn_ints r desk
  have h : (encI desk).all flatD = true := by simp [encI, flatD]
  unfold gIn at e ⊢
  simp only [gSeq] at e ⊢
  rw [if_pos (by rw [h]; rfl)] at e ⊢
  simp only [Option.some.injEq, PyData.bool.injEq, Bool.false_eq_true, if_false] at e
  simp only [if_true, e]
theorem is_col_go {sD dD cD : D} {stays desk : List Int} : ∀ (col : List (Option Nat)) (k : Nat) (free : Int) (x y : Option SV), ColOk stays desk free k col → sD = .list (encI stays) → dD = .tuple (encI desk) →
    ∃ f x' y', forGo T_is_column_1 L_is_column_1 (enumD k (col.map encO)) [some (SV.fz sD), some (SV.fz dD), some (SV.fz cD), some (SV.fz (.int free)), x, y] = some (.nx [some (SV.fz sD), some (SV.fz dD), some (SV.fz cD), some (SV.fz (.int f)), x', y'])
  | [], _, _, _, _, _, _, _ => ⟨_, _, _, rfl⟩
  | some r :: col, k, free, x, y, hc, hs, hd => by
    subst hs
    subst hd
    obtain ⟨c1, c2, c3, c4⟩ := hc
    obtain ⟨f, x', y', ih⟩ := is_col_go (sD := .list (encI stays)) (dD := .tuple (encI desk)) (cD := cD) col (k + 1) (k + stays.getD r 0) (some (SV.fz (.int k))) (some (SV.fz (.int r))) c4 rfl rfl
    have hin := gNotIn_ints r desk
    rw [c2] at hin
    have hix : gIx (.list (encI stays)) (.int r) = some (.int (stays.getD r 0)) := by
      refine gIx_ln ?_
      rw [List.getElem?_map, List.getElem?_eq_getElem c3, List.getD_eq_getElem?_getD, List.getElem?_eq_getElem c3]
      rfl
    refine ⟨f, x', y', forGo_cons_nx (e2 := [some (SV.fz (.list (encI stays))), some (SV.fz (.tuple (encI desk))), some (SV.fz cD), some (SV.fz (.int (k + stays.getD r 0))), some (SV.fz (.int k)), some (SV.fz (.int r))]) rfl ?_ ih⟩
    have hb : L_is_column_1 [some (SV.fz (.list (encI stays))), some (SV.fz (.tuple (encI desk))), some (SV.fz cD), some (SV.fz (.int free)), some (SV.fz (.int k)), some (SV.fz (.int r))] = some (.nx [some (SV.fz (.list (encI stays))), some (SV.fz (.tuple (encI desk))), some (SV.fz cD), some (SV.fz (.int (k + stays.getD r 0))), some (SV.fz (.int k)), some (SV.fz (.int r))]) := by
      sizeOf_list_dec
    exact hb
  | none :: col, k, free, x, y, hc, hs, hd => by
    obtain ⟨f, x', y', ih⟩ := is_col_go (sD := sD) (dD := dD) (cD := cD) (stays := stays) (desk := desk) col (k + 1) free (some (SV.fz (.int k))) (some (SV.fz .none)) hc hs hd
    exact ⟨f, x', y', forGo_cons_nx rfl rfl ih⟩
theorem is_column_ok {stays desk : List Int} {col : List (Option Nat)} (hc : ColOk stays desk 0 0 col) : F_is_column [.list (encI stays), .tuple (encI desk), .tuple (col.map encO)] = some (.bool true) := by
  obtain ⟨f, x', y', hg⟩ := is_col_go (sD := .list (encI stays)) (dD := .tuple (encI desk)) (cD := .tuple (col.map encO)) col 0 0 none none hc rfl rfl
  have he : gEnum [.tuple (col.map encO)] = some (enumD 0 (col.map encO)) := rfl
  unfold F_is_column
  rw [show envOf ["stays", "desk", "column", "free", "tick", "one"] [.list (encI stays), .tuple (encI desk), .tuple (col.map encO)] = [some (SV.fz (.list (encI stays))), some (SV.fz (.tuple (encI desk))), some (SV.fz (.tuple (col.map encO))), none, none, none] from rfl]
  apply ev_outF
  unfold B_is_column
  sizeOf_list_dec
theorem shaped_mul (w : Int) (n : Nat) : True := trivial
theorem are_rows_ok {B : List (List (Option Nat))} {m : Nat} (t1 : 1 ≤ B.length) (t2 : B.length ≤ 40) (hw : ∀ row ∈ B, row.length = m) : F_are_rows [encBk B, .int 40, .int m] = some (.bool true) := by
  have t : F_is_tuple [encBk B, .int 1, .int 40] = some (.bool true) := by
    rw [is_tuple_tup, List.length_map, decide_eq_true (by omega), decide_eq_true (by omega)]
    rfl
  have hg := lcGo_mapE (tgt := CT_are_rows_1) (test := CC_are_rows_1) (elt := CE_are_rows_1) (vs := [3]) (e := wipeD [some (SV.fz (encBk B)), some (SV.fz (.int 40)), some (SV.fz (.int m)), none] [3]) (fun t : List (Option Nat) => PyData.tuple (t.map encO)) (fun _ => .int m) B (fun row hrow => ⟨_, _, _, rfl, rfl, mMap_ev (g := gLen) (x := [.tuple (row.map encO)]) rfl (by simp [gLen, hw row hrow]), rfl⟩)
  have hl : gLen [encBk B] = some (.int B.length) := by simp [gLen]
  have hm : gMulB (.list [.int m]) (.int B.length) = some (.list (B.map fun _ => .int m)) := by
    have := gRep_tick m (c := (B.length : Int)) (by omega) (by omega)
    rw [this, Int.toNat_natCast]
    congr 2
    refine List.ext_getElem (by simp) fun i h1 h2 => by simp [encI]
  have he : gEq (.list (B.map fun _ => PyData.int m)) (.list (B.map fun _ => PyData.int m)) = some (.bool true) := by
    refine gEq_self ?_
    have := shaped_ints (B.map fun _ => (m : Int))
    rw [List.map_map] at this
    exact this
  unfold F_are_rows
  rw [show envOf ["thing", "most", "wide", "row"] [encBk B, .int 40, .int m] = [some (SV.fz (encBk B)), some (SV.fz (.int 40)), some (SV.fz (.int m)), none] from rfl]
  apply ev_outF
  unfold B_are_rows
  sizeOf_list_dec
theorem seqsOf_tups {α : Type} (f : α → List D) : ∀ l : List α, seqsOf (l.map fun x => .tuple (f x)) = some (l.map f)
  | [] => rfl
  | x :: l => by
    rw [List.map_cons, seqsOf, seqsOf_tups f l]
    rfl
theorem zipS_book {B : List (List (Option Nat))} {m : Nat} (t1 : 1 ≤ B.length) (t2 : B.length ≤ 1000) (hm : 1 ≤ m) (hw : ∀ row ∈ B, row.length = m) : gZipS (encBk B) = some (.list ((colsOf B m).map fun c => .tuple (c.map encO))) := by
  unfold gZipS
  simp only [gSeq, seqsOf_tups]
  cases B with
  | nil => simp at t1
  | cons r B =>
    simp only [List.map_cons]
    have hr := hw r (by simp)
    rw [if_pos]
    · congr 2
      unfold colD colsOf colOf
      rw [List.length_map, hr, List.map_map]
      refine List.map_congr_left fun j hj => ?_
      have hj := List.mem_range.mp hj
      show _ = PyData.tuple (((r :: B).map fun row => row.getD j none).map encO)
      congr 1
      rw [List.map_map, ← List.map_cons (f := List.map encO), List.map_map]
      refine List.map_congr_left fun x hx => ?_
      have hx := hw x hx
      simp only [Function.comp, List.getD_eq_getElem?_getD, List.getElem?_map]
      rw [List.getElem?_eq_getElem (by omega)]
      rfl
    · refine ⟨by rw [List.length_map]; omega, by rw [List.length_map]; simp at t2; omega, ?_⟩
      rw [List.all_eq_true]
      intro q hq
      obtain ⟨x, hx, rfl⟩ := List.mem_map.mp hq
      have := hw x (by simp [hx])
      simp [hr, this]
theorem columns_of_ok {h : Hall} (hh : h.Ok 4 3) {B : List (List (Option Nat))} (hB : BookOk h B) : F_columns_of [encH h, encBk B] = some (.list ((colsOf B h.desks.length).map fun c => .tuple (c.map encO))) := by
  have h1 := are_rows_ok hB.t1 hB.t2 hB.w
  have h2 := all_stays_ok (h := h) hh.r2
  have h3 := zipS_book hB.t1 (by have := hB.t2; omega) hh.k1 hB.w
  have hl : gLen [.tuple (h.desks.map fun d => .tuple (encI d))] = some (.int h.desks.length) := by simp [gLen]
  obtain ⟨csD, hcs⟩ : ∃ csD, csD = PyData.list ((colsOf B h.desks.length).map fun c => .tuple (c.map encO)) := ⟨_, rfl⟩
  have hz : gZip2 [csD, .tuple (h.desks.map fun d => .tuple (encI d))] = some (((colsOf B h.desks.length).zip h.desks).map fun p => .tuple [.tuple (p.1.map encO), .tuple (encI p.2)]) := by
    rw [hcs]
    exact congrArg some (pairsD_zip (fun c => .tuple (c.map encO)) (fun d => .tuple (encI d)) (colsOf B h.desks.length) h.desks)
  have hok : ∀ p ∈ (colsOf B h.desks.length).zip h.desks, ColOk (h.ranks.map (·.2)) p.2 0 0 p.1 := by
    intro p hp
    obtain ⟨i, hi, rfl⟩ := List.getElem_of_mem hp
    rw [List.length_zip] at hi
    have hi2 : i < h.desks.length := by omega
    rw [List.getElem_zip]
    have := hB.c i hi2
    rw [List.getD_eq_getElem?_getD, List.getElem?_eq_getElem hi2] at this
    simpa [colsOf] using this
  rw [← hcs] at h3 ⊢
  obtain ⟨e', hg, x, y, he⟩ := forGo_same (tgt := T_columns_of_1) (body := L_columns_of_1) (fun p : List (Option Nat) × List Int => PyData.tuple [.tuple (p.1.map encO), .tuple (encI p.2)]) (fun e => ∃ x y, e = [some (SV.fz (encH h)), some (SV.fz (encBk B)), some (SV.fz (.tuple (h.desks.map fun d => .tuple (encI d)))), some (SV.fz (.list (encI (h.ranks.map (·.2))))), some (SV.fz csD), x, y]) ((colsOf B h.desks.length).zip h.desks)
    [some (SV.fz (encH h)), some (SV.fz (encBk B)), some (SV.fz (.tuple (h.desks.map fun d => .tuple (encI d)))), some (SV.fz (.list (encI (h.ranks.map (·.2))))), some (SV.fz csD), none, none] ⟨none, none, rfl⟩ (fun p e hp ⟨x, y, he⟩ => by
    subst he
    have w := is_column_ok (hok p hp)
    refine ⟨_, [some (SV.fz (encH h)), some (SV.fz (encBk B)), some (SV.fz (.tuple (h.desks.map fun d => .tuple (encI d)))), some (SV.fz (.list (encI (h.ranks.map (·.2))))), some (SV.fz csD), some (SV.fz (.tuple (p.1.map encO))), some (SV.fz (.tuple (encI p.2)))], rfl, ?_, ⟨_, _, rfl⟩⟩
    sizeOf_list_dec)
  subst he
  unfold F_columns_of
  rw [show envOf ["hall", "thing", "desks", "stays", "columns", "column", "desk"] [encH h, encBk B] = [some (SV.fz (encH h)), some (SV.fz (encBk B)), none, none, none, none, none] from rfl]
  apply ev_outF
  unfold B_columns_of
  sizeOf_list_dec
theorem need_book_ok {h : Hall} (hh : h.Ok 4 3) {B : List (List (Option Nat))} (hB : BookOk h B) : F_need_book [encH h, encBk B] = some (.list ((colsOf B h.desks.length).map fun c => .tuple (c.map encO))) := by
  have h1 := columns_of_ok hh hB
  unfold F_need_book
  rw [show envOf ["hall", "thing", "columns"] [encH h, encBk B] = [some (SV.fz (encH h)), some (SV.fz (encBk B)), none] from rfl]
  apply ev_outF
  unfold B_need_book
  sizeOf_list_dec
theorem need_looks_0 (h b : D) : F_need_looks [h, b, .tuple []] = some .none := rfl
theorem need_written_ok {h : Hall} (hh : h.Ok 4 3) {B : List (List (Option Nat))} (hB : BookOk h B) : F_need_written [encH h, encBk B, .tuple []] = some (.list ((colsOf B h.desks.length).map fun c => .tuple (c.map encO))) := by
  have h1 := need_hall_ok hh
  have h2 := need_book_ok hh hB
  have h3 := need_looks_0 (encH h) (encBk B)
  unfold F_need_written
  rw [show envOf ["hall", "book", "looks", "columns"] [encH h, encBk B, .tuple []] = [some (SV.fz (encH h)), some (SV.fz (encBk B)), some (SV.fz (.tuple [])), none] from rfl]
  apply ev_outF
  unfold B_need_written
  sizeOf_list_dec
end Dn

set_option maxHeartbeats 1000000
/-! R9: all ranks' steps. -/
namespace Dn
open PySem PySem.Spec PyProof.Rows L2
def barredB (s : List (Int × Int)) : Bool := match s.getLast? with | some p => decide (p.1 > p.2) | none => false
def anyBar (n : Nat) (up : Nat → List (Int × Int)) : Bool := (List.range n).any fun r => barredB (up r)
def upsD (n : Nat) (up : Nat → List (Int × Int)) : D := if anyBar n up then .none else .list ((List.range n).map fun r => .list (encS (up r)))
def mostOf (h : Hall) (r : Nat) : Int := (h.ranks.getD r (0, 0)).1
theorem is_barred_B {s : List (Int × Int)} (h : s ≠ []) : F_is_barred [.list (encS s)] = some (.bool (barredB s)) := by
  obtain ⟨p, hp⟩ : ∃ p, s.getLast? = some p := ⟨_, List.getLast?_eq_some_getLast h⟩
  rw [is_barred_ok hp]
  unfold barredB
  rw [hp]
section
variable {hD cD lD tD : D} {up : Nat → List (Int × Int)}
abbrev upE (hD cD lD tD : D) (found : List (List (Int × Int))) (j5 j6 : Option SV) : DEnv := [some (SV.fz hD), some (SV.fz cD), some (SV.fz lD), some (SV.fz tD), some (SV.ow false 0 (.list (found.map fun s => .list (encS s)))), j5, j6]
theorem all_up_go (hne : ∀ r, up r ≠ []) : ∀ (l : List Nat) (found : List (List (Int × Int))) (j5 j6 : Option SV), found.length + l.length < 1000 → (∀ r ∈ l, F_rank_up [hD, tD, lD, .int (r : Nat)] = some (.list (encS (up r)))) →
    ((l.any fun r => barredB (up r)) = true → ∃ e, forGo T_all_up_1 L_all_up_1 (l.map fun (r : Nat) => PyData.int r) (upE hD cD lD tD found j5 j6) = some (.rt .none e)) ∧
    ((l.any fun r => barredB (up r)) = false → ∃ a b, forGo T_all_up_1 L_all_up_1 (l.map fun (r : Nat) => PyData.int r) (upE hD cD lD tD found j5 j6) = some (.nx (upE hD cD lD tD (found ++ l.map up) a b)))
  | [], found, j5, j6, _, _ => ⟨fun z => by simp at z, fun _ => ⟨j5, j6, by rw [List.map_nil, List.map_nil, List.append_nil]; rfl⟩⟩
  | r :: l, found, j5, j6, hl, hr => by
    rw [List.length_cons] at hl
    obtain ⟨i1, i2⟩ := all_up_go hne l (found ++ [up r]) (some (SV.fz (.int r))) (some (SV.fz (.list (encS (up r))))) (by rw [List.length_append, List.length_singleton]; omega) (fun q hq => hr q (by simp [hq]))
    have c1 := hr r (by simp)
    have c2 := is_barred_B (hne r)
    cases hb : barredB (up r) with
    | true =>
      rw [hb] at c2
      have b1 : L_all_up_1 (upE hD cD lD tD found (some (SV.fz (.int r))) j6) = some (.rt .none (upE hD cD lD tD found (some (SV.fz (.int r))) (some (SV.fz (.list (encS (up r))))))) := by
        sizeOf_list_dec
      refine ⟨fun _ => ⟨upE hD cD lD tD found (some (SV.fz (.int r))) (some (SV.fz (.list (encS (up r))))), ?_⟩, fun z => by simp [hb] at z⟩
      simp only [List.map_cons, forGo]
      rw [show T_all_up_1 (PyData.int r) (upE hD cD lD tD found j5 j6) = some (upE hD cD lD tD found (some (SV.fz (.int r))) j6) from rfl]
      simp only [b1]
    | false =>
      rw [hb] at c2
      have b1 : L_all_up_1 (upE hD cD lD tD found (some (SV.fz (.int r))) j6) = some (.nx (upE hD cD lD tD (found ++ [up r]) (some (SV.fz (.int r))) (some (SV.fz (.list (encS (up r))))))) := by
        simp only [upE, List.map_append]
        sizeOf_list_dec
      refine ⟨fun z => ?_, fun z => ?_⟩
      · obtain ⟨e, h1⟩ := i1 (by simpa [hb] using z)
        exact ⟨e, forGo_cons_nx rfl b1 h1⟩
      · obtain ⟨a, b, h1⟩ := i2 (by simpa [hb] using z)
        refine ⟨a, b, forGo_cons_nx rfl b1 ?_⟩
        rw [List.map_cons, show found ++ up r :: l.map up = found ++ [up r] ++ l.map up by simp]
        exact h1
end
theorem all_up_ok {h : Hall} {cD lD tD : D} {up : Nat → List (Int × Int)} (hl : h.ranks.length ≤ 4) (ht : F_all_turns [encH h, cD] = some tD) (hne : ∀ r, up r ≠ []) (hr : ∀ r, r < h.ranks.length → F_rank_up [encH h, tD, lD, .int (r : Nat)] = some (.list (encS (up r)))) :
    F_all_up [encH h, cD, lD] = some (upsD h.ranks.length up) := by
  obtain ⟨i1, i2⟩ := all_up_go (hD := encH h) (cD := cD) (lD := lD) (tD := tD) hne (List.range h.ranks.length) [] none none (by simp; omega) (fun r hr' => hr r (List.mem_range.mp hr'))
  have hlen : gLen [.tuple (h.ranks.map encR)] = some (.int h.ranks.length) := by simp [gLen]
  have hrg : gRg1 [.int (h.ranks.length : Int)] = some ((List.range h.ranks.length).map fun (r : Nat) => PyData.int r) := by
    rw [gRg1_nat (by omega), rangeD_ints, encI, List.map_map]
    rfl
  unfold F_all_up
  rw [show envOf ["hall", "columns", "looks", "turns", "found", "rank", "steps"] [encH h, cD, lD] = [some (SV.fz (encH h)), some (SV.fz cD), some (SV.fz lD), none, none, none, none] from rfl]
  unfold upsD anyBar
  cases hb : (List.range h.ranks.length).any fun r => barredB (up r) with
  | true =>
    obtain ⟨e, hg⟩ := i1 hb
    rw [if_pos rfl]
    simp only [upE, List.map_nil] at hg
    clear i1 i2
    apply ev_outF
    unfold B_all_up
    sizeOf_list_dec
  | false =>
    obtain ⟨a, b, hg⟩ := i2 hb
    rw [List.nil_append] at hg
    have hm : ((List.range h.ranks.length).map up).map (fun s => PyData.list (encS s)) = (List.range h.ranks.length).map fun r => .list (encS (up r)) := by rw [List.map_map]; rfl
    simp only [upE, hm, List.map_nil] at hg
    rw [if_neg (by decide)]
    clear i1 i2
    apply ev_outF
    unfold B_all_up
    sizeOf_list_dec
theorem steps_of_ok {h : Hall} {cD lD : D} {up : Nat → List (Int × Int)} (hu : F_all_up [encH h, cD, lD] = some (upsD h.ranks.length up)) (hne : ∀ r, up r ≠ []) (hlen : ∀ r, (up r).length < 1000) {r : Nat} (hr : r < h.ranks.length) (hm : 0 < mostOf h r) :
    F_steps_of [encH h, cD, lD, .int r] = some (if anyBar h.ranks.length up then .none else .list (encS (down (mostOf h r) (up r)))) := by
  unfold F_steps_of
  rw [show envOf ["hall", "columns", "looks", "rank", "every"] [encH h, cD, lD, .int r] = [some (SV.fz (encH h)), some (SV.fz cD), some (SV.fz lD), some (SV.fz (.int r)), none] from rfl]
  unfold upsD at hu
  cases hb : anyBar h.ranks.length up with
  | true =>
    rw [hb, if_pos rfl] at hu
    rw [if_pos rfl]
    apply ev_outF
    unfold B_steps_of
    sizeOf_list_dec
  | false =>
    rw [hb, if_neg (by decide)] at hu
    rw [if_neg (by decide)]
    have c1 := steps_down_ok hm (hne r) (hlen r)
    have g1 : gIx (.list ((List.range h.ranks.length).map fun r => .list (encS (up r)))) (.int r) = some (.list (encS (up r))) := gIx_ln (by rw [List.getElem?_map, List.getElem?_range hr]; rfl)
    have g2 : gIx (.tuple (h.ranks.map encR)) (.int r) = some (encR (h.ranks.getD r (0, 0))) := gIx_tn (by rw [List.getElem?_map, List.getElem?_eq_getElem hr, List.getD_eq_getElem?_getD, List.getElem?_eq_getElem hr]; rfl)
    unfold mostOf at c1 ⊢
    apply ev_outF
    unfold B_steps_of
    sizeOf_list_dec
def downsOf (h : Hall) (up : Nat → List (Int × Int)) : List (List (Int × Int)) := (List.range h.ranks.length).map fun r => down (mostOf h r) (up r)
theorem zip_range {α β : Type} (f : Nat → α) : ∀ (l : List β), ((List.range l.length).map f).zip l = l.mapIdx fun i x => (f i, x) := fun l => by
  refine List.ext_getElem (by simp) fun i h1 h2 => ?_
  simp
theorem all_steps_ok {h : Hall} {cD lD : D} {up : Nat → List (Int × Int)} (hl : h.ranks.length ≤ 4) (hu : F_all_up [encH h, cD, lD] = some (upsD h.ranks.length up)) (hne : ∀ r, up r ≠ []) (hlen : ∀ r, (up r).length < 1000) (hm : ∀ p ∈ h.ranks, 0 < p.1) :
    F_all_steps [encH h, cD, lD] = some (if anyBar h.ranks.length up then .none else .list ((downsOf h up).map fun s => .list (encS s))) := by
  unfold F_all_steps
  rw [show envOf ["hall", "columns", "looks", "every", "steps", "most", "_"] [encH h, cD, lD] = [some (SV.fz (encH h)), some (SV.fz cD), some (SV.fz lD), none, none, none, none] from rfl]
  unfold upsD at hu
  cases hb : anyBar h.ranks.length up with
  | true =>
    rw [hb, if_pos rfl] at hu
    rw [if_pos rfl]
    apply ev_outF
    unfold B_all_steps
    sizeOf_list_dec
  | false =>
    rw [hb, if_neg (by decide)] at hu
    rw [if_neg (by decide)]
    obtain ⟨eD, heD⟩ : ∃ eD, eD = PyData.list ((List.range h.ranks.length).map fun r => .list (encS (up r))) := ⟨_, rfl⟩
    rw [← heD] at hu
    have hz : gZip2 [eD, .tuple (h.ranks.map encR)] = some ((((List.range h.ranks.length).map up).zip h.ranks).map fun p => .tuple [.list (encS p.1), encR p.2]) := by
      rw [heD]
      have := pairsD_zip (fun s => .list (encS s)) encR ((List.range h.ranks.length).map up) h.ranks
      rw [List.map_map] at this
      exact congrArg some this
    have hg := lcGo_mapE (tgt := CT_all_steps_1) (test := CC_all_steps_1) (elt := CE_all_steps_1) (vs := [4, 5, 6]) (e := wipeD [some (SV.fz (encH h)), some (SV.fz cD), some (SV.fz lD), some (SV.fz eD), none, none, none] [4, 5, 6]) (fun p : List (Int × Int) × (Int × Int) => PyData.tuple [.list (encS p.1), encR p.2]) (fun p => .list (encS (down p.2.1 p.1))) (((List.range h.ranks.length).map up).zip h.ranks) (fun p hp => by
      have hp1 := (List.of_mem_zip hp).1
      have hp2 := (List.of_mem_zip hp).2
      obtain ⟨r, _, hr⟩ := List.mem_map.mp hp1
      have c := steps_down_ok (hm _ hp2) (s := p.1) (by rw [← hr]; exact hne r) (by rw [← hr]; exact hlen r)
      refine ⟨_, _, [some (SV.fz (encH h)), some (SV.fz cD), some (SV.fz lD), some (SV.fz eD), some (SV.fz (.list (encS p.1))), some (SV.fz (.int p.2.1)), some (SV.fz (.int p.2.2))], rfl, rfl, ?_, rfl⟩
      exact mMap_ev (x := [.list (encS p.1), .int p.2.1]) rfl (ev_len rfl c))
    have hres : (((List.range h.ranks.length).map up).zip h.ranks).map (fun p => PyData.list (encS (down p.2.1 p.1))) = (downsOf h up).map fun s => .list (encS s) := by
      unfold downsOf mostOf
      rw [zip_range]
      refine List.ext_getElem (by simp) fun i h1 h2 => ?_
      have hi : i < h.ranks.length := by simpa using h2
      simp [List.getD_eq_getElem?_getD, List.getElem?_eq_getElem hi]
    rw [hres] at hg
    have hlz : ((((List.range h.ranks.length).map up).zip h.ranks).map fun p => PyData.tuple [.list (encS p.1), encR p.2]).length ≤ 100000 := by rw [List.length_map, List.length_zip]; omega
    have hn : mMap gIsN (mVar 3) [some (SV.fz (encH h)), some (SV.fz cD), some (SV.fz lD), some (SV.fz eD), none, none, none] = some (.bool false, [some (SV.fz (encH h)), some (SV.fz cD), some (SV.fz lD), some (SV.fz eD), none, none, none]) := by
      rw [heD]
      rfl
    apply ev_outF
    unfold B_all_steps
    sizeOf_list_dec
end Dn

set_option maxHeartbeats 1000000
/-! R10: stairs, how many. -/
namespace Dn
open PySem PySem.Spec PyProof.Rows L2
def bhd (n r : Nat) : List Int := (List.range (n - (r + 1))).map fun (i : Nat) => (r : Int) + 1 + i
def turnsT (h : Hall) (B : List (List (Option Nat))) : List (List Int) := (colsOf B h.desks.length).map (turnsP (h.ranks.map (·.2)) 0 0)
def toldR (h : Hall) (B : List (List (Option Nat))) (r : Nat) : List (Int × Option Int) := tell ((4 :: bhd h.ranks.length r).contains ·) r 0 (colRows (ownCols (turnsT h B) h.desks r) B.length)
def upR (h : Hall) (B : List (List (Option Nat))) (r : Nat) : List (Int × Int) := stepsUp (mostOf h r) 0 0 (toldR h B r)
theorem toldR_len (h : Hall) (B : List (List (Option Nat))) (r : Nat) : (toldR h B r).length = B.length := by
  unfold toldR
  rw [tell_len]
  simp [colRows]
theorem ranks_behind_ok {h : Hall} (hl : h.ranks.length ≤ 4) {r : Nat} (hr : r < h.ranks.length) : F_ranks_behind [encH h, .int r] = some (.tuple (encI (bhd h.ranks.length r))) := by
  have hlen : gLen [.tuple (h.ranks.map encR)] = some (.int h.ranks.length) := by simp [gLen]
  have hg : gTupRg2 (.int ((r : Int) + 1)) (.int h.ranks.length) = some (.tuple (encI (bhd h.ranks.length r))) := by
    have e : (2 : Int) ^ 62 = 4611686018427387904 := by decide
    simp only [gTupRg2]
    rw [if_pos ⟨by omega, by omega, by omega, by omega, by omega⟩]
    congr 2
    unfold rangeD bhd encI
    rw [List.map_map, show ((h.ranks.length : Int) - ((r : Int) + 1)).toNat = h.ranks.length - (r + 1) by omega]
    rfl
  unfold F_ranks_behind
  rw [show envOf ["hall", "rank"] [encH h, .int r] = [some (SV.fz (encH h)), some (SV.fz (.int r))] from rfl]
  apply ev_outF
  unfold B_ranks_behind
  sizeOf_list_dec
theorem ColOk.lt {stays desk : List Int} : ∀ {col : List (Option Nat)} {free : Int} {k : Nat}, ColOk stays desk free k col → ∀ r, some r ∈ col → r < stays.length
  | [], _, _, _, r, hr => by simp at hr
  | some q :: col, _, _, h, r, hr => by
    rcases List.mem_cons.mp hr with e | e
    · cases e; exact h.2.2.1
    · exact ColOk.lt h.2.2.2 r e
  | none :: col, _, _, h, r, hr => by
    rcases List.mem_cons.mp hr with e | e
    · cases e
    · exact ColOk.lt (col := col) h r e
theorem turnsP_len (stays : List Int) : ∀ (col : List (Option Nat)) (free : Int) (k : Nat), (turnsP stays free k col).length = col.length
  | [], _, _ => rfl
  | some r :: col, _, _ => by rw [turnsP, List.length_cons, List.length_cons, turnsP_len stays col]
  | none :: col, _, _ => by rw [turnsP, List.length_cons, List.length_cons, turnsP_len stays col]
theorem turnsT_len (h : Hall) (B : List (List (Option Nat))) : (turnsT h B).length = h.desks.length := by simp [turnsT, colsOf]
theorem turnsT_mem {h : Hall} {B : List (List (Option Nat))} : ∀ c ∈ turnsT h B, c.length = B.length := by
  intro c hc
  unfold turnsT colsOf at hc
  rw [List.map_map] at hc
  obtain ⟨j, _, rfl⟩ := List.mem_map.mp hc
  show (turnsP _ _ _ _).length = _
  rw [turnsP_len]
  simp [colOf]
theorem bhd_nodup {n r : Nat} (hn : n ≤ 4) : ((4 : Int) :: bhd n r).Nodup := by
  unfold bhd
  refine List.nodup_cons.mpr ⟨fun h => ?_, ?_⟩
  · obtain ⟨i, hi, e⟩ := List.mem_map.mp h
    have := List.mem_range.mp hi
    omega
  · rw [List.Nodup, List.pairwise_map]
    exact List.Pairwise.imp (fun h => by omega) List.pairwise_lt_range
theorem all_turns_B {h : Hall} (hh : h.Ok 4 3) {B : List (List (Option Nat))} (hB : BookOk h B) : F_all_turns [encH h, .list ((colsOf B h.desks.length).map fun c => .tuple (c.map encO))] = some (encM (turnsT h B)) := by
  have hr2 := hh.r2
  have hk2 := hh.k2
  have := all_turns_ok (h := h) (csD := .list ((colsOf B h.desks.length).map fun c => .tuple (c.map encO))) (cols := colsOf B h.desks.length) (enc := fun c => .tuple (c.map encO)) hr2 rfl (by simp [colsOf]; omega) (fun c hc => by
    unfold colsOf at hc
    obtain ⟨j, hj, rfl⟩ := List.mem_map.mp hc
    have hj := List.mem_range.mp hj
    refine ⟨rfl, fun r hr => ?_, ?_⟩
    · have := (hB.c j hj).lt r hr
      simpa using this
    · have := hB.t2
      simp [colOf]
      omega)
  rw [this]
  unfold turnsT encM
  rw [List.map_map]
  rfl
theorem rank_up_ok {h : Hall} (hh : h.Ok 4 3) {B : List (List (Option Nat))} (hB : BookOk h B) {r : Nat} (hr : r < h.ranks.length) : F_rank_up [encH h, encM (turnsT h B), .tuple [], .int r] = some (.list (encS (upR h B r))) := by
  have hr2 := hh.r2
  have hk1 := hh.k1
  have hk2 := hh.k2
  have t1 := hB.t1
  have t2 := hB.t2
  have c1 := ranks_behind_ok hr2 hr
  have c2 := told_of_ok (h := h) (turns := turnsT h B) (r := r) (g := 0) (bh := bhd h.ranks.length r) (T := B.length) (turnsT_len h B) (by rw [turnsT_len]; omega) (fun e => by have := turnsT_len h B; rw [e] at this; simp at this; omega) turnsT_mem t1 (by omega) (bhd_nodup hr2) (by simp [bhd]; omega)
  have c3 := steps_up_ok (l := toldR h B r) (most := mostOf h r) (low := 0) (high := 0) (by rw [toldR_len]; omega)
  have g2 : gIx (.tuple (h.ranks.map encR)) (.int r) = some (encR (h.ranks.getD r (0, 0))) := gIx_tn (by rw [List.getElem?_map, List.getElem?_eq_getElem hr, List.getD_eq_getElem?_getD, List.getElem?_eq_getElem hr]; rfl)
  obtain ⟨td, htd⟩ : ∃ td, td = encT (toldR h B r) := ⟨_, rfl⟩
  have c2' : F_told_of [encH h, encM (turnsT h B), .int r, .tuple (encI (bhd h.ranks.length r)), .int 0] = some td := by rw [htd]; exact c2
  unfold mostOf at c3
  rw [← htd] at c3
  unfold F_rank_up
  rw [show envOf ["hall", "turns", "looks", "rank", "told"] [encH h, encM (turnsT h B), .tuple [], .int r] = [some (SV.fz (encH h)), some (SV.fz (encM (turnsT h B))), some (SV.fz (.tuple [])), some (SV.fz (.int r)), none] from rfl]
  unfold upR mostOf
  clear c2 htd
  apply ev_outF
  unfold B_rank_up
  sizeOf_list_dec
theorem stepsUp_len_le {most : Int} : ∀ (l : List (Int × Option Int)) (low high : Int), (stepsUp most low high l).length ≤ l.length
  | [], _, _ => Nat.le_refl _
  | p :: l, low, high => by
    rw [stepsUp, List.length_cons, List.length_cons]
    have := stepsUp_len_le (most := most) l (loP low p.1) (hiP most high p.2)
    split
    · simp
    · omega
theorem upR_ne {h : Hall} {B : List (List (Option Nat))} (t1 : 1 ≤ B.length) (r : Nat) : upR h B r ≠ [] := stepsUp_ne (fun e => by have := toldR_len h B r; rw [e] at this; simp at this; omega)
theorem upR_len {h : Hall} {B : List (List (Option Nat))} (r : Nat) : (upR h B r).length ≤ B.length := by
  have := stepsUp_len_le (most := mostOf h r) (toldR h B r) 0 0
  rw [toldR_len] at this
  exact this
theorem all_up_B {h : Hall} (hh : h.Ok 4 3) {B : List (List (Option Nat))} (hB : BookOk h B) : F_all_up [encH h, .list ((colsOf B h.desks.length).map fun c => .tuple (c.map encO)), .tuple []] = some (upsD h.ranks.length (upR h B)) :=
  all_up_ok hh.r2 (all_turns_B hh hB) (upR_ne hB.t1) (fun r hr => rank_up_ok hh hB hr)
theorem mostOf_pos {h : Hall} (hh : h.Ok 4 3) {r : Nat} (hr : r < h.ranks.length) : 1 ≤ mostOf h r ∧ mostOf h r ≤ 5 := by
  have e : h.ranks.getD r (0, 0) = h.ranks[r] := by rw [List.getD_eq_getElem?_getD, List.getElem?_eq_getElem hr]; rfl
  unfold mostOf
  rw [e]
  have := hh.rank _ (List.getElem_mem hr)
  omega
/-- what stairs tell -/
def stairsD (h : Hall) (up : Nat → List (Int × Int)) (r : Nat) : D := if anyBar h.ranks.length up then .none else .list (encS (down (mostOf h r) (up r)))
theorem stairs_ok {h : Hall} (hh : h.Ok 4 3) {B : List (List (Option Nat))} (hB : BookOk h B) {r : Nat} (hr : r < h.ranks.length) : F_stairs [encH h, encBk B, .tuple [], .int r] = some (stairsD h (upR h B) r) := by
  have t2 := hB.t2
  have c1 := need_written_ok hh hB
  have c2 := need_rank_ok hh hr
  have c3 := steps_of_ok (all_up_B hh hB) (upR_ne hB.t1) (fun r => by have := upR_len (h := h) (B := B) r; omega) hr (by have := mostOf_pos hh hr; omega)
  unfold F_stairs
  rw [show envOf ["hall", "book", "looks", "rank", "columns"] [encH h, encBk B, .tuple [], .int r] = [some (SV.fz (encH h)), some (SV.fz (encBk B)), some (SV.fz (.tuple [])), some (SV.fz (.int r)), none] from rfl]
  unfold stairsD
  apply ev_outF
  unfold B_stairs
  sizeOf_list_dec
theorem stepsUp_chain {most : Int} (hm : 0 ≤ most) : ∀ (l : List (Int × Option Int)) (low high : Int), barredB (stepsUp most low high l) = false → Chain most low high (stepsUp most low high l)
  | [], _, _, _ => trivial
  | p :: l, low, high, h => by
    rw [stepsUp] at h ⊢
    have l1 : low ≤ loP low p.1 := by unfold loP; split <;> omega
    have h1 : hiP most high p.2 ≤ high + most := by
      cases p.2 with
      | none => exact Int.le_refl _
      | some x => simp only [hiP]; split <;> omega
    by_cases hc : loP low p.1 > hiP most high p.2
    · rw [if_pos hc] at h
      simp [barredB] at h
      omega
    · rw [if_neg hc] at h ⊢
      refine ⟨l1, h1, by omega, ?_⟩
      cases hl : stepsUp most (loP low p.1) (hiP most high p.2) l with
      | nil => trivial
      | cons q t =>
        rw [← hl]
        refine stepsUp_chain hm l _ _ ?_
        rw [hl] at h ⊢
        unfold barredB at h ⊢
        rw [List.getLast?_cons_cons] at h
        exact h
theorem Chain.bound {most : Int} (hm : 0 ≤ most) : ∀ {s : List (Int × Int)} {l h : Int}, Chain most l h s → ∀ p ∈ s, l ≤ p.1 ∧ p.1 ≤ p.2 ∧ p.2 ≤ h + most * s.length
  | [], _, _, _, p, hp => by simp at hp
  | q :: s, l, h, ⟨c1, c2, c3, c4⟩, p, hp => by
    rw [List.length_cons, Int.natCast_add, Int.mul_add]
    have h0 : 0 ≤ most * (s.length : Int) := Int.mul_nonneg hm (by omega)
    rcases List.mem_cons.mp hp with e | e
    · subst e
      exact ⟨c1, c3, by simp; omega⟩
    · obtain ⟨k1, k2, k3⟩ := Chain.bound hm c4 p e
      exact ⟨by omega, k2, by simp; omega⟩
theorem anyBar_false {n : Nat} {up : Nat → List (Int × Int)} (h : anyBar n up = false) {r : Nat} (hr : r < n) : barredB (up r) = false := by
  unfold anyBar at h
  rw [List.any_eq_false] at h
  simpa using h r (List.mem_range.mpr hr)
theorem down_ne {most : Int} {s : List (Int × Int)} (h : s ≠ []) : down most s ≠ [] := by
  intro e
  have := down_len most s
  rw [e] at this
  exact h (List.length_eq_zero_iff.mp this.symm)
theorem stepsOk_of {m : Int} (h1 : 1 ≤ m) (h5 : m ≤ 5) {s : List (Int × Int)} (hc : Chain m 0 0 s) (hl : s.length ≤ 40) (hn : s ≠ []) : StepsOk m.toNat (down m s) := by
  have hd := (down_chain (by omega) hc (Int.le_refl 0)).1
  have e : ((m.toNat : Nat) : Int) = m := Int.toNat_of_nonneg (by omega)
  have b := Chain.bound (by omega) hd
  rw [down_len] at b
  have hmul : m * (s.length : Int) ≤ 5 * 40 := Int.mul_le_mul h5 (by omega) (by omega) (by decide)
  exact ⟨by omega, by rw [e]; exact hd, fun p hp => by obtain ⟨b1, b2, b3⟩ := b p hp; omega, by rw [down_len]; exact hl, down_ne hn⟩
/-- how many comings do -/
def howMany (h : Hall) (up : Nat → List (Int × Int)) : Int := if anyBar h.ranks.length up then 0 else prodW ((downsOf h up).zip h.ranks) 1
theorem upR_ok {h : Hall} (hh : h.Ok 4 3) {B : List (List (Option Nat))} (hB : BookOk h B) {r : Nat} (hr : r < h.ranks.length) (hb : barredB (upR h B r) = false) : StepsOk (mostOf h r).toNat (down (mostOf h r) (upR h B r)) := by
  have hm := mostOf_pos hh hr
  exact stepsOk_of hm.1 hm.2 (stepsUp_chain (by omega) _ _ _ hb) (by have := upR_len (h := h) (B := B) r; have := hB.t2; omega) (upR_ne hB.t1 r)
theorem how_many_ok {h : Hall} (hh : h.Ok 4 3) {B : List (List (Option Nat))} (hB : BookOk h B) : F_how_many [encH h, encBk B, .tuple []] = some (.int (howMany h (upR h B))) := by
  have t2 := hB.t2
  have c1 := need_written_ok hh hB
  have c3 := all_steps_ok hh.r2 (all_up_B hh hB) (upR_ne hB.t1) (fun r => by have := upR_len (h := h) (B := B) r; omega) (fun p hp => by have := hh.rank p hp; omega)
  unfold F_how_many
  rw [show envOf ["hall", "book", "looks", "columns", "every"] [encH h, encBk B, .tuple []] = [some (SV.fz (encH h)), some (SV.fz (encBk B)), some (SV.fz (.tuple [])), none, none] from rfl]
  unfold howMany
  cases hb : anyBar h.ranks.length (upR h B) with
  | true =>
    rw [hb, if_pos rfl] at c3
    rw [if_pos rfl]
    apply ev_outF
    unfold B_how_many
    sizeOf_list_dec
  | false =>
    rw [hb, if_neg (by decide)] at c3
    rw [if_neg (by decide)]
    have c4 := all_comings_ok (h := h) (every := downsOf h (upR h B)) hh.r2 (fun p hp => by
      unfold downsOf at hp
      rw [zip_range] at hp
      obtain ⟨i, hi, rfl⟩ := List.getElem_of_mem hp
      have hi2 : i < h.ranks.length := by simpa using hi
      rw [List.getElem_mapIdx]
      have ok := upR_ok hh hB hi2 (anyBar_false hb hi2)
      have hm := mostOf_pos hh hi2
      have e : (h.ranks[i]).1 = mostOf h i := by unfold mostOf; rw [List.getD_eq_getElem?_getD, List.getElem?_eq_getElem hi2]; rfl
      rw [e]
      exact ⟨by omega, ok⟩)
    apply ev_outF
    unfold B_how_many
    sizeOf_list_dec
/-- how many rows of a rank are had -/
def howManyOf (h : Hall) (up : Nat → List (Int × Int)) (r : Nat) : Int := if anyBar h.ranks.length up then 0 else allWays (mostOf h r).toNat (down (mostOf h r) (up r))
theorem how_many_of_ok {h : Hall} (hh : h.Ok 4 3) {B : List (List (Option Nat))} (hB : BookOk h B) {r : Nat} (hr : r < h.ranks.length) : F_how_many_of [encH h, encBk B, .tuple [], .int r] = some (.int (howManyOf h (upR h B) r)) := by
  have t2 := hB.t2
  have c1 := need_written_ok hh hB
  have c2 := need_rank_ok hh hr
  have c3 := steps_of_ok (all_up_B hh hB) (upR_ne hB.t1) (fun r => by have := upR_len (h := h) (B := B) r; omega) hr (by have := mostOf_pos hh hr; omega)
  unfold F_how_many_of
  rw [show envOf ["hall", "book", "looks", "rank", "columns", "steps"] [encH h, encBk B, .tuple [], .int r] = [some (SV.fz (encH h)), some (SV.fz (encBk B)), some (SV.fz (.tuple [])), some (SV.fz (.int r)), none, none] from rfl]
  unfold howManyOf
  cases hb : anyBar h.ranks.length (upR h B) with
  | true =>
    rw [hb, if_pos rfl] at c3
    rw [if_pos rfl]
    apply ev_outF
    unfold B_how_many_of
    sizeOf_list_dec
  | false =>
    rw [hb, if_neg (by decide)] at c3
    rw [if_neg (by decide)]
    have ok := upR_ok hh hB hr (anyBar_false hb hr)
    have hm := mostOf_pos hh hr
    have c4 := all_ways_ok ok.m ok.c (fun q hq => (ok.b q hq).2) (by have := ok.l; omega) ok.n
    rw [Int.toNat_of_nonneg (by omega)] at c4
    have g2 : gIx (.tuple (h.ranks.map encR)) (.int r) = some (encR (h.ranks.getD r (0, 0))) := gIx_tn (by rw [List.getElem?_map, List.getElem?_eq_getElem hr, List.getD_eq_getElem?_getD, List.getElem?_eq_getElem hr]; rfl)
    unfold mostOf at c3 c4 ⊢
    apply ev_outF
    unfold B_how_many_of
    sizeOf_list_dec
end Dn

set_option maxHeartbeats 1000000
/-! N4: a book of own comings is one, and is never barred. -/
namespace Dn
open PySem PySem.Spec PyProof.Rows L2
theorem bhd_over {n r : Nat} : (fun x => ((4 : Int) :: bhd n r).contains x) = overP n r := by
  funext x
  unfold overP
  rw [List.contains_cons]
  congr 1
  unfold bhd
  rw [Bool.eq_iff_iff]
  simp only [List.contains_iff_mem, List.mem_map, List.mem_range, Bool.and_eq_true, decide_eq_true_eq]
  constructor
  · rintro ⟨i, hi, rfl⟩
    omega
  · intro ⟨h1, h2⟩
    exact ⟨(x - (r + 1)).toNat, by omega, by omega⟩
theorem colOk_run {stays desk : List Int} (f : Nat → Option Nat) (F : Nat → Int) (h : ∀ k, F (k + 1) = (match f k with | some r => (k : Int) + stays.getD r 0 | none => F k)) (ho : ∀ k r, f k = some r → F k ≤ (k : Int) ∧ desk.contains (r : Int) = true ∧ r < stays.length) : ∀ (len k0 : Nat), ColOk stays desk (F k0) k0 ((List.range' k0 len).map f)
  | 0, _ => trivial
  | len + 1, k0 => by
    rw [List.range'_succ, List.map_cons]
    have ih := colOk_run f F h ho len (k0 + 1)
    have hk := h k0
    cases hf : f k0 with
    | some r =>
      rw [hf] at hk
      obtain ⟨o1, o2, o3⟩ := ho k0 r hf
      rw [hk] at ih
      exact ⟨o1, o2, o3, ih⟩
    | none =>
      rw [hf] at hk
      rw [hk] at ih
      exact ih
section
variable {h : Hall} {coms : List (List Int)}
theorem runOf_B : (runOf h coms).B = (List.range coms.length).map fun i => (List.range h.desks.length).map (whoK h.ranks h.ranks.length h.desks coms i) := sK_B h.ranks h.ranks.length h.desks coms coms.length
theorem colOf_run {j : Nat} (hj : j < h.desks.length) : colOf (runOf h coms).B j = (List.range coms.length).map fun k => whoK h.ranks h.ranks.length h.desks coms k j := by
  unfold colOf
  rw [runOf_B, List.map_map]
  refine List.map_congr_left fun i _ => ?_
  simp [List.getD_eq_getElem?_getD, List.getElem?_range hj]
theorem runOf_len : (runOf h coms).B.length = coms.length := by rw [runOf_B]; simp
theorem run_book (hT : 1 ≤ coms.length) (hT2 : coms.length ≤ 40) : BookOk h (runOf h coms).B := by
  refine ⟨by rw [runOf_len]; exact hT, by rw [runOf_len]; exact hT2, ?_, fun j hj => ?_⟩
  · intro row hrow
    rw [runOf_B] at hrow
    obtain ⟨i, _, rfl⟩ := List.mem_map.mp hrow
    simp
  · rw [colOf_run hj]
    have := colOk_run (stays := h.ranks.map (·.2)) (desk := h.desks.getD j []) (fun k => whoK h.ranks h.ranks.length h.desks coms k j) (fun k => freeK h.ranks h.ranks.length h.desks coms k j) (fun k => by
      rw [freeK_succ h.ranks h.ranks.length h.desks coms k j hj]
      cases whoK h.ranks h.ranks.length h.desks coms k j with
      | none => rfl
      | some r => simp only [stays_getD]) (fun k r hr => by
      obtain ⟨o1, o2, o3⟩ := who_own hr
      exact ⟨o1, o3, by simpa using o2⟩) coms.length 0
    rw [freeK_0, ← List.range_eq_range'] at this
    exact this
theorem own_rows {r : Nat} : colRows (ownCols (turnsT h (runOf h coms).B) h.desks r) coms.length = ownRows h.ranks h.ranks.length h.desks coms r coms.length := by
  have ht : turnsT h (runOf h coms).B = (List.range h.desks.length).map fun j => (List.range coms.length).map fun (k : Nat) => turnv (freeK h.ranks h.ranks.length h.desks coms k j) k (whoK h.ranks h.ranks.length h.desks coms k j) := by
    unfold turnsT colsOf
    rw [List.map_map]
    refine List.map_congr_left fun j hj => ?_
    show turnsP _ 0 0 (colOf _ j) = _
    rw [colOf_run (List.mem_range.mp hj), turns_run _ _ _ _ _ _ (List.mem_range.mp hj)]
  have hz : (turnsT h (runOf h coms).B).zip h.desks = (List.range h.desks.length).map fun j => ((List.range coms.length).map fun (k : Nat) => turnv (freeK h.ranks h.ranks.length h.desks coms k j) k (whoK h.ranks h.ranks.length h.desks coms k j), h.desks.getD j []) := by
    rw [ht]
    refine List.ext_getElem (by simp) fun i h1 h2 => ?_
    have hi : i < h.desks.length := by simpa using h2
    simp [List.getD_eq_getElem?_getD, List.getElem?_eq_getElem hi]
  unfold ownCols ownRows colRows
  rw [hz, List.filter_map, List.map_map]
  refine List.map_congr_left fun k hk => ?_
  rw [List.map_map]
  refine List.map_congr_left fun j _ => ?_
  simp [List.getD_eq_getElem?_getD, List.getElem?_range (List.mem_range.mp hk)]
theorem toldR_run {r : Nat} : toldR h (runOf h coms).B r = tell (overP h.ranks.length r) r 0 (ownRows h.ranks h.ranks.length h.desks coms r coms.length) := by
  unfold toldR
  rw [bhd_over, runOf_len, own_rows]
theorem arr_step (hrow : ∀ row ∈ coms, RowOk h.ranks row) {r : Nat} (hr : r < h.ranks.length) {k : Nat} (hk : k < coms.length) : (coms.getD k []).length = h.ranks.length ∧ 0 ≤ (coms.getD k []).getD r 0 ∧ (coms.getD k []).getD r 0 ≤ mostOf h r := by
  have e : coms.getD k [] = coms[k] := by rw [List.getD_eq_getElem?_getD, List.getElem?_eq_getElem hk]; rfl
  obtain ⟨h1, h2⟩ := hrow _ (List.getElem_mem hk)
  rw [e]
  refine ⟨h1, ?_⟩
  have hr2 : r < coms[k].length := by omega
  have e2 : coms[k].getD r 0 = coms[k][r] := by rw [List.getD_eq_getElem?_getD, List.getElem?_eq_getElem hr2]; rfl
  have e3 : mostOf h r = (h.ranks[r]).1 := by unfold mostOf; rw [List.getD_eq_getElem?_getD, List.getElem?_eq_getElem hr]; rfl
  rw [e2, e3]
  exact h2 r _ _ (List.getElem?_eq_getElem hr2) (List.getElem?_eq_getElem hr)
/-- the own comings lie between the steps -/
theorem up_run (hn : h.ranks.length ≤ 4) (hrow : ∀ row ∈ coms, RowOk h.ranks row) {r : Nat} (hr : r < h.ranks.length) :
    (upR h (runOf h coms).B r).length = coms.length ∧ Chain (mostOf h r) 0 0 (upR h (runOf h coms).B r) ∧ ∀ (k : Nat) (p : Int × Int), (upR h (runOf h coms).B r)[k]? = some p → p.1 ≤ arrN coms r (k + 1) ∧ arrN coms r (k + 1) ≤ p.2 := by
  have hl : (toldR h (runOf h coms).B r).length = coms.length := by rw [toldR_len, runOf_len]
  have := stepsUp_sound (most := mostOf h r) (toldR h (runOf h coms).B r) 0 0 (arrN coms r) (Int.le_refl 0) (Int.le_refl 0) (fun k hk => by
    rw [hl] at hk
    obtain ⟨_, h1, h2⟩ := arr_step hrow hr hk
    rw [arrN]
    omega) (fun k p hp => by
    have hk : k < coms.length := by rw [← hl]; exact (List.getElem?_eq_some_iff.mp hp).1
    rw [toldR_run] at hp
    obtain ⟨q, h1, h2⟩ := told_run (rs := h.ranks) (n := h.ranks.length) (desks := h.desks) (coms := coms) hr hn (fun k hk => (arr_step hrow hr hk).1) (fun k hk => (arr_step hrow hr hk).2.1) k hk
    rw [h1] at hp
    cases hp
    have := wl_nn (sK h.ranks h.ranks.length h.desks coms (k + 1)).W r
    refine ⟨by simp only; omega, fun x hx => ?_⟩
    rcases h2 with e | e
    · rw [e] at hx; cases hx
    · rw [e] at hx; cases hx; exact Int.le_refl _)
  rw [hl] at this
  exact this
theorem barredB_chain {most l h : Int} {s : List (Int × Int)} (hc : Chain most l h s) : barredB s = false := by
  unfold barredB
  cases hs : s.getLast? with
  | none => rfl
  | some p =>
    have := hc.last p hs
    simp
    omega
theorem run_free (hn : h.ranks.length ≤ 4) (hrow : ∀ row ∈ coms, RowOk h.ranks row) : anyBar h.ranks.length (upR h (runOf h coms).B) = false := by
  unfold anyBar
  rw [List.any_eq_false]
  intro r hr
  rw [barredB_chain (up_run hn hrow (List.mem_range.mp hr)).2.1]
  decide
end
end Dn

set_option maxHeartbeats 1000000
/-! N5: halls with a rank more. -/
namespace Dn
open PySem PySem.Spec PyProof.Rows L2
theorem tellStep_sim {over over' : Int → Bool} {r r' x y : Int} (h1 : y = r' ↔ x = r) (h2 : over' y = over x) (s : Int × Option Int) : tellStep over' r' s y = tellStep over r s x := by
  unfold tellStep
  rw [h2]
  by_cases e : x = r
  · rw [if_pos e, if_pos (h1.mpr e)]
  · rw [if_neg e, if_neg (fun z => e (h1.mp z))]
theorem tellRow_sim {over over' : Int → Bool} {r r' : Int} {f : Int → Int} {row : List Int} (h : ∀ x ∈ row, (f x = r' ↔ x = r) ∧ over' (f x) = over x) (g : Int) : tellRow over' r' g (row.map f) = tellRow over r g row := by
  unfold tellRow
  obtain ⟨s, hs⟩ : ∃ s : Int × Option Int, (g, none) = s := ⟨_, rfl⟩
  rw [hs]
  clear hs
  induction row generalizing s with
  | nil => rfl
  | cons x row ih =>
    rw [List.map_cons, List.foldl_cons, List.foldl_cons, tellStep_sim (h x (by simp)).1 (h x (by simp)).2]
    exact ih (fun y hy => h y (by simp [hy])) _
theorem tell_sim {over over' : Int → Bool} {r r' : Int} {f : Int → Int} : ∀ {rows : List (List Int)} (g : Int), (∀ row ∈ rows, ∀ x ∈ row, (f x = r' ↔ x = r) ∧ over' (f x) = over x) → tell over' r' g (rows.map (List.map f)) = tell over r g rows
  | [], _, _ => rfl
  | row :: rows, g, h => by
    rw [List.map_cons, tell, tell, tellRow_sim (h row (by simp)), tell_sim _ fun q hq => h q (by simp [hq])]
theorem colRows_map {f : Int → Int} {cols : List (List Int)} {T : Nat} (h : ∀ c ∈ cols, c.length = T) : colRows (cols.map (List.map f)) T = (colRows cols T).map (List.map f) := by
  unfold colRows
  rw [List.map_map]
  refine List.map_congr_left fun k hk => ?_
  have hk := List.mem_range.mp hk
  show (cols.map (List.map f)).map _ = (cols.map _).map f
  rw [List.map_map, List.map_map]
  refine List.map_congr_left fun c hc => ?_
  have := h c hc
  simp only [Function.comp, List.getD_eq_getElem?_getD, List.getElem?_map]
  rw [List.getElem?_eq_getElem (by omega)]
  rfl
theorem colRows_mem {cols : List (List Int)} {T : Nat} (h : ∀ c ∈ cols, c.length = T) : ∀ row ∈ colRows cols T, ∀ x ∈ row, ∃ c ∈ cols, x ∈ c := by
  intro row hrow x hx
  unfold colRows at hrow
  obtain ⟨k, hk, rfl⟩ := List.mem_map.mp hrow
  obtain ⟨c, hc, rfl⟩ := List.mem_map.mp hx
  have hk := List.mem_range.mp hk
  have := h c hc
  refine ⟨c, hc, ?_⟩
  rw [List.getD_eq_getElem?_getD, List.getElem?_eq_getElem (by omega)]
  exact List.getElem_mem _
theorem turnsP_mem {stays : List Int} : ∀ {col : List (Option Nat)} {free : Int} {k : Nat} {x : Int}, x ∈ turnsP stays free k col → x = 4 ∨ x = -1 ∨ ∃ r, some r ∈ col ∧ x = (r : Int)
  | [], _, _, _, h => by simp [turnsP] at h
  | some r :: col, _, _, x, h => by
    rw [turnsP] at h
    rcases List.mem_cons.mp h with e | e
    · exact .inr (.inr ⟨r, by simp, e⟩)
    · rcases turnsP_mem e with a | a | ⟨q, a, b⟩
      · exact .inl a
      · exact .inr (.inl a)
      · exact .inr (.inr ⟨q, by simp [a], b⟩)
  | none :: col, free, k, x, h => by
    rw [turnsP] at h
    rcases List.mem_cons.mp h with e | e
    · split at e
      · exact .inr (.inl e)
      · exact .inl e
    · rcases turnsP_mem e with a | a | ⟨q, a, b⟩
      · exact .inl a
      · exact .inr (.inl a)
      · exact .inr (.inr ⟨q, by simp [a], b⟩)
/-- a turn of a hall of n ranks -/
def Turn (n : Nat) (x : Int) : Prop := x = 4 ∨ x = -1 ∨ (0 ≤ x ∧ x < n)
theorem turnsT_turn {h : Hall} {B : List (List (Option Nat))} (hB : BookOk h B) : ∀ c ∈ turnsT h B, ∀ x ∈ c, Turn h.ranks.length x := by
  intro c hc x hx
  unfold turnsT colsOf at hc
  rw [List.map_map] at hc
  obtain ⟨j, hj, rfl⟩ := List.mem_map.mp hc
  rcases turnsP_mem hx with e | e | ⟨q, e1, e2⟩
  · exact .inl e
  · exact .inr (.inl e)
  · have := (hB.c j (List.mem_range.mp hj)).lt q e1
    rw [List.length_map] at this
    exact .inr (.inr ⟨by omega, by omega⟩)
theorem ownCols_mem {turns desks : List (List Int)} {r : Int} : ∀ c ∈ ownCols turns desks r, c ∈ turns := by
  intro c hc
  unfold ownCols at hc
  obtain ⟨p, hp, rfl⟩ := List.mem_map.mp hc
  exact (List.of_mem_zip (List.mem_filter.mp hp).1).1
/-- ranks of two halls that are told alike -/
theorem upR_sim {h h' : Hall} {B B' : List (List (Option Nat))} (hB : BookOk h B) {r r' : Nat} {f : Int → Int} (hl : B'.length = B.length) (hm : mostOf h' r' = mostOf h r)
    (hc : ownCols (turnsT h' B') h'.desks r' = (ownCols (turnsT h B) h.desks r).map (List.map f)) (hf : ∀ x, Turn h.ranks.length x → (f x = (r' : Int) ↔ x = (r : Int)) ∧ overP h'.ranks.length r' (f x) = overP h.ranks.length r x) : upR h' B' r' = upR h B r := by
  have hT : ∀ c ∈ ownCols (turnsT h B) h.desks r, c.length = B.length := fun c hc => turnsT_mem c (ownCols_mem c hc)
  unfold upR toldR
  rw [bhd_over, bhd_over, hm, hl, hc, colRows_map hT, tell_sim (over := overP h.ranks.length r) (r := r)]
  intro row hrow x hx
  obtain ⟨c, hc, hxc⟩ := colRows_mem hT row hrow x hx
  exact hf x (turnsT_turn hB c (ownCols_mem c hc) x hxc)
theorem contains_shift (d : List Int) (r : Nat) : (d.map (· + 1)).contains ((r + 1 : Nat) : Int) = d.contains (r : Int) := by
  rw [Bool.eq_iff_iff]
  simp only [List.contains_iff_mem, List.mem_map]
  constructor
  · rintro ⟨a, ha, e⟩
    have : a = (r : Int) := by omega
    exact this ▸ ha
  · intro h
    exact ⟨_, h, by omega⟩
def sh (x : Int) : Int := if x = 4 ∨ x = -1 then x else x + 1
theorem turnsP_shift {stays : List Int} {s : Int} : ∀ {col : List (Option Nat)} {free : Int} {k : Nat}, (∀ r, some r ∈ col → r < 3) → turnsP (s :: stays) free k (col.map (Option.map (· + 1))) = (turnsP stays free k col).map sh
  | [], _, _, _ => rfl
  | some r :: col, free, k, h => by
    have hr := h r (by simp)
    rw [List.map_cons, Option.map_some, turnsP, turnsP, List.map_cons, List.getD_cons_succ, turnsP_shift fun q hq => h q (by simp [hq])]
    congr 1
    unfold sh
    rw [if_neg (by omega)]
    omega
  | none :: col, free, k, h => by
    rw [List.map_cons, Option.map_none, turnsP, turnsP, List.map_cons, turnsP_shift fun q hq => h q (by simp [hq])]
    congr 1
    unfold sh
    split <;> simp
theorem getD_map_opt {α β : Type} (g : α → β) (row : List (Option α)) (j : Nat) : (row.map (Option.map g)).getD j none = Option.map g (row.getD j none) := by
  simp only [List.getD_eq_getElem?_getD, List.getElem?_map]
  cases row[j]? <;> rfl
/-- with a rank more, ahead of all -/
def hallF (h : Hall) (by' : Int × Int) : Hall := ⟨by' :: h.ranks, h.desks.map (List.map (· + 1))⟩
def bookF (B : List (List (Option Nat))) : List (List (Option Nat)) := B.map (List.map (Option.map (· + 1)))
theorem colOf_F (B : List (List (Option Nat))) (j : Nat) : colOf (bookF B) j = (colOf B j).map (Option.map (· + 1)) := by
  unfold colOf bookF
  rw [List.map_map, List.map_map]
  exact List.map_congr_left fun row _ => getD_map_opt _ row j
theorem colOk_F {stays desk : List Int} {s : Int} : ∀ {col : List (Option Nat)} {free : Int} {k : Nat}, ColOk stays desk free k col → ColOk (s :: stays) (desk.map (· + 1)) free k (col.map (Option.map (· + 1)))
  | [], _, _, _ => trivial
  | some r :: col, _, _, ⟨h1, h2, h3, h4⟩ => ⟨h1, by rw [contains_shift]; exact h2, by simpa using h3, by rw [List.getD_cons_succ]; exact colOk_F h4⟩
  | none :: col, _, _, h => colOk_F (col := col) h
theorem getD_map_desk (desks : List (List Int)) (j : Nat) (hj : j < desks.length) : (desks.map (List.map (· + 1))).getD j [] = (desks.getD j []).map (· + 1) := by
  simp [List.getD_eq_getElem?_getD, List.getElem?_eq_getElem hj]
theorem bookF_ok {h : Hall} {B : List (List (Option Nat))} (hB : BookOk h B) (by' : Int × Int) : BookOk (hallF h by') (bookF B) := by
  refine ⟨by simpa [bookF] using hB.t1, by simpa [bookF] using hB.t2, ?_, fun j hj => ?_⟩
  · intro row hrow
    unfold bookF at hrow
    obtain ⟨q, hq, rfl⟩ := List.mem_map.mp hrow
    simpa [hallF] using hB.w q hq
  · have hj' : j < h.desks.length := by simpa [hallF] using hj
    rw [colOf_F]
    unfold hallF
    simp only [List.map_cons]
    rw [getD_map_desk _ _ hj']
    exact colOk_F (hB.c j hj')
theorem turnsT_F {h : Hall} {B : List (List (Option Nat))} (hn : h.ranks.length ≤ 3) (hB : BookOk h B) (by' : Int × Int) : turnsT (hallF h by') (bookF B) = (turnsT h B).map (List.map sh) := by
  unfold turnsT colsOf
  rw [List.map_map, List.map_map, List.map_map]
  have e : (hallF h by').desks.length = h.desks.length := by simp [hallF]
  rw [e]
  refine List.map_congr_left fun j hj => ?_
  show turnsP ((by' :: h.ranks).map (·.2)) 0 0 (colOf (bookF B) j) = (turnsP (h.ranks.map (·.2)) 0 0 (colOf B j)).map sh
  rw [colOf_F, List.map_cons, turnsP_shift]
  intro r hr
  have := (hB.c j (List.mem_range.mp hj)).lt r hr
  rw [List.length_map] at this
  omega
theorem ownCols_F (turns desks : List (List Int)) (r : Nat) : ownCols (turns.map (List.map sh)) (desks.map (List.map (· + 1))) ((r + 1 : Nat) : Int) = (ownCols turns desks (r : Int)).map (List.map sh) := by
  unfold ownCols
  rw [List.zip_map, List.filter_map, List.map_map, List.map_map]
  have : ((fun p : List Int × List Int => p.2.contains ((r + 1 : Nat) : Int)) ∘ Prod.map (List.map sh) (List.map (· + 1))) = fun p => p.2.contains (r : Int) := by
    funext p
    exact contains_shift p.2 r
  rw [this]
  rfl
theorem upR_F {h : Hall} {B : List (List (Option Nat))} (hn : h.ranks.length ≤ 3) (hB : BookOk h B) (by' : Int × Int) {r : Nat} (hr : r < h.ranks.length) : upR (hallF h by') (bookF B) (r + 1) = upR h B r := by
  refine upR_sim hB (f := sh) (by simp [bookF]) (by simp [mostOf, hallF]) ?_ ?_
  · rw [turnsT_F hn hB]
    exact ownCols_F (turnsT h B) h.desks r
  · intro x hx
    have e : (hallF h by').ranks.length = h.ranks.length + 1 := by simp [hallF]
    rw [e]
    unfold sh overP
    rcases hx with rfl | rfl | ⟨h1, h2⟩
    · refine ⟨by simp; omega, by simp⟩
    · refine ⟨by simp; omega, ?_⟩
      rw [if_pos (.inr rfl), Bool.eq_iff_iff]
      simp
      omega
    · rw [if_neg (by omega)]
      refine ⟨by omega, ?_⟩
      rw [Bool.eq_iff_iff]
      simp
      omega
/-- .. behind all -/
def hallL (h : Hall) (by' : Int × Int) : Hall := ⟨h.ranks ++ [by'], h.desks⟩
theorem colOk_stays {stays desk s : List Int} : ∀ {col : List (Option Nat)} {free : Int} {k : Nat}, ColOk stays desk free k col → ColOk (stays ++ s) desk free k col
  | [], _, _, _ => trivial
  | some r :: col, _, _, ⟨h1, h2, h3, h4⟩ => ⟨h1, h2, by rw [List.length_append]; omega, by
    have e : (stays ++ s).getD r 0 = stays.getD r 0 := by simp only [List.getD_eq_getElem?_getD]; rw [List.getElem?_append_left h3]
    rw [e]
    exact colOk_stays h4⟩
  | none :: col, _, _, h => colOk_stays (col := col) h
theorem bookL_ok {h : Hall} {B : List (List (Option Nat))} (hB : BookOk h B) (by' : Int × Int) : BookOk (hallL h by') B := by
  refine ⟨hB.t1, hB.t2, hB.w, fun j hj => ?_⟩
  unfold hallL
  simp only [List.map_append]
  exact colOk_stays (hB.c j hj)
theorem turnsP_stays {stays s : List Int} : ∀ {col : List (Option Nat)} {free : Int} {k : Nat}, (∀ r, some r ∈ col → r < stays.length) → turnsP (stays ++ s) free k col = turnsP stays free k col
  | [], _, _, _ => rfl
  | some r :: col, free, k, h => by
    have hr := h r (by simp)
    have e : (stays ++ s).getD r 0 = stays.getD r 0 := by simp only [List.getD_eq_getElem?_getD]; rw [List.getElem?_append_left hr]
    rw [turnsP, turnsP, e, turnsP_stays fun q hq => h q (by simp [hq])]
  | none :: col, free, k, h => by
    rw [turnsP, turnsP, turnsP_stays fun q hq => h q (by simp [hq])]
theorem turnsT_L {h : Hall} {B : List (List (Option Nat))} (hB : BookOk h B) (by' : Int × Int) : turnsT (hallL h by') B = turnsT h B := by
  unfold turnsT colsOf
  rw [List.map_map, List.map_map]
  refine List.map_congr_left fun j hj => ?_
  show turnsP ((h.ranks ++ [by']).map (·.2)) 0 0 (colOf B j) = turnsP (h.ranks.map (·.2)) 0 0 (colOf B j)
  rw [List.map_append]
  exact turnsP_stays ((hB.c j (List.mem_range.mp hj)).lt)
theorem upR_L {h : Hall} {B : List (List (Option Nat))} (hn : h.ranks.length ≤ 3) (hB : BookOk h B) (by' : Int × Int) {r : Nat} (hr : r < h.ranks.length) : upR (hallL h by') B r = upR h B r := by
  refine upR_sim hB (f := id) rfl (by unfold mostOf hallL; simp only [List.getD_eq_getElem?_getD]; rw [List.getElem?_append_left hr]) ?_ ?_
  · rw [turnsT_L hB]
    rw [show (List.map id : List Int → List Int) = id from funext List.map_id, List.map_id]
    rfl
  · intro x hx
    have e : (hallL h by').ranks.length = h.ranks.length + 1 := by simp [hallL]
    rw [e]
    refine ⟨Iff.rfl, ?_⟩
    unfold overP
    rcases hx with rfl | rfl | ⟨h1, h2⟩
    · simp
    · rw [Bool.eq_iff_iff]
      simp
      omega
    · rw [Bool.eq_iff_iff]
      simp
      omega
end Dn

set_option maxHeartbeats 1000000
/-! N6: a rank that no desk takes; with a desk of its own. -/
namespace Dn
open PySem PySem.Spec PyProof.Rows L2
/-- with a desk more, for one rank alone, that stays free -/
def hallS (h : Hall) (m : Nat) : Hall := ⟨h.ranks, h.desks ++ [[(m : Int)]]⟩
def bookS (B : List (List (Option Nat))) : List (List (Option Nat)) := B.map (· ++ [none])
theorem colOf_S {h : Hall} {B : List (List (Option Nat))} (hw : ∀ row ∈ B, row.length = h.desks.length) {j : Nat} (hj : j < h.desks.length) : colOf (bookS B) j = colOf B j := by
  unfold colOf bookS
  rw [List.map_map]
  refine List.map_congr_left fun row hrow => ?_
  have := hw row hrow
  simp only [Function.comp, List.getD_eq_getElem?_getD]
  rw [List.getElem?_append_left (by omega)]
theorem colOf_S2 {h : Hall} {B : List (List (Option Nat))} (hw : ∀ row ∈ B, row.length = h.desks.length) : colOf (bookS B) h.desks.length = List.replicate B.length none := by
  unfold colOf bookS
  rw [List.map_map]
  refine List.ext_getElem (by simp) fun i h1 h2 => ?_
  have hi : i < B.length := by simpa using h2
  have := hw B[i] (List.getElem_mem hi)
  simp [List.getD_eq_getElem?_getD, ← this]
theorem colOk_nones {stays desk : List Int} : ∀ (n : Nat) (free : Int) (k : Nat), ColOk stays desk free k (List.replicate n none)
  | 0, _, _ => trivial
  | n + 1, free, k => colOk_nones n free (k + 1)
theorem bookS_ok {h : Hall} {B : List (List (Option Nat))} (hB : BookOk h B) (m : Nat) : BookOk (hallS h m) (bookS B) := by
  refine ⟨by simpa [bookS] using hB.t1, by simpa [bookS] using hB.t2, ?_, fun j hj => ?_⟩
  · intro row hrow
    unfold bookS at hrow
    obtain ⟨q, hq, rfl⟩ := List.mem_map.mp hrow
    simpa [hallS] using hB.w q hq
  · have hj' : j < h.desks.length + 1 := by simpa [hallS] using hj
    by_cases e : j = h.desks.length
    · subst e
      rw [colOf_S2 hB.w]
      exact colOk_nones _ _ _
    · rw [colOf_S hB.w (by omega)]
      have hd : (hallS h m).desks.getD j [] = h.desks.getD j [] := by
        unfold hallS
        simp only [List.getD_eq_getElem?_getD]
        rw [List.getElem?_append_left (by omega)]
      rw [hd]
      exact hB.c j (by omega)
theorem turnsP_nones {stays : List Int} : ∀ (n k : Nat), turnsP stays 0 k (List.replicate n none) = List.replicate n 4
  | 0, _ => rfl
  | n + 1, k => by
    rw [List.replicate_succ, List.replicate_succ, turnsP, turnsP_nones n (k + 1), if_neg (by omega)]
theorem turnsT_S {h : Hall} {B : List (List (Option Nat))} (hB : BookOk h B) (m : Nat) : turnsT (hallS h m) (bookS B) = turnsT h B ++ [List.replicate B.length 4] := by
  unfold turnsT colsOf
  have e : (hallS h m).desks.length = h.desks.length + 1 := by simp [hallS]
  rw [e, List.range_succ, List.map_append, List.map_append, List.map_map, List.map_map]
  congr 1
  · rw [List.map_map]
    refine List.map_congr_left fun j hj => ?_
    show turnsP _ 0 0 (colOf (bookS B) j) = turnsP _ 0 0 (colOf B j)
    rw [colOf_S hB.w (List.mem_range.mp hj)]
    rfl
  · show [turnsP _ 0 0 (colOf (bookS B) h.desks.length)] = _
    rw [colOf_S2 hB.w, turnsP_nones]
theorem ownCols_S {turns desks : List (List Int)} (hl : turns.length = desks.length) (c d : List Int) (r : Int) : ownCols (turns ++ [c]) (desks ++ [d]) r = ownCols turns desks r ++ (if d.contains r then [c] else []) := by
  unfold ownCols
  rw [List.zip_append hl, List.filter_append, List.map_append]
  congr 1
  simp only [List.zip_cons_cons, List.zip_nil_right, List.filter_cons, List.filter_nil]
  split <;> rfl
theorem upR_S {h : Hall} {B : List (List (Option Nat))} (hB : BookOk h B) {m r : Nat} (hr : r ≠ m) : upR (hallS h m) (bookS B) r = upR h B r := by
  refine upR_sim hB (f := id) (by simp [bookS]) rfl ?_ ?_
  · rw [turnsT_S hB]
    show ownCols _ (h.desks ++ [[(m : Int)]]) _ = _
    rw [ownCols_S (turnsT_len h B)]
    rw [if_neg (by simp; omega), List.append_nil]
    rw [show (List.map id : List Int → List Int) = id from funext List.map_id, List.map_id]
  · intro x _
    exact ⟨Iff.rfl, rfl⟩
theorem ownCols_none {turns desks : List (List Int)} {r : Int} (h : ∀ d ∈ desks, r ∉ d) : ownCols turns desks r = [] := by
  unfold ownCols
  rw [List.filter_eq_nil_iff.mpr]
  · rfl
  · intro p hp hc
    exact h _ (List.of_mem_zip hp).2 (by simpa using hc)
theorem tell_nones {over : Int → Bool} {r g : Int} : ∀ n, tell over r g (List.replicate n []) = List.replicate n (g, none)
  | 0 => rfl
  | n + 1 => by rw [List.replicate_succ, List.replicate_succ, tell, show tellRow over r g [] = (g, none) from rfl, tell_nones n]
theorem tell_fours {over : Int → Bool} {r g : Int} (hr : r ≠ 4) (ho : over 4 = true) : ∀ n, tell over r g (List.replicate n [4]) = List.replicate n (g, some g)
  | 0 => rfl
  | n + 1 => by
    have e : tellRow over r g [4] = (g, some g) := by
      unfold tellRow tellStep
      simp [ho, Ne.symm hr]
    rw [List.replicate_succ, List.replicate_succ, tell, e, tell_fours hr ho n]
theorem colRows_nil (T : Nat) : colRows [] T = List.replicate T [] := by
  unfold colRows
  refine List.ext_getElem (by simp) fun i h1 h2 => by simp
theorem colRows_fours (T : Nat) : colRows [List.replicate T 4] T = List.replicate T [4] := by
  unfold colRows
  refine List.ext_getElem (by simp) fun i h1 h2 => ?_
  have : i < T := by simpa using h2
  simp [List.getD_eq_getElem?_getD, this]
theorem stepsUp_nones {b : Int} (hb : 0 ≤ b) : ∀ (n k : Nat), stepsUp b 0 (b * k) (List.replicate n ((0 : Int), (none : Option Int))) = (List.range' (k + 1) n).map fun (t : Nat) => ((0 : Int), b * (t : Int))
  | 0, _ => rfl
  | n + 1, k => by
    have e : b * (k : Int) + b = b * ((k + 1 : Nat) : Int) := by rw [Int.natCast_add, Int.mul_add]; simp
    have e2 : 0 ≤ b * ((k + 1 : Nat) : Int) := Int.mul_nonneg hb (by omega)
    have e3 : loP 0 0 = 0 := by decide
    rw [List.replicate_succ, List.range'_succ, List.map_cons, stepsUp]
    simp only [hiP, e, e3]
    rw [if_neg (by omega), stepsUp_nones hb n (k + 1)]
theorem stepsUp_zeros {b : Int} (hb : 1 ≤ b) : ∀ (n : Nat), stepsUp b 0 0 (List.replicate n ((0 : Int), some (0 : Int))) = List.replicate n (0, 0)
  | 0 => rfl
  | n + 1 => by
    have e3 : loP 0 0 = 0 := by decide
    rw [List.replicate_succ, List.replicate_succ, stepsUp]
    simp only [hiP, e3]
    rw [if_pos (by omega), if_neg (by omega), stepsUp_zeros hb n]
theorem down_full {b : Int} (hb : 0 ≤ b) : ∀ (n k : Nat), down b ((List.range' (k + 1) n).map fun (t : Nat) => ((0 : Int), b * (t : Int))) = (List.range' (k + 1) n).map fun (t : Nat) => ((0 : Int), b * (t : Int))
  | 0, _ => rfl
  | n + 1, k => by
    rw [List.range'_succ, List.map_cons, down, down_full hb n (k + 1)]
    cases n with
    | zero => rfl
    | succ n =>
      rw [List.range'_succ, List.map_cons]
      have e : b * ((k + 1 + 1 : Nat) : Int) = b * ((k + 1 : Nat) : Int) + b := by rw [Int.natCast_add (k + 1) 1, Int.mul_add]; simp
      simp only [downHd]
      congr 2
      · split <;> omega
      · split <;> omega
theorem down_zeros {b : Int} (hb : 0 ≤ b) : ∀ (n : Nat), down b (List.replicate n ((0 : Int), (0 : Int))) = List.replicate n (0, 0)
  | 0 => rfl
  | n + 1 => by
    rw [List.replicate_succ, down, down_zeros hb n]
    cases n with
    | zero => rfl
    | succ n =>
      rw [List.replicate_succ]
      simp only [downHd]
      congr 2
      split <;> omega
/-- a rank that no desk takes -/
theorem upR_none {h : Hall} {B : List (List (Option Nat))} {m : Nat} (hd : ∀ d ∈ h.desks, (m : Int) ∉ d) (hm : 0 ≤ mostOf h m) : upR h B m = (List.range' 1 B.length).map fun (t : Nat) => ((0 : Int), mostOf h m * (t : Int)) := by
  unfold upR toldR
  rw [ownCols_none hd, colRows_nil, tell_nones]
  have := stepsUp_nones hm B.length 0
  simpa using this
theorem upR_shut {h : Hall} {B : List (List (Option Nat))} (hB : BookOk h B) {m : Nat} (hd : ∀ d ∈ h.desks, (m : Int) ∉ d) (hm : 1 ≤ mostOf h m) (m4 : m < 4) : upR (hallS h m) (bookS B) m = List.replicate B.length (0, 0) := by
  unfold upR toldR
  rw [turnsT_S hB]
  show stepsUp (mostOf h m) 0 0 (tell _ _ 0 (colRows (ownCols _ (h.desks ++ [[(m : Int)]]) _) _)) = _
  rw [ownCols_S (turnsT_len h B), ownCols_none hd, if_pos (by simp), List.nil_append]
  have e : (bookS B).length = B.length := by simp [bookS]
  rw [e, colRows_fours, tell_fours (by omega) (by simp), stepsUp_zeros hm]
theorem prodW_mul : ∀ (l : List (List (Int × Int) × (Int × Int))) (m : Int), prodW l m = m * prodW l 1
  | [], m => by simp [prodW]
  | p :: l, m => by
    have h1 := prodW_mul l (m * allWays p.2.1.toNat p.1)
    have h2 := prodW_mul l (1 * allWays p.2.1.toNat p.1)
    unfold prodW at h1 h2 ⊢
    rw [List.foldl_cons, List.foldl_cons, h1, h2, Int.one_mul, Int.mul_assoc]
theorem prodW_app (l : List (List (Int × Int) × (Int × Int))) (p : List (Int × Int) × (Int × Int)) (m : Int) : prodW (l ++ [p]) m = prodW l m * allWays p.2.1.toNat p.1 := by
  unfold prodW
  rw [List.foldl_append]
  rfl
theorem anyBar_iff {n : Nat} {up : Nat → List (Int × Int)} : anyBar n up = false ↔ ∀ r, r < n → barredB (up r) = false := by
  refine ⟨fun h r hr => anyBar_false h hr, fun h => ?_⟩
  unfold anyBar
  rw [List.any_eq_false]
  intro r hr
  rw [h r (List.mem_range.mp hr)]
  decide
theorem barred_full {b : Int} (hb : 0 ≤ b) (n : Nat) : barredB ((List.range' 1 n).map fun (t : Nat) => ((0 : Int), b * (t : Int))) = false := by
  unfold barredB
  cases h : ((List.range' 1 n).map fun (t : Nat) => ((0 : Int), b * (t : Int))).getLast? with
  | none => rfl
  | some p =>
    have := List.mem_of_getLast? h
    obtain ⟨t, _, rfl⟩ := List.mem_map.mp this
    have : 0 ≤ b * (t : Int) := Int.mul_nonneg hb (by omega)
    simp
    omega
theorem barred_zeros (n : Nat) : barredB (List.replicate n ((0 : Int), (0 : Int))) = false := by
  unfold barredB
  cases h : (List.replicate n ((0 : Int), (0 : Int))).getLast? with
  | none => rfl
  | some p =>
    have := List.eq_of_mem_replicate (List.mem_of_getLast? h)
    subst this
    rfl
theorem allWays_full (b T : Nat) : allWays b ((List.range' 1 T).map fun (t : Nat) => ((0 : Int), (b : Int) * (t : Int))) = ((b : Int) + 1) ^ T := by
  unfold allWays
  have := lastW_mine b T 0 [1] rfl
  rw [Nat.zero_add] at this
  rw [this]
  simp
theorem allWays_zeros (b T : Nat) : allWays b (List.replicate T ((0 : Int), (0 : Int))) = 1 := by
  unfold allWays
  rw [lastW_shut]
  rfl
end Dn

set_option maxHeartbeats 1000000
/-! N7: the wide hall, first or last; shut. -/
namespace Dn
open PySem PySem.Spec PyProof.Rows L2
def wideH (first : Bool) (h : Hall) (p : Int × Int) : Hall := if first then hallF h p else hallL h p
def wideB (first : Bool) (B : List (List (Option Nat))) : List (List (Option Nat)) := if first then bookF B else B
def mineN (first : Bool) (h : Hall) : Nat := if first then 0 else h.ranks.length
def shiftN (first : Bool) : Nat := if first then 1 else 0
section
variable {h : Hall} {B : List (List (Option Nat))} {p : Int × Int} (first : Bool)
theorem wide_len : (wideH first h p).ranks.length = h.ranks.length + 1 := by cases first <;> simp [wideH, hallF, hallL]
theorem wide_desks_len : (wideH first h p).desks.length = h.desks.length := by cases first <;> simp [wideH, hallF, hallL]
theorem wideB_len : (wideB first B).length = B.length := by cases first <;> simp [wideB, bookF]
theorem wide_book (hB : BookOk h B) : BookOk (wideH first h p) (wideB first B) := by
  cases first
  · exact bookL_ok hB p
  · exact bookF_ok hB p
theorem wide_mine_most : mostOf (wideH first h p) (mineN first h) = p.1 := by
  cases first
  · show (((h.ranks ++ [p]).getD h.ranks.length (0, 0))).1 = p.1
    simp [List.getD_eq_getElem?_getD]
  · rfl
theorem wide_most {r : Nat} (hr : r < h.ranks.length) : mostOf (wideH first h p) (r + shiftN first) = mostOf h r := by
  cases first
  · show (((h.ranks ++ [p]).getD r (0, 0))).1 = _
    unfold mostOf
    simp only [List.getD_eq_getElem?_getD]
    rw [List.getElem?_append_left hr]
  · rfl
theorem wide_up (hn : h.ranks.length ≤ 3) (hB : BookOk h B) {r : Nat} (hr : r < h.ranks.length) : upR (wideH first h p) (wideB first B) (r + shiftN first) = upR h B r := by
  cases first
  · exact upR_L hn hB p hr
  · exact upR_F hn hB p hr
theorem wide_no_desk (hh : h.Ok 3 2) : ∀ d ∈ (wideH first h p).desks, ((mineN first h : Nat) : Int) ∉ d := by
  cases first
  · intro d hd hc
    have := ((hh.desk d hd).2.2 _ hc).2
    simp [mineN] at this
  · intro d hd hc
    have hd : d ∈ h.desks.map (List.map (· + 1)) := hd
    obtain ⟨d0, h0, rfl⟩ := List.mem_map.mp hd
    obtain ⟨x, hx, e⟩ := List.mem_map.mp hc
    have := ((hh.desk d0 h0).2.2 _ hx).1
    simp [mineN] at e
    omega
theorem wide_hall (hh : h.Ok 3 2) (p1 : 1 ≤ p.1) (p5 : p.1 ≤ 5) (s1 : 1 ≤ p.2) (s10 : p.2 ≤ 10) : (wideH first h p).Ok 4 2 := by
  have r1 := hh.r1
  have r2 := hh.r2
  have k1 := hh.k1
  have k2 := hh.k2
  have hl := wide_len (h := h) (p := p) first
  have hd := wide_desks_len (h := h) (p := p) first
  refine ⟨by omega, by omega, by omega, by omega, ?_, ?_⟩
  · intro q hq
    have : q = p ∨ q ∈ h.ranks := by
      cases first
      · have hq : q ∈ h.ranks ++ [p] := hq
        rcases List.mem_append.mp hq with e | e
        · exact .inr e
        · exact .inl (List.mem_singleton.mp e)
      · have hq : q ∈ p :: h.ranks := hq
        rcases List.mem_cons.mp hq with e | e
        · exact .inl e
        · exact .inr e
    rcases this with rfl | e
    · exact ⟨p1, p5, s1, s10⟩
    · exact hh.rank q e
  · intro d hd'
    rw [hl]
    cases first
    · obtain ⟨a, b, c⟩ := hh.desk d hd'
      exact ⟨a, b, fun r hr => by have := c r hr; omega⟩
    · have hd' : d ∈ h.desks.map (List.map (· + 1)) := hd'
      obtain ⟨d0, h0, rfl⟩ := List.mem_map.mp hd'
      obtain ⟨a, b, c⟩ := hh.desk d0 h0
      refine ⟨by simpa using a, ?_, fun r hr => ?_⟩
      · rw [List.pairwise_map]
        exact List.Pairwise.imp (fun h => by omega) b
      · obtain ⟨x, hx, rfl⟩ := List.mem_map.mp hr
        have := c x hx
        omega
theorem Hall.Ok.mono {h : Hall} {R K R' K' : Nat} (hh : h.Ok R K) (h1 : R ≤ R') (h2 : K ≤ K') : h.Ok R' K' := ⟨hh.r1, Nat.le_trans hh.r2 h1, hh.k1, Nat.le_trans hh.k2 h2, hh.rank, hh.desk⟩
theorem mineN_lt : mineN first h < h.ranks.length + 1 := by cases first <;> simp [mineN]
theorem shut_hall (hw : (wideH first h p).Ok 4 2) : (hallS (wideH first h p) (mineN first h)).Ok 4 3 := by
  refine ⟨hw.r1, hw.r2, by simp [hallS], by have := hw.k2; simp [hallS]; omega, hw.rank, ?_⟩
  intro d hd
  have hd : d ∈ (wideH first h p).desks ++ [[((mineN first h : Nat) : Int)]] := hd
  rcases List.mem_append.mp hd with e | e
  · exact hw.desk d e
  · rw [List.mem_singleton.mp e]
    refine ⟨by simp, by simp, fun r hr => ?_⟩
    have := List.mem_singleton.mp hr
    have hl := wide_len (h := h) (p := p) first
    have hm := mineN_lt (h := h) first
    show 0 ≤ r ∧ r < ((wideH first h p).ranks.length : Int)
    omega
/-- all ranks of the wide hall: the one more, and the others -/
theorem rank_cases {r : Nat} (hr : r < h.ranks.length + 1) : r = mineN first h ∨ ∃ q, q < h.ranks.length ∧ r = q + shiftN first := by
  cases first
  · by_cases e : r = h.ranks.length
    · exact .inl e
    · exact .inr ⟨r, by omega, rfl⟩
  · cases r with
    | zero => exact .inl rfl
    | succ q => exact .inr ⟨q, by omega, rfl⟩
theorem shift_ne {r : Nat} (hr : r < h.ranks.length) : r + shiftN first ≠ mineN first h := by cases first <;> simp [mineN, shiftN] <;> omega
theorem wide_up_mine (hh : h.Ok 3 2) (p1 : 1 ≤ p.1) : upR (wideH first h p) (wideB first B) (mineN first h) = (List.range' 1 B.length).map fun (t : Nat) => ((0 : Int), p.1 * (t : Int)) := by
  have := upR_none (h := wideH first h p) (B := wideB first B) (m := mineN first h) (wide_no_desk first hh) (by rw [wide_mine_most]; omega)
  rw [wide_mine_most, wideB_len] at this
  exact this
theorem shut_up_mine (hh : h.Ok 3 2) (hB : BookOk h B) (p1 : 1 ≤ p.1) : upR (hallS (wideH first h p) (mineN first h)) (bookS (wideB first B)) (mineN first h) = List.replicate B.length (0, 0) := by
  have r2 := hh.r2
  have hm := mineN_lt (h := h) first
  have := upR_shut (h := wideH first h p) (B := wideB first B) (wide_book first hB) (m := mineN first h) (wide_no_desk first hh) (by rw [wide_mine_most]; omega) (by omega)
  rw [wideB_len] at this
  exact this
theorem shut_up (hn : h.ranks.length ≤ 3) (hB : BookOk h B) {r : Nat} (hr : r < h.ranks.length) : upR (hallS (wideH first h p) (mineN first h)) (bookS (wideB first B)) (r + shiftN first) = upR h B r :=
  (upR_S (wide_book first hB) (shift_ne first hr)).trans (wide_up first hn hB hr)
theorem wide_free (hh : h.Ok 3 2) (hB : BookOk h B) (p1 : 1 ≤ p.1) (hf : anyBar h.ranks.length (upR h B) = false) : anyBar (h.ranks.length + 1) (upR (wideH first h p) (wideB first B)) = false := by
  rw [anyBar_iff] at hf ⊢
  intro r hr
  rcases rank_cases first hr with rfl | ⟨q, hq, rfl⟩
  · rw [wide_up_mine first hh p1]
    exact barred_full (by omega) _
  · rw [wide_up first hh.r2 hB hq]
    exact hf q hq
theorem shut_free (hh : h.Ok 3 2) (hB : BookOk h B) (p1 : 1 ≤ p.1) (hf : anyBar h.ranks.length (upR h B) = false) : anyBar (h.ranks.length + 1) (upR (hallS (wideH first h p) (mineN first h)) (bookS (wideB first B))) = false := by
  rw [anyBar_iff] at hf ⊢
  intro r hr
  rcases rank_cases first hr with rfl | ⟨q, hq, rfl⟩
  · rw [shut_up_mine first hh hB p1]
    exact barred_zeros _
  · rw [shut_up first hh.r2 hB hq]
    exact hf q hq
/-- the product over a hall with a rank more -/
theorem prod_wide {up up' : Nat → List (Int × Int)} (e1 : ∀ q, q < h.ranks.length → up' (q + shiftN first) = up q) : prodW ((downsOf (wideH first h p) up').zip (wideH first h p).ranks) 1 = prodW ((downsOf h up).zip h.ranks) 1 * allWays p.1.toNat (down p.1 (up' (mineN first h))) := by
  cases first
  · have hd : downsOf (hallL h p) up' = downsOf h up ++ [down p.1 (up' h.ranks.length)] := by
      unfold downsOf
      have : (hallL h p).ranks.length = h.ranks.length + 1 := by simp [hallL]
      rw [this, List.range_succ, List.map_append]
      congr 1
      · refine List.map_congr_left fun q hq => ?_
        have hq := List.mem_range.mp hq
        have em := wide_most (h := h) (p := p) false hq
        have eu := e1 q hq
        simp only [shiftN, Bool.false_eq_true, if_false, Nat.add_zero] at em eu
        show down (mostOf (hallL h p) q) (up' q) = _
        rw [eu]
        rw [show mostOf (hallL h p) q = mostOf h q from em]
      · have em := wide_mine_most (h := h) (p := p) false
        show [down (mostOf (hallL h p) h.ranks.length) _] = _
        rw [show mostOf (hallL h p) h.ranks.length = p.1 from em]
    show prodW ((downsOf (hallL h p) up').zip (h.ranks ++ [p])) 1 = _
    rw [hd, List.zip_append (by simp [downsOf])]
    exact prodW_app _ _ _
  · have hd : downsOf (hallF h p) up' = down p.1 (up' 0) :: downsOf h up := by
      unfold downsOf
      have : (hallF h p).ranks.length = h.ranks.length + 1 := by simp [hallF]
      rw [this, List.range_succ_eq_map, List.map_cons, List.map_map]
      congr 1
      refine List.map_congr_left fun q hq => ?_
      have hq := List.mem_range.mp hq
      have eu := e1 q hq
      show down (mostOf (hallF h p) (q + 1)) (up' (q + 1)) = _
      rw [show up' (q + 1) = up q from eu]
      rfl
    show prodW ((downsOf (hallF h p) up').zip (p :: h.ranks)) 1 = _
    rw [hd, List.zip_cons_cons]
    show prodW (_ :: _) 1 = _
    unfold prodW
    rw [List.foldl_cons]
    have := prodW_mul ((downsOf h up).zip h.ranks) (1 * allWays p.1.toNat (down p.1 (up' 0)))
    unfold prodW at this
    rw [this, Int.one_mul, Int.mul_comm]
    rfl
theorem wide_many (hh : h.Ok 3 2) (hB : BookOk h B) (p1 : 1 ≤ p.1) (hf : anyBar h.ranks.length (upR h B) = false) : howMany (wideH first h p) (upR (wideH first h p) (wideB first B)) = howMany h (upR h B) * (p.1 + 1) ^ B.length := by
  unfold howMany
  rw [wide_len, wide_free first hh hB p1 hf, hf, if_neg (by decide), if_neg (by decide), prod_wide first (fun q hq => wide_up first hh.r2 hB hq), wide_up_mine first hh p1]
  congr 1
  have e : ((p.1.toNat : Nat) : Int) = p.1 := Int.toNat_of_nonneg (by omega)
  have hd := down_full (b := p.1) (by omega) B.length 0
  rw [Nat.zero_add] at hd
  rw [hd]
  have := allWays_full p.1.toNat B.length
  rw [e] at this
  exact this
theorem wide_many_of (hh : h.Ok 3 2) (hB : BookOk h B) (p1 : 1 ≤ p.1) (hf : anyBar h.ranks.length (upR h B) = false) : howManyOf (wideH first h p) (upR (wideH first h p) (wideB first B)) (mineN first h) = (p.1 + 1) ^ B.length := by
  unfold howManyOf
  rw [wide_len, wide_free first hh hB p1 hf, if_neg (by decide), wide_mine_most, wide_up_mine first hh p1]
  have e : ((p.1.toNat : Nat) : Int) = p.1 := Int.toNat_of_nonneg (by omega)
  have hd := down_full (b := p.1) (by omega) B.length 0
  rw [Nat.zero_add] at hd
  rw [hd]
  have := allWays_full p.1.toNat B.length
  rw [e] at this
  exact this
theorem wide_stairs_mine (hh : h.Ok 3 2) (hB : BookOk h B) (p1 : 1 ≤ p.1) (hf : anyBar h.ranks.length (upR h B) = false) : stairsD (wideH first h p) (upR (wideH first h p) (wideB first B)) (mineN first h) = .list (encS ((List.range' 1 B.length).map fun (t : Nat) => ((0 : Int), p.1 * (t : Int)))) := by
  unfold stairsD
  rw [wide_len, wide_free first hh hB p1 hf, if_neg (by decide), wide_mine_most, wide_up_mine first hh p1]
  have hd := down_full (b := p.1) (by omega) B.length 0
  rw [Nat.zero_add] at hd
  rw [hd]
theorem wide_stairs (hh : h.Ok 3 2) (hB : BookOk h B) (p1 : 1 ≤ p.1) (hf : anyBar h.ranks.length (upR h B) = false) {r : Nat} (hr : r < h.ranks.length) : stairsD (wideH first h p) (upR (wideH first h p) (wideB first B)) (r + shiftN first) = stairsD h (upR h B) r := by
  unfold stairsD
  rw [wide_len, wide_free first hh hB p1 hf, hf, wide_most first hr, wide_up first hh.r2 hB hr]
theorem shut_many (hh : h.Ok 3 2) (hB : BookOk h B) (p1 : 1 ≤ p.1) (hf : anyBar h.ranks.length (upR h B) = false) : howMany (hallS (wideH first h p) (mineN first h)) (upR (hallS (wideH first h p) (mineN first h)) (bookS (wideB first B))) = howMany h (upR h B) := by
  have hl : (hallS (wideH first h p) (mineN first h)).ranks.length = h.ranks.length + 1 := wide_len first
  unfold howMany
  rw [hl, shut_free first hh hB p1 hf, hf, if_neg (by decide), if_neg (by decide)]
  have := prod_wide (h := h) (p := p) first (up := upR h B) (up' := upR (hallS (wideH first h p) (mineN first h)) (bookS (wideB first B))) (fun q hq => shut_up first hh.r2 hB hq)
  rw [shut_up_mine first hh hB p1, down_zeros (by omega), allWays_zeros, Int.mul_one] at this
  exact this
theorem shut_stairs_mine (hh : h.Ok 3 2) (hB : BookOk h B) (p1 : 1 ≤ p.1) (hf : anyBar h.ranks.length (upR h B) = false) : stairsD (hallS (wideH first h p) (mineN first h)) (upR (hallS (wideH first h p) (mineN first h)) (bookS (wideB first B))) (mineN first h) = .list (encS (List.replicate B.length (0, 0))) := by
  have hl : (hallS (wideH first h p) (mineN first h)).ranks.length = h.ranks.length + 1 := wide_len first
  have hm : mostOf (hallS (wideH first h p) (mineN first h)) (mineN first h) = p.1 := wide_mine_most first
  unfold stairsD
  rw [hl, shut_free first hh hB p1 hf, if_neg (by decide), hm, shut_up_mine first hh hB p1, down_zeros (by omega)]
end
end Dn

set_option maxHeartbeats 1000000
/-! R11: the hall with a rank more, as the law makes it. -/
namespace Dn
open PySem PySem.Spec PyProof.Rows L2
theorem gAdd_tups {xs ys : List D} (h : xs.length + ys.length ≤ 100000) : gAdd (.tuple xs) (.tuple ys) = some (.tuple (xs ++ ys)) := by
  simp only [gAdd, gInt, gCat, gCatT]
  rw [if_pos h]
theorem rising_len : ∀ (d : List Int) (lo n : Int), d.Pairwise (· < ·) → lo ≤ n → (∀ r ∈ d, lo ≤ r ∧ r < n) → (d.length : Int) ≤ n - lo
  | [], lo, n, _, h, _ => by simp; omega
  | r :: d, lo, n, hp, h, hr => by
    obtain ⟨k3, k4⟩ := List.pairwise_cons.mp hp
    have h1 := hr r (by simp)
    have := rising_len d (r + 1) n k4 (by omega) fun q hq => ⟨by have := k3 q hq; omega, (hr q (by simp [hq])).2⟩
    rw [List.length_cons]
    omega
theorem moved_last {h : Hall} (hl : h.ranks.length ≤ 4) {b : D} (p : Int × Int) : F__law_moved [encH h, b, encR p, .bool false] = some (.tuple [encH (hallL h p), b]) := by
  have ha : gAdd (.tuple (h.ranks.map encR)) (.tuple [encR p]) = some (.tuple (h.ranks.map encR ++ [encR p])) := gAdd_tups (by simp; omega)
  have he : encH (hallL h p) = .tuple [.tuple (h.ranks.map encR ++ [encR p]), .tuple (h.desks.map fun d => .tuple (encI d))] := by
    unfold encH hallL
    rw [List.map_append]
    rfl
  unfold F__law_moved
  rw [he, show envOf ["hall", "book", "by", "first", "desks", "rows", "desk", "one", "row"] [encH h, b, encR p, .bool false] = [some (SV.fz (encH h)), some (SV.fz b), some (SV.fz (encR p)), some (SV.fz (.bool false)), none, none, none, none, none] from rfl]
  apply ev_outF
  unfold B__law_moved
  sizeOf_list_dec
theorem moved_first {h : Hall} (hh : h.Ok 3 2) {B : List (List (Option Nat))} (hB : BookOk h B) (p : Int × Int) : F__law_moved [encH h, encBk B, encR p, .bool true] = some (.tuple [encH (hallF h p), encBk (bookF B)]) := by
  have r2 := hh.r2
  have k2 := hh.k2
  have t2 := hB.t2
  have ha : gAdd (.tuple [encR p]) (.tuple (h.ranks.map encR)) = some (.tuple (encR p :: h.ranks.map encR)) := gAdd_tups (by simp; omega)
  have he : encH (hallF h p) = .tuple [.tuple (encR p :: h.ranks.map encR), .tuple (h.desks.map fun d => .tuple (encI (d.map (· + 1))))] := by
    unfold encH hallF
    simp only [List.map_cons, List.map_map, Function.comp_def]
  have hb : encBk (bookF B) = .tuple (B.map fun row => .tuple ((row.map (Option.map (· + 1))).map encO)) := by
    unfold encBk bookF
    rw [List.map_map]
    rfl
  have g1 := lcGo_mapE (tgt := CT__law_moved_1) (test := CC__law_moved_1) (elt := CE__law_moved_1) (vs := [6]) (e := wipeD [some (SV.fz (encH h)), some (SV.fz (encBk B)), some (SV.fz (encR p)), some (SV.fz (.bool true)), none, none, none, none, none] [6]) (fun d => PyData.tuple (encI d)) (fun d => .tuple (encI (d.map (· + 1)))) h.desks (fun d hd => by
    obtain ⟨a, b, c⟩ := hh.desk d hd
    have g := lcGo_mapE (tgt := CT__law_moved_2) (test := CC__law_moved_2) (elt := CE__law_moved_2) (vs := [7]) (e := wipeD [some (SV.fz (encH h)), some (SV.fz (encBk B)), some (SV.fz (encR p)), some (SV.fz (.bool true)), none, none, some (SV.fz (.tuple (encI d))), none, none] [7]) PyData.int (fun x => .int (x + 1)) d (fun x _ => ⟨_, _, _, rfl, rfl, mBin_ev (m := mVar 7) rfl rfl (gAdd_int x 1), rfl⟩)
    have hr : d.map (fun x => PyData.int (x + 1)) = encI (d.map (· + 1)) := by unfold encI; rw [List.map_map]; rfl
    rw [hr] at g
    have hlen : d.length ≤ 100 := by
      have := rising_len d 0 h.ranks.length b (by omega) c
      omega
    refine ⟨_, _, [some (SV.fz (encH h)), some (SV.fz (encBk B)), some (SV.fz (encR p)), some (SV.fz (.bool true)), none, none, some (SV.fz (.tuple (encI d))), none, none], rfl, rfl, ?_, rfl⟩
    show CE__law_moved_1 [some (SV.fz (encH h)), some (SV.fz (encBk B)), some (SV.fz (encR p)), some (SV.fz (.bool true)), none, none, some (SV.fz (.tuple (encI d))), none, none] = _
    sizeOf_list_dec)
  obtain ⟨dsD, hds⟩ : ∃ dsD, dsD = PyData.tuple (h.desks.map fun d => .tuple (encI (d.map (· + 1)))) := ⟨_, rfl⟩
  have g2 := lcGo_mapE (tgt := CT__law_moved_3) (test := CC__law_moved_3) (elt := CE__law_moved_3) (vs := [8]) (e := wipeD [some (SV.fz (encH h)), some (SV.fz (encBk B)), some (SV.fz (encR p)), some (SV.fz (.bool true)), some (SV.fz dsD), none, none, none, none] [8]) (fun row : List (Option Nat) => PyData.tuple (row.map encO)) (fun row => .tuple ((row.map (Option.map (· + 1))).map encO)) B (fun row hrow => by
    have hw := hB.w row hrow
    have g := lcGo_mapE (tgt := CT__law_moved_4) (test := CC__law_moved_4) (elt := CE__law_moved_4) (vs := [7]) (e := wipeD [some (SV.fz (encH h)), some (SV.fz (encBk B)), some (SV.fz (encR p)), some (SV.fz (.bool true)), some (SV.fz dsD), none, none, none, some (SV.fz (.tuple (row.map encO)))] [7]) encO (fun o => encO (o.map (· + 1))) row (fun o _ => by
      cases o with
      | none => exact ⟨_, _, _, rfl, rfl, rfl, rfl⟩
      | some x => exact ⟨_, _, _, rfl, rfl, rfl, rfl⟩)
    have hr : row.map (fun o => encO (o.map (· + 1))) = (row.map (Option.map (· + 1))).map encO := by rw [List.map_map]; rfl
    rw [hr] at g
    refine ⟨_, _, [some (SV.fz (encH h)), some (SV.fz (encBk B)), some (SV.fz (encR p)), some (SV.fz (.bool true)), some (SV.fz dsD), none, none, none, some (SV.fz (.tuple (row.map encO)))], rfl, rfl, ?_, rfl⟩
    show CE__law_moved_3 [some (SV.fz (encH h)), some (SV.fz (encBk B)), some (SV.fz (encR p)), some (SV.fz (.bool true)), some (SV.fz dsD), none, none, none, some (SV.fz (.tuple (row.map encO)))] = _
    sizeOf_list_dec)
  have ht : gTuple [.list (h.desks.map fun d => .tuple (encI (d.map (· + 1))))] = some dsD := by rw [hds]; rfl
  unfold F__law_moved
  rw [he, hb, ← hds, show envOf ["hall", "book", "by", "first", "desks", "rows", "desk", "one", "row"] [encH h, encBk B, encR p, .bool true] = [some (SV.fz (encH h)), some (SV.fz (encBk B)), some (SV.fz (encR p)), some (SV.fz (.bool true)), none, none, none, none, none] from rfl]
  apply ev_outF
  unfold B__law_moved
  sizeOf_list_dec
theorem moved_ok {h : Hall} (hh : h.Ok 3 2) {B : List (List (Option Nat))} (hB : BookOk h B) (p : Int × Int) (first : Bool) : F__law_moved [encH h, encBk B, encR p, .bool first] = some (.tuple [encH (wideH first h p), encBk (wideB first B)]) := by
  cases first
  · exact moved_last (by have := hh.r2; omega) p
  · exact moved_first hh hB p
end Dn

set_option maxHeartbeats 1000000
/-! R12: the law. -/
namespace Dn
open PySem PySem.Spec PyProof.Rows L2
theorem forOwn_all {i : Nat} {body : So} (I : DEnv → Prop) : ∀ (ds : List D) (e : DEnv), I e → (∀ d e, d ∈ ds → I e → ∃ e2, body (e.set i (some (SV.ow false 0 d))) = some (.nx e2) ∧ I e2) → ∃ e', forOwnGo i body ds e = some (.nx e') ∧ I e'
  | [], e, h, _ => ⟨e, rfl, h⟩
  | d :: ds, e, h, hs => by
    obtain ⟨e2, h1, h2⟩ := hs d e (by simp) h
    obtain ⟨e', h3, h4⟩ := forOwn_all I ds e2 h2 fun d e hd => hs d e (by simp [hd])
    exact ⟨e', by simp only [forOwnGo, h1, h3], h4⟩
theorem prodW_bound : ∀ (l : List (List (Int × Int) × (Int × Int))) (m : Int) (k : Nat), (∀ p ∈ l, StepsOk p.2.1.toNat p.1) → 0 ≤ m → m ≤ 2 ^ (320 * k) → 0 ≤ prodW l m ∧ prodW l m ≤ 2 ^ (320 * (k + l.length))
  | [], m, k, _, m0, m1 => ⟨m0, m1⟩
  | p :: l, m, k, hp, m0, m1 => by
    obtain ⟨n0, n1⟩ := (hp p (by simp)).nn
    have e1 : (2 : Int) ^ (320 * k) * 2 ^ 320 = 2 ^ (320 * (k + 1)) := by rw [Nat.mul_succ, Int.pow_add]
    have := prodW_bound l (m * allWays p.2.1.toNat p.1) (k + 1) (fun q hq => hp q (by simp [hq])) (Int.mul_nonneg m0 n0) (by rw [← e1]; exact Int.mul_le_mul m1 n1 n0 (Int.pow_nonneg (by decide)))
    rw [List.length_cons, show k + (l.length + 1) = k + 1 + l.length by omega]
    exact this
theorem howMany_bound {h : Hall} (hh : h.Ok 4 3) {B : List (List (Option Nat))} (hB : BookOk h B) : 0 ≤ howMany h (upR h B) ∧ howMany h (upR h B) ≤ 2 ^ 1280 := by
  unfold howMany
  cases hb : anyBar h.ranks.length (upR h B) with
  | true => exact ⟨Int.le_refl 0, Int.pow_nonneg (by decide)⟩
  | false =>
    rw [if_neg (by decide)]
    have hr2 := hh.r2
    obtain ⟨h1, h2⟩ := prodW_bound ((downsOf h (upR h B)).zip h.ranks) 1 0 (fun p hp => by
      unfold downsOf at hp
      rw [zip_range] at hp
      obtain ⟨i, hi, rfl⟩ := List.getElem_of_mem hp
      have hi2 : i < h.ranks.length := by simpa using hi
      rw [List.getElem_mapIdx]
      have ok := upR_ok hh hB hi2 (anyBar_false hb hi2)
      have e : (h.ranks[i]).1 = mostOf h i := by unfold mostOf; rw [List.getD_eq_getElem?_getD, List.getElem?_eq_getElem hi2]; rfl
      rw [e]
      exact ok) (by decide) (by decide)
    refine ⟨h1, ?_⟩
    have : (2 : Nat) ^ (320 * (0 + ((downsOf h (upR h B)).zip h.ranks).length)) ≤ 2 ^ 1280 := Nat.pow_le_pow_right (by decide) (by rw [List.length_zip]; omega)
    have : (2 : Int) ^ (320 * (0 + ((downsOf h (upR h B)).zip h.ranks).length)) ≤ 2 ^ 1280 := by exact_mod_cast this
    omega
theorem abs_pow {x : Int} {k : Nat} (h0 : 0 ≤ x) (h1 : x ≤ 2 ^ k) (hk : k < 4000) : x.natAbs < 2 ^ 4000 := by
  have h2 : x.natAbs ≤ 2 ^ k := by
    have : ((x.natAbs : Nat) : Int) ≤ ((2 ^ k : Nat) : Int) := by rw [Int.natAbs_of_nonneg h0]; exact_mod_cast h1
    exact_mod_cast this
  exact Nat.lt_of_le_of_lt h2 (Nat.pow_lt_pow_right (by decide) hk)
theorem gMulB_pow {x y : Int} {j k : Nat} (h0 : 0 ≤ x) (h1 : x ≤ 2 ^ j) (hj : j < 4000) (k0 : 0 ≤ y) (k1 : y ≤ 2 ^ k) (hk : k < 4000) : gMulB (.int x) (.int y) = some (.int (x * y)) := by
  simp only [gMulB, gInt, if_pos (And.intro (abs_pow h0 h1 hj) (abs_pow k0 k1 hk)), Option.map_some]
theorem pow6 {b : Int} (h0 : 0 ≤ b) (h5 : b ≤ 5) : ∀ k : Nat, 0 ≤ (b + 1) ^ k ∧ (b + 1) ^ k ≤ 2 ^ (3 * k)
  | 0 => ⟨by simp, by simp⟩
  | k + 1 => by
    obtain ⟨i1, i2⟩ := pow6 h0 h5 k
    rw [Int.pow_succ, Nat.mul_succ, Int.pow_add]
    exact ⟨Int.mul_nonneg i1 (by omega), Int.mul_le_mul i2 (by omega) (by omega) (Int.pow_nonneg (by decide))⟩
/-- the names of the law: what it has by then -/
abbrev lawE (s : D) (bag : Option SV) (h b own : D) (whole : Int) (by' : D) (first : Bool) (wide wb : D) (mine sft : Int) (t : Int) (j13 j14 j15 j16 : Option SV) : DEnv :=
  [some (SV.fz s), bag, some (SV.fz h), some (SV.fz b), some (SV.fz own), some (SV.fz (.int whole)), some (SV.fz by'), some (SV.fz (.bool first)), some (SV.fz wide), some (SV.fz wb), some (SV.fz (.int mine)), some (SV.fz (.int sft)), some (SV.fz (.int t)), j13, j14, j15, j16, none]
theorem times_go {s h b own wide wb : D} {bag : Option SV} {whole mine sft : Int} {p : Int × Int} {first : Bool} (p0 : 0 ≤ p.1) (p5 : p.1 ≤ 5) : ∀ (n k : Nat) (l : List Int) (j13 j14 j15 j16 : Option SV), l.length = n → n + k ≤ 40 →
    ∃ x, (n ≠ 0 → ∃ d, x = some (SV.fz d)) ∧ (n = 0 → x = j13) ∧ forGo T_law_2 L_law_2 (encI l) (lawE s bag h b own whole (encR p) first wide wb mine sft ((p.1 + 1) ^ k) j13 j14 j15 j16) = some (.nx (lawE s bag h b own whole (encR p) first wide wb mine sft ((p.1 + 1) ^ (n + k)) x j14 j15 j16))
  | 0, k, l, j13, j14, j15, j16, hl, _ => by
    have : l = [] := List.length_eq_zero_iff.mp hl
    subst this
    exact ⟨j13, fun z => absurd rfl z, fun _ => rfl, by rw [Nat.zero_add]; rfl⟩
  | n + 1, k, [], j13, j14, j15, j16, hl, _ => by simp at hl
  | n + 1, k, a :: l, j13, j14, j15, j16, hl, hk => by
    obtain ⟨x, h1, h2, h3⟩ := times_go (s := s) (h := h) (b := b) (own := own) (wide := wide) (wb := wb) (bag := bag) (whole := whole) (mine := mine) (sft := sft) (p := p) (first := first) p0 p5 n (k + 1) l (some (SV.fz (.int a))) j14 j15 j16 (by simpa using hl) (by omega)
    refine ⟨x, fun _ => ?_, fun z => by omega, ?_⟩
    · by_cases hn : n = 0
      · exact ⟨_, h2 hn⟩
      · exact h1 hn
    · obtain ⟨q1, q2⟩ := pow6 p0 p5 k
      have hm := gMulB_pow (y := p.1 + 1) (k := 3) q1 q2 (by omega) (by omega) (by omega) (by decide)
      rw [← Int.pow_succ] at hm
      have hix : gIx (encR p) (.int 0) = some (.int p.1) := rfl
      rw [show n + 1 + k = n + (k + 1) by omega]
      refine forGo_cons_nx (e2 := lawE s bag h b own whole (encR p) first wide wb mine sft ((p.1 + 1) ^ (k + 1)) (some (SV.fz (.int a))) j14 j15 j16) rfl ?_ h3
      have hb : L_law_2 (lawE s bag h b own whole (encR p) first wide wb mine sft ((p.1 + 1) ^ k) (some (SV.fz (.int a))) j14 j15 j16) = some (.nx (lawE s bag h b own whole (encR p) first wide wb mine sft ((p.1 + 1) ^ (k + 1)) (some (SV.fz (.int a))) j14 j15 j16)) := by
        sizeOf_list_dec
      exact hb
end Dn

set_option maxHeartbeats 1000000
/-! R13: the law, at one bag: its end. -/
namespace Dn
open PySem PySem.Spec PyProof.Rows L2
abbrev LT : So := (sSeq (sSet 12 (mRet (.int 1)))
    (sSeq (sFor (mMap gRg1 (mCons (mMap gLen (mCons (mVar 3) (mRet []))) (mRet []))) (gNm 13) (sSeq (sSet 12 (mBin gMulB (mVar 12) (mBin gAdd (mBin gIx (mVar 6) (mRet (.int 0))) (mRet (.int 1)))))
    sNil))
    (sSeq (sIf (mOr (mMap gB (mBin gNe (mMap (lenIs 3 F_how_many) (mCons (mVar 8) (mCons (mVar 9) (mCons (mMap gTup (mRet [])) (mRet []))))) (mBin gMulB (mVar 5) (mVar 12)))) (mMap gB (mBin gNe (mMap (lenIs 4 F_how_many_of) (mCons (mVar 8) (mCons (mVar 9) (mCons (mMap gTup (mRet [])) (mCons (mVar 10) (mRet [])))))) (mVar 12)))) (sSeq (sRet (mRet (.bool false)))
    sNil) sNil)
    (sSeq (sIf (mMap gB (mBin gNe (mMap (lenIs 4 F_stairs) (mCons (mVar 8) (mCons (mVar 9) (mCons (mMap gTup (mRet [])) (mCons (mVar 10) (mRet [])))))) (mMap (fun ds => some (.list ds)) (mLc (mMap gRg1 (mCons (mMap gLen (mCons (mVar 3) (mRet []))) (mRet []))) (gNm 13) (mRet true) (mMap gTup (mCons (mRet (.int 0)) (mCons (mBin gMulB (mBin gIx (mVar 6) (mRet (.int 0))) (mBin gAdd (mVar 13) (mRet (.int 1)))) (mRet [])))) [13])))) (sSeq (sRet (mRet (.bool false)))
    sNil) sNil)
    (sSeq (sFor (mMap gRg1 (mCons (mMap gLen (mCons (mBin gIx (mVar 2) (mRet (.int 0))) (mRet []))) (mRet []))) (gNm 14) (sSeq (sIf (mMap gB (mBin gNe (mMap (lenIs 4 F_stairs) (mCons (mVar 8) (mCons (mVar 9) (mCons (mMap gTup (mRet [])) (mCons (mBin gAdd (mVar 14) (mVar 11)) (mRet [])))))) (mMap (lenIs 4 F_stairs) (mCons (mVar 2) (mCons (mVar 3) (mCons (mMap gTup (mRet [])) (mCons (mVar 14) (mRet [])))))))) (sSeq (sRet (mRet (.bool false)))
    sNil) sNil)
    sNil))
    (sSeq (sSet 15 (mMap gTup (mCons (mBin gIx (mVar 8) (mRet (.int 0))) (mCons (mBin gAdd (mBin gIx (mVar 8) (mRet (.int 1))) (mMap gTup (mCons (mMap gTup (mCons (mVar 10) (mRet []))) (mRet [])))) (mRet [])))))
    (sSeq (sSet 16 (mMap gTuple (mCons (mMap (fun ds => some (.list ds)) (mLc (mMap gSeq (mVar 9)) (gNm 17) (mRet true) (mBin gAdd (mVar 17) (mMap gTup (mCons (mRet .none) (mRet [])))) [17])) (mRet []))))
    (sSeq (sIf (mOr (mMap gB (mBin gNe (mMap (lenIs 3 F_how_many) (mCons (mVar 15) (mCons (mVar 16) (mCons (mMap gTup (mRet [])) (mRet []))))) (mVar 5))) (mMap gB (mBin gNe (mMap (lenIs 4 F_stairs) (mCons (mVar 15) (mCons (mVar 16) (mCons (mMap gTup (mRet [])) (mCons (mVar 10) (mRet [])))))) (mBin gMulB (mMap gLst (mCons (mMap gTup (mCons (mRet (.int 0)) (mCons (mRet (.int 0)) (mRet [])))) (mRet []))) (mMap gLen (mCons (mVar 3) (mRet []))))))) (sSeq (sRet (mRet (.bool false)))
    sNil) sNil)
    sNil))))))))
theorem shaped_steps (s : List (Int × Int)) : SeqAt.shaped (.list (encS s)) = true := by
  have h1 : PyData.canLayAll0 (encS s) = true := canLayAll_map (fun _ => rfl) s
  have h2 : PyData.depthAll (encS s) ≤ 1 := depthAll_map (fun a => Nat.le_of_eq (rfl : (encR a).depth = 1)) s
  unfold SeqAt.shaped
  rw [Bool.and_eq_true]
  refine ⟨by simpa [PyData.canLay0] using h1, decide_eq_true ?_⟩
  show PyData.depthAll (encS s) + 1 ≤ 64
  omega
theorem same_go {s bag hD bD own byD wD wbD : D} {bagS : Option SV} {whole mine t : Int} {sft n : Nat} {first : Bool} {j13 j15 j16 : Option SV} (st : Nat → D) (h1 : ∀ r, r < n → F_stairs [wD, wbD, .tuple [], .int ((r : Int) + (sft : Int))] = some (st r)) (h2 : ∀ r, r < n → F_stairs [hD, bD, .tuple [], .int (r : Int)] = some (st r)) (h3 : ∀ r, r < n → gNe (st r) (st r) = some (.bool false)) : ∀ (l : List Nat) (j14 : Option SV), (∀ r ∈ l, r < n) →
    ∃ x, forGo T_law_3 L_law_3 (l.map fun (r : Nat) => PyData.int r) (lawE s bagS hD bD own whole byD first wD wbD mine sft t j13 j14 j15 j16) = some (.nx (lawE s bagS hD bD own whole byD first wD wbD mine sft t j13 x j15 j16))
  | [], j14, _ => ⟨j14, rfl⟩
  | r :: l, j14, hl => by
    obtain ⟨x, ih⟩ := same_go (s := s) (bag := bag) (hD := hD) (bD := bD) (own := own) (byD := byD) (wD := wD) (wbD := wbD) (bagS := bagS) (whole := whole) (mine := mine) (t := t) (sft := sft) (n := n) (first := first) (j13 := j13) (j15 := j15) (j16 := j16) st h1 h2 h3 l (some (SV.fz (.int r))) (fun q hq => hl q (by simp [hq]))
    have hr := hl r (by simp)
    have c1 := h1 r hr
    have c2 := h2 r hr
    have c3 := h3 r hr
    refine ⟨x, forGo_cons_nx (e2 := lawE s bagS hD bD own whole byD first wD wbD mine sft t j13 (some (SV.fz (.int r))) j15 j16) rfl ?_ ih⟩
    have hb : L_law_3 (lawE s bagS hD bD own whole byD first wD wbD mine sft t j13 (some (SV.fz (.int r))) j15 j16) = some (.nx (lawE s bagS hD bD own whole byD first wD wbD mine sft t j13 (some (SV.fz (.int r))) j15 j16)) := by
      clear h1 h2 h3 ih
      sizeOf_list_dec
    exact hb
theorem tail_ok {s own : D} {bag : Option SV} {h : Hall} {B : List (List (Option Nat))} {p : Int × Int} {first : Bool} (hh : h.Ok 3 2) (hB : BookOk h B) (p1 : 1 ≤ p.1) (p5 : p.1 ≤ 5) (s1 : 1 ≤ p.2) (s10 : p.2 ≤ 10) (hf : anyBar h.ranks.length (upR h B) = false) (j12 j13 j14 j15 j16 : Option SV) :
    ∃ e, LT [some (SV.fz s), bag, some (SV.fz (encH h)), some (SV.fz (encBk B)), some (SV.fz own), some (SV.fz (.int (howMany h (upR h B)))), some (SV.fz (encR p)), some (SV.fz (.bool first)), some (SV.fz (encH (wideH first h p))), some (SV.fz (encBk (wideB first B))), some (SV.fz (.int (mineN first h))), some (SV.fz (.int (shiftN first))), j12, j13, j14, j15, j16, none] = some (.nx e) ∧
      ∃ a2 a3 a4 a5 a6 a7 a8 a9 a10 a11 a12 a13 a14 a15 a16, e = [some (SV.fz s), bag, a2, a3, a4, a5, a6, a7, a8, a9, a10, a11, a12, a13, a14, a15, a16, none] := by
  have h4 := Hall.Ok.mono hh (R' := 4) (K' := 3) (by decide) (by decide)
  have hw := wide_hall first hh p1 p5 s1 s10
  have hw4 := Hall.Ok.mono hw (R' := 4) (K' := 3) (by decide) (by decide)
  have hwB := wide_book (p := p) first hB
  have hs := shut_hall first hw
  have hsB := bookS_ok hwB (mineN first h)
  have r2 := hh.r2
  have k2 := hh.k2
  have t1 := hB.t1
  have t2 := hB.t2
  have hm := mineN_lt (h := h) first
  have wl := wide_len (h := h) (p := p) first
  have sl : (hallS (wideH first h p) (mineN first h)).ranks.length = h.ranks.length + 1 := wl
  have wdl := wide_desks_len (h := h) (p := p) first
  have lb : gLen [encBk B] = some (.int B.length) := by simp [gLen]
  have lr : gLen [.tuple (h.ranks.map encR)] = some (.int h.ranks.length) := by simp [gLen]
  have rg1 : gRg1 [.int (B.length : Int)] = some (encI ((List.range B.length).map fun (i : Nat) => (i : Int))) := by rw [gRg1_nat (by omega), rangeD_ints]
  have rg2 : gRg1 [.int (h.ranks.length : Int)] = some ((List.range h.ranks.length).map fun (r : Nat) => PyData.int r) := by
    rw [gRg1_nat (by omega), rangeD_ints, encI, List.map_map]
    rfl
  -- told of the wide hall
  have c1 := how_many_ok hw4 hwB
  rw [wide_many first hh hB p1 hf] at c1
  have c2 := how_many_of_ok hw4 hwB (r := mineN first h) (by omega)
  rw [wide_many_of first hh hB p1 hf] at c2
  have c3 := stairs_ok hw4 hwB (r := mineN first h) (by omega)
  rw [wide_stairs_mine first hh hB p1 hf] at c3
  have c5 := how_many_ok hs hsB
  rw [shut_many first hh hB p1 hf] at c5
  have c6 := stairs_ok hs hsB (r := mineN first h) (by omega)
  rw [shut_stairs_mine first hh hB p1 hf] at c6
  obtain ⟨wh, hwh⟩ : ∃ wh, wh = howMany h (upR h B) := ⟨_, rfl⟩
  have wb := howMany_bound h4 hB
  rw [← hwh] at c1 c5 wb ⊢
  obtain ⟨q1, q2⟩ := pow6 (b := p.1) (by omega) p5 B.length
  have m1 := gMulB_pow wb.1 wb.2 (by decide) q1 q2 (by omega)
  -- the loops
  obtain ⟨x13, hx1, _, times⟩ := times_go (s := s) (h := encH h) (b := encBk B) (own := own) (wide := encH (wideH first h p)) (wb := encBk (wideB first B)) (bag := bag) (whole := wh) (mine := mineN first h) (sft := shiftN first) (p := p) (first := first) (by omega) p5 B.length 0 ((List.range B.length).map fun (i : Nat) => (i : Int)) j13 j14 j15 j16 (by simp) (by omega)
  rw [Nat.add_zero, Int.pow_zero] at times
  obtain ⟨d13, rfl⟩ := hx1 (by omega)
  obtain ⟨x14, same⟩ := same_go (s := s) (bag := s) (hD := encH h) (bD := encBk B) (own := own) (byD := encR p) (wD := encH (wideH first h p)) (wbD := encBk (wideB first B)) (bagS := bag) (whole := wh) (mine := mineN first h) (t := (p.1 + 1) ^ B.length) (sft := shiftN first) (n := h.ranks.length) (first := first) (j13 := some (SV.fz d13)) (j15 := j15) (j16 := j16) (fun r => .list (encS (down (mostOf h r) (upR h B r)))) (fun r hr => by
      have hsf : shiftN first ≤ 1 := by cases first <;> decide
      have := stairs_ok hw4 hwB (r := r + shiftN first) (by omega)
      rw [wide_stairs first hh hB p1 hf hr] at this
      unfold stairsD at this
      rw [hf, if_neg (by decide)] at this
      rw [← this]
      rfl) (fun r hr => by
      have := stairs_ok h4 hB hr
      unfold stairsD at this
      rw [hf, if_neg (by decide)] at this
      exact this) (fun r _ => gNe_self (shaped_steps _)) (List.range h.ranks.length) j14 (fun r hr => List.mem_range.mp hr)
  -- the stairs of the rank more
  have g1 := lcGo_mapE (tgt := CT_law_1) (test := CC_law_1) (elt := CE_law_1) (vs := [13]) (e := wipeD (lawE s bag (encH h) (encBk B) own wh (encR p) first (encH (wideH first h p)) (encBk (wideB first B)) (mineN first h) (shiftN first) ((p.1 + 1) ^ B.length) (some (SV.fz d13)) j14 j15 j16) [13]) (fun (i : Nat) => PyData.int ((i : Nat) : Int)) (fun i => encR (0, p.1 * ((i : Int) + 1))) (List.range B.length) (fun i hi => by
    have hi := List.mem_range.mp hi
    have e64 : (2 : Nat) ^ 64 = 18446744073709551616 := by decide
    have hm := gMulB_small (i := p.1) (j := (i : Int) + 1) (by omega) (by omega)
    have hix : gIx (encR p) (.int 0) = some (.int p.1) := rfl
    refine ⟨_, _, lawE s bag (encH h) (encBk B) own wh (encR p) first (encH (wideH first h p)) (encBk (wideB first B)) (mineN first h) (shiftN first) ((p.1 + 1) ^ B.length) (some (SV.fz (.int i))) j14 j15 j16, rfl, rfl, ?_, rfl⟩
    show CE_law_1 (lawE s bag (encH h) (encBk B) own wh (encR p) first (encH (wideH first h p)) (encBk (wideB first B)) (mineN first h) (shiftN first) ((p.1 + 1) ^ B.length) (some (SV.fz (.int i))) j14 j15 j16) = _
    clear c1 c2 c3 c5 c6 times same
    sizeOf_list_dec)
  have hg1 : (List.range B.length).map (fun (i : Nat) => encR (0, p.1 * ((i : Int) + 1))) = encS ((List.range' 1 B.length).map fun (t : Nat) => ((0 : Int), p.1 * (t : Int))) := by
    rw [encS, List.map_map]
    refine List.ext_getElem (by simp) fun i h1 h2 => ?_
    simp
    rw [show ((1 : Int) + (i : Int)) = (i : Int) + 1 by omega]
  rw [hg1] at g1
  have hli : ((List.range B.length).map fun (i : Nat) => (i : Int)).map PyData.int = (List.range B.length).map fun (i : Nat) => PyData.int ((i : Nat) : Int) := by rw [List.map_map]; rfl
  rw [← hli] at g1
  have n3 : gNe (.list (encS ((List.range' 1 B.length).map fun (t : Nat) => ((0 : Int), p.1 * (t : Int))))) (.list (encS ((List.range' 1 B.length).map fun (t : Nat) => ((0 : Int), p.1 * (t : Int))))) = some (.bool false) := gNe_self (shaped_steps _)
  -- the shut hall
  have a1 : gAdd (.tuple ((wideH first h p).desks.map fun d => .tuple (encI d))) (.tuple [.tuple [.int (mineN first h)]]) = some (.tuple ((wideH first h p).desks.map (fun d => .tuple (encI d)) ++ [.tuple [.int (mineN first h)]])) := gAdd_tups (by simp; omega)
  have hsh : encH (hallS (wideH first h p) (mineN first h)) = .tuple [.tuple ((wideH first h p).ranks.map encR), .tuple ((wideH first h p).desks.map (fun d => .tuple (encI d)) ++ [.tuple [.int (mineN first h)]])] := by
    unfold encH hallS
    simp only [List.map_append]
    rfl
  have g2 := lcGo_mapE (tgt := CT_law_2) (test := CC_law_2) (elt := CE_law_2) (vs := [17]) (e := wipeD [some (SV.fz s), bag, some (SV.fz (encH h)), some (SV.fz (encBk B)), some (SV.fz own), some (SV.fz (.int wh)), some (SV.fz (encR p)), some (SV.fz (.bool first)), some (SV.fz (encH (wideH first h p))), some (SV.fz (encBk (wideB first B))), some (SV.fz (.int (mineN first h))), some (SV.fz (.int (shiftN first))), some (SV.fz (.int ((p.1 + 1) ^ B.length))), some (SV.fz d13), x14, some (SV.fz (encH (hallS (wideH first h p) (mineN first h)))), j16, none] [17]) (fun row : List (Option Nat) => PyData.tuple (row.map encO)) (fun row => .tuple ((row ++ [none]).map encO)) (wideB first B) (fun row hrow => by
    have hw := hwB.w row hrow
    have ha : gAdd (.tuple (row.map encO)) (.tuple [.none]) = some (.tuple ((row ++ [none]).map encO)) := by
      rw [List.map_append]
      exact gAdd_tups (by simp; omega)
    exact ⟨_, _, [some (SV.fz s), bag, some (SV.fz (encH h)), some (SV.fz (encBk B)), some (SV.fz own), some (SV.fz (.int wh)), some (SV.fz (encR p)), some (SV.fz (.bool first)), some (SV.fz (encH (wideH first h p))), some (SV.fz (encBk (wideB first B))), some (SV.fz (.int (mineN first h))), some (SV.fz (.int (shiftN first))), some (SV.fz (.int ((p.1 + 1) ^ B.length))), some (SV.fz d13), x14, some (SV.fz (encH (hallS (wideH first h p) (mineN first h)))), j16, some (SV.fz (.tuple (row.map encO)))], rfl, rfl, mBin_ev (m := mVar 17) (x := .tuple (row.map encO)) rfl (y := .tuple [.none]) rfl ha, rfl⟩)
  have hg2 : (wideB first B).map (fun row => PyData.tuple ((row ++ [none]).map encO)) = (bookS (wideB first B)).map fun row => .tuple (row.map encO) := by
    unfold bookS
    rw [List.map_map]
    rfl
  rw [hg2] at g2
  have hwl := wideB_len (B := B) first
  have rp : gMulB (.list [.tuple [.int 0, .int 0]]) (.int B.length) = some (.list (encS (List.replicate B.length (0, 0)))) := by
    show gRep (.list [.tuple [.int 0, .int 0]]) (.int B.length) = _
    simp only [gRep]
    rw [if_pos ⟨by omega, by omega, Nat.le_of_ble_eq_true rfl⟩, Int.toNat_natCast]
    have : ∀ n : Nat, (List.replicate n [PyData.tuple [.int 0, .int 0]]).flatten = encS (List.replicate n (0, 0)) := by
      intro n
      induction n with
      | zero => rfl
      | succ n ih => rw [List.replicate_succ, List.replicate_succ, List.flatten_cons, ih]; rfl
    rw [this]
  have n6 : gNe (.list (encS (List.replicate B.length (0, 0)))) (.list (encS (List.replicate B.length (0, 0)))) = some (.bool false) := gNe_self (shaped_steps _)
  obtain ⟨shD, hshD⟩ : ∃ shD, shD = encH (hallS (wideH first h p) (mineN first h)) := ⟨_, rfl⟩
  have hlw : ((wideB first B).map fun row => PyData.tuple (row.map encO)).length ≤ 100000 := by rw [List.length_map]; omega
  have hlr : (encI ((List.range B.length).map fun (i : Nat) => (i : Int))).length ≤ 100000 := by simp; omega
  rw [hsh] at c5 c6 g2
  clear hshD hsh hg1 hg2 hli
  refine ⟨[some (SV.fz s), bag, some (SV.fz (encH h)), some (SV.fz (encBk B)), some (SV.fz own), some (SV.fz (.int wh)), some (SV.fz (encR p)), some (SV.fz (.bool first)), some (SV.fz (encH (wideH first h p))), some (SV.fz (encBk (wideB first B))), some (SV.fz (.int (mineN first h))), some (SV.fz (.int (shiftN first))), some (SV.fz (.int ((p.1 + 1) ^ B.length))), some (SV.fz d13), x14, some (SV.fz (.tuple [.tuple ((wideH first h p).ranks.map encR), .tuple ((wideH first h p).desks.map (fun d => .tuple (encI d)) ++ [.tuple [.int (mineN first h)]])])), some (SV.fz (encBk (bookS (wideB first B)))), none], ?_, ⟨_, _, _, _, _, _, _, _, _, _, _, _, _, _, _, rfl⟩⟩
  sizeOf_list_dec
end Dn

set_option maxHeartbeats 1000000
/-! R14: the law. -/
namespace Dn
open PySem PySem.Spec PyProof.Rows L2
theorem bag_ok {s bag : D} (hb : Bag 5000 bag) (j2 j3 j4 j5 j6 j7 j8 j9 j10 j11 j12 j13 j14 j15 j16 : Option SV) :
    ∃ e, L_law_1 [some (SV.fz s), some (SV.ow false 0 bag), j2, j3, j4, j5, j6, j7, j8, j9, j10, j11, j12, j13, j14, j15, j16, none] = some (.nx e) ∧ ∃ a1 a2 a3 a4 a5 a6 a7 a8 a9 a10 a11 a12 a13 a14 a15 a16, e = [some (SV.fz s), a1, a2, a3, a4, a5, a6, a7, a8, a9, a10, a11, a12, a13, a14, a15, a16, none] := by
  obtain ⟨v1, b1, t1, v10, v11, hb1⟩ := take_ok hb (by decide) (m := 2) (by decide) (by decide)
  obtain ⟨v2, b2, t2, v20, v21, hb2⟩ := take_ok hb1 (by decide) (m := 2) (by decide) (by decide)
  obtain ⟨m, hm, x1⟩ : ∃ m : Int, (1 ≤ m ∧ m ≤ 5) ∧ gIx (.list [.int 4, .int 2]) (.int v1) = some (.int m) := by
    have : v1 = 0 ∨ v1 = 1 := by omega
    rcases this with rfl | rfl
    · exact ⟨4, by decide, atI_0 _ _⟩
    · exact ⟨2, by decide, atI_1 _ _ _⟩
  obtain ⟨st, hst, x2⟩ : ∃ m : Int, (1 ≤ m ∧ m ≤ 10) ∧ gIx (.list [.int 8, .int 3]) (.int v2) = some (.int m) := by
    have : v2 = 0 ∨ v2 = 1 := by omega
    rcases this with rfl | rfl
    · exact ⟨8, by decide, atI_0 _ _⟩
    · exact ⟨3, by decide, atI_1 _ _ _⟩
  obtain ⟨h, b3, t3', hh, hb3⟩ := hall_ok hb2 (by decide) (R := 3) (K := 2) (m := m) (s := st) (by decide) (by decide) hm hst
  have t3 : F__law_hall [b2, .int 3, .int 2, .int m, .int st, .bool false] = some (encH h, [b3]) := t3'
  obtain ⟨v3, b4, t4, v30, v31, hb4⟩ := take_ok hb3 (by decide) (m := 40) (by decide) (by decide)
  obtain ⟨T, hT⟩ : ∃ T : Nat, 1 + v3 = (T : Int) := ⟨(1 + v3).toNat, by omega⟩
  obtain ⟨coms, b5, t5', hcl, hrow, hb5⟩ := own_ok hb4 (by decide) hh (by decide) (by decide) (T := T) (by omega)
  rw [← hT] at t5'
  obtain ⟨B, hB0⟩ : ∃ B, B = (runOf h coms).B := ⟨_, rfl⟩
  have hB : BookOk h B := by rw [hB0]; exact run_book (by omega) (by omega)
  have hf : anyBar h.ranks.length (upR h B) = false := by rw [hB0]; exact run_free (by have := hh.r2; omega) hrow
  have t5 : F__law_own [b4, encH h, .int (1 + v3)] = some (.tuple [encBk B, encC coms], [b5]) := by rw [hB0]; exact t5'
  have h4 := Hall.Ok.mono hh (R' := 4) (K' := 3) (by decide) (by decide)
  have c0 := how_many_ok h4 hB
  obtain ⟨v4, b6, t6, v40, v41, hb6⟩ := take_ok hb5 (by decide) (m := 5) (by decide) (by decide)
  obtain ⟨v5, b7, t7, v50, v51, hb7⟩ := take_ok hb6 (by decide) (m := 10) (by decide) (by decide)
  obtain ⟨v6, b8, t8, v60, v61, hb8⟩ := take_ok hb7 (by decide) (m := 2) (by decide) (by decide)
  have lr : gLen [.tuple (h.ranks.map encR)] = some (.int h.ranks.length) := by simp [gLen]
  by_cases h6 : v6 = 0
  · have he : gEq (.int v6) (.int 0) = some (.bool true) := by rw [gEq_int, h6]; rfl
    have hmv : F__law_moved [encH h, encBk B, .tuple [.int (1 + v4), .int (1 + v5)], .bool true] = some (.tuple [encH (wideH true h (1 + v4, 1 + v5)), encBk (wideB true B)]) := moved_ok hh hB (1 + v4, 1 + v5) true
    obtain ⟨e, ht', hI⟩ := tail_ok (s := s) (own := encC coms) (bag := some (SV.ow false 0 b8)) (p := (1 + v4, 1 + v5)) (first := true) hh hB (by simp only; omega) (by simp only; omega) (by simp only; omega) (by simp only; omega) hf j12 j13 j14 j15 j16
    have ht : LT [some (SV.fz s), some (SV.ow false 0 b8), some (SV.fz (encH h)), some (SV.fz (encBk B)), some (SV.fz (encC coms)), some (SV.fz (.int (howMany h (upR h B)))), some (SV.fz (.tuple [.int (1 + v4), .int (1 + v5)])), some (SV.fz (.bool true)), some (SV.fz (encH (wideH true h (1 + v4, 1 + v5)))), some (SV.fz (encBk (wideB true B))), some (SV.fz (.int 0)), some (SV.fz (.int 1)), j12, j13, j14, j15, j16, none] = some (.nx e) := ht'
    obtain ⟨a2, a3, a4, a5, a6, a7, a8, a9, a10, a11, a12, a13, a14, a15, a16, hI⟩ := hI
    refine ⟨e, ?_, ⟨_, a2, a3, a4, a5, a6, a7, a8, a9, a10, a11, a12, a13, a14, a15, a16, hI⟩⟩
    clear t3' t5' ht' hB0 hI
    sizeOf_list_dec
  · have he : gEq (.int v6) (.int 0) = some (.bool false) := by
      rw [gEq_int, beq_eq_false_iff_ne.mpr h6]
    have hmv : F__law_moved [encH h, encBk B, .tuple [.int (1 + v4), .int (1 + v5)], .bool false] = some (.tuple [encH (wideH false h (1 + v4, 1 + v5)), encBk (wideB false B)]) := moved_ok hh hB (1 + v4, 1 + v5) false
    obtain ⟨e, ht', hI⟩ := tail_ok (s := s) (own := encC coms) (bag := some (SV.ow false 0 b8)) (p := (1 + v4, 1 + v5)) (first := false) hh hB (by simp only; omega) (by simp only; omega) (by simp only; omega) (by simp only; omega) hf j12 j13 j14 j15 j16
    have ht : LT [some (SV.fz s), some (SV.ow false 0 b8), some (SV.fz (encH h)), some (SV.fz (encBk B)), some (SV.fz (encC coms)), some (SV.fz (.int (howMany h (upR h B)))), some (SV.fz (.tuple [.int (1 + v4), .int (1 + v5)])), some (SV.fz (.bool false)), some (SV.fz (encH (wideH false h (1 + v4, 1 + v5)))), some (SV.fz (encBk (wideB false B))), some (SV.fz (.int h.ranks.length)), some (SV.fz (.int 0)), j12, j13, j14, j15, j16, none] = some (.nx e) := ht'
    obtain ⟨a2, a3, a4, a5, a6, a7, a8, a9, a10, a11, a12, a13, a14, a15, a16, hI⟩ := hI
    refine ⟨e, ?_, ⟨_, a2, a3, a4, a5, a6, a7, a8, a9, a10, a11, a12, a13, a14, a15, a16, hI⟩⟩
    clear t3' t5' ht' hB0 hI
    sizeOf_list_dec
theorem law_true (ns : List Int) : F_law [.dict [(.none, .list (ns.map PyData.int))]] = some (.bool true) := by
  obtain ⟨bs, hbs, hall⟩ := bags_ok ns
  obtain ⟨sD, hsD⟩ : ∃ sD, sD = PyData.dict [(.none, .list (ns.map PyData.int))] := ⟨_, rfl⟩
  rw [← hsD]
  have hbs' : F__law_bags [sD, .int 5] = some (.list bs) := by rw [hsD]; exact hbs
  obtain ⟨e', hg, hI⟩ := forOwn_all (i := 1) (body := L_law_1) (fun e => ∃ a1 a2 a3 a4 a5 a6 a7 a8 a9 a10 a11 a12 a13 a14 a15 a16, e = [some (SV.fz sD), a1, a2, a3, a4, a5, a6, a7, a8, a9, a10, a11, a12, a13, a14, a15, a16, none]) bs [some (SV.fz sD), none, none, none, none, none, none, none, none, none, none, none, none, none, none, none, none, none] ⟨_, _, _, _, _, _, _, _, _, _, _, _, _, _, _, _, rfl⟩ (fun b e hb ⟨a1, a2, a3, a4, a5, a6, a7, a8, a9, a10, a11, a12, a13, a14, a15, a16, he⟩ => by
    subst he
    exact bag_ok (hall b hb) a2 a3 a4 a5 a6 a7 a8 a9 a10 a11 a12 a13 a14 a15 a16)
  have hfor : sForOwn 1 (mMap (lenIs 2 F__law_bags) (mCons (mVar 0) (mCons (mRet (.int 5)) (mRet [])))) L_law_1 [some (SV.fz sD), none, none, none, none, none, none, none, none, none, none, none, none, none, none, none, none, none] = some (.nx e') := by
    unfold sForOwn
    have : mMap (lenIs 2 F__law_bags) (mCons (mVar 0) (mCons (mRet (.int 5)) (mRet []))) [some (SV.fz sD), none, none, none, none, none, none, none, none, none, none, none, none, none, none, none, none, none] = some (.list bs, [some (SV.fz sD), none, none, none, none, none, none, none, none, none, none, none, none, none, none, none, none, none]) := by
      sizeOf_list_dec
    simp only [this, hg]
  unfold F_law
  rw [show envOf ["script", "bag", "hall", "book", "own", "whole", "by", "first", "wide", "written", "mine", "shift1", "times1", "tick", "rank", "shut1", "rows", "row"] [sD] = [some (SV.fz sD), none, none, none, none, none, none, none, none, none, none, none, none, none, none, none, none, none] from rfl]
  apply ev_outF
  unfold B_law
  sizeOf_list_dec
end Dn

set_option maxHeartbeats 0
namespace Dn
open PySem PySem.Spec PyProof.Rows L2
def spLaw : Sp := spF 1 F_law
theorem lk_mem : ∀ {K : List (Addr × Obj)} {a : Addr} {o : Obj}, K.lookup a = some o → (a, o) ∈ K
  | [], _, _, h => by cases h
  | (b, x) :: K, a, o, h => by
    rw [List.lookup_cons] at h
    by_cases hb : (a == b) = true
    · rw [hb] at h
      cases h
      have : a = b := by simpa using hb
      rw [this]
      exact List.mem_cons_self
    · have hb' : (a == b) = false := by simpa using hb
      rw [hb'] at h
      exact List.mem_cons_of_mem _ (lk_mem h)
theorem noLst_ok {K : PySem.W.Frag} (h : noLst K = true) {a : Addr} {o : Obj} (hk : K.lookup a = some o) : ¬ o.cls = .type "list" := by
  intro hc
  have := List.all_eq_true.mp h _ (lk_mem hk)
  simp [hc] at this
theorem rpInts {H : Hp} {a : Addr} {ns : List Int} (h : H a = some (.lst (ns.map V.int))) : Rp H (.ref a) (.list (ns.map PyData.int)) := .lst h (RpAll.ofInts ns)
end Dn
open PySem PySem.W PySem.Calls PyProof.Rows
theorem PySem.Challenge.cw_hallback_k19_whole_ranks_that_no_desk_ta_holds : PySem.Challenge.rw_hallback_k19_whole_ranks_that_no_desk_ta.Holds := by
  w_on; o_law
  refine HandSHeadRun.head_imp (r := OpenLaw.row PySem.Challenge.rw_hallback_k19_whole_ranks_that_no_desk_ta) (q := view (OpenLaw.row PySem.Challenge.rw_hallback_k19_whole_ranks_that_no_desk_ta).prog [0, 74]) (H := Dn.hk) (ob := Dn.ob) (M := 6000) (loose := Dn.looseN) (d := HandSHeadRun.topDef (OpenLaw.row PySem.Challenge.rw_hallback_k19_whole_ranks_that_no_desk_ta).prog 74) (kwd := []) Dn.ob_eq
    Dn.run (by kernel_rfl) (by kernel_rfl) (by kernel_rfl) (by rfl) (by first | assumption | decide +kernel) (by decide +kernel) ⟨rfl, rfl, rfl, rfl, rfl, by decide +kernel⟩ ?hw ?hc
  case hw => w_witness2
  case hc =>
    refine L2.walk_ofE (l := PySem.Challenge.rw_hallback_k19_whole_ranks_that_no_desk_ta) (n := 63) (k := 20) (x := "script") (CX := L2.CX0) rfl (by decide) (by kernel_rfl) ⟨rfl, by decide, by decide⟩ ?F (fun _ _ _ _ z => z)
    intro w mg fa h Y G hmg0
    obtain ⟨K, KX, c, ca⟩ := Y
    have hmg : mg ("law" : PySem.Str) = some (.ref fa) := by
      have e : (HandSHeadRun.topDef (OpenLaw.row PySem.Challenge.rw_hallback_k19_whole_ranks_that_no_desk_ta).prog 74).name = ("law" : PySem.Str) := by kernel_rfl
      rw [← e]
      exact hmg0
    have all := Dn.all_ok (P := (PySem.Challenge.rw_hallback_k19_whole_ranks_that_no_desk_ta).prog) (w := w) KX G c ca
    obtain ⟨f, fd, h1, h2, h3⟩ := all
    rw [h1] at hmg
    cases hmg
    refine ⟨K, fd, Dn.spLaw, KX, h2, fun H a ns hl hO hS => ?_, fun base _ _ => h3 base⟩
    rcases hS with (hS | ⟨o, hS⟩) | ⟨o, its, n, hk, hc, _⟩
    · rcases hO a with e | ⟨o, xs, e⟩ <;> (rw [e] at hS; cases hS)
    · refine ⟨H, [.dict [(.none, .list (ns.map PyData.int))]], _, fun _ _ e => e, .cons (.scr hS (Dn.RpAll.ofInts ns)) .nil, rfl, Dn.law_true ns, fun v G' H' _ r => ?_⟩
      exact r.inv_bl
    · exact absurd hc (Dn.noLst_ok (Bool.and_eq_true_iff.mp ca).1 hk)


