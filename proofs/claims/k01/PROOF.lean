import PyProof.Rows.All
import Wide.All
import OpenK.AllK
import Wide.FinOn
import HandS.ForMost
import HandS.Evl
import HandS.TupAny
import HandS.TupLe
import HandS.Zip
import HandS.Rev
import HandS.RevRange
import HandS.SortInts
import HandS.IsInst
import HandS.Wide
import KE.KeyNested
import HandS.Conv
import HandS.Style
import KE.GoesNew
import KE.GoesEnum
import KE.GoesMore
import KE.KDictZip
import KE.KItemsList
import HandS.Star
import HandS.ListItems
import HandS.RepeatKit
import HandS.DictComp
import HandS.Call
import KE.KDictSum
import HandS.TupSets
import KE.DataFind
import HandS.NoneIn
import HandS.SortKw
import KE.DatumOrd
import HandS.Iter
import HandS.Dict
import KE.KDictDisplayH
import HandS.TupMul
import PyProof.ListOps
import PyProof.SeqRoads
import KE.Datum
import KE.KEqDict
import KE.DataEq
import HandS.Sort
import KE.KIndexOf
import KE.KDictKeyed
import KE.SortData
import HandS.Hot
import HandS.ExcIs
import HandS.HotCalls
import HandS.Text
import KE.KStateDown
import HandS.Ends
import HandS.More
import HandS.Words
import HandS.WordsExc
import HandS.Defaults
import HandS.Head0
import HandS.Head1
import HandS.Head2
import HandS.Head3
import HandS.HeadEnd
import HandS.HeadHook1
import HandS.HeadHook2
import HandS.HeadHook3
import HandS.HeadHook4
import HandS.HeadWalk
import HandS.EndTab
import HandS.Lambda
import HandS.ExcValue
import PySem.Challenge.RW_hallback_k01_what_are_halls
set_option Elab.async false
set_option linter.all false
set_option autoImplicit false
set_option maxRecDepth 100000
set_option maxHeartbeats 4000000
namespace Dn
open PySem PySem.Spec PyProof.Rows L2
def topS (i : Nat) : Stmt := PySem.Challenge.pw_hallback_k01_what_are_halls.main.body.getD i (.Pass ⟨0, 0, 0, 0⟩)
abbrev s_is_whole : Stmt := topS 17
abbrev s_are_whole : Stmt := topS 18
abbrev s_is_tuple : Stmt := topS 20
abbrev s_all_turns : Stmt := topS 28
abbrev s__are_desks : Stmt := topS 50
abbrev s__are_ranks : Stmt := topS 49
abbrev s_is_hall : Stmt := topS 39
abbrev s_need_hall : Stmt := topS 43
abbrev s_need_written : Stmt := topS 46
abbrev s__law_well : Stmt := topS 140
abbrev s__law_take : Stmt := topS 141
abbrev s__law_bags : Stmt := topS 142
abbrev s__law_same : Stmt := topS 143
abbrev s__law_in : Stmt := topS 144
abbrev s__law_some : Stmt := topS 148
abbrev s__law_hall : Stmt := topS 149
abbrev s__law_good : Stmt := topS 150
end Dn
namespace Dn
open PySem PySem.Spec PyProof.Rows L2
open Evl (Ex fresh_back)
abbrev D := PyData
def keyD : Key → D
  | .inl i => .int i
  | .inr x => .str x
def ih (k : List Int) : Int := reduceHash (Builtin.Tuple.tupleHashOf (k.map hashInt))
abbrev XRow := List Int × Addr × V
def XRel : List XRow → List (List Int × Addr × Value) → Prop := Paired fun p q => p.1 = q.1 ∧ p.2.1 = q.2.1 ∧ RelV p.2.2 q.2.2
def xDφ (a : Addr) (rows : List XRow) (h : Heap) : Prop := rows.length ≤ sizeLine ∧ (a == sysModules) = false ∧ (rows.map (·.1)).Nodup ∧ ∃ cs, XRel rows cs ∧
  ∃ o es ep, h.get? a = some o ∧ o.ExactDict ∧ o.data = .dict es ep ∧ es.toList = cs.map fun x => (⟨ih x.1, .ref x.2.1, x.2.2⟩ : DictEntry)
def xD (a : Addr) (rows : List XRow) : HO := .ext (xDφ a rows)
abbrev NRow := NestedKey × Addr × V
def NRel : List NRow → List (NestedKey × Addr × Value) → Prop := Paired fun p q => p.1 = q.1 ∧ p.2.1 = q.2.1 ∧ RelV p.2.2 q.2.2
mutual
/-- no text in it -/
def noT : NestedKey → Bool
  | .none => true
  | .num _ => true
  | .text _ => false
  | .tup ks => noTs ks
def noTs : List NestedKey → Bool
  | [] => true
  | k :: ks => noT k && noTs ks
end
def nDφ (a : Addr) (rows : List NRow) (h : Heap) : Prop := rows.length ≤ sizeLine ∧ (a == sysModules) = false ∧ (rows.map (·.1)).Nodup ∧ (∀ r ∈ rows, noT r.1 = true ∧ r.1.depth ≤ 8) ∧ ∃ (w : World) (cs : List (NestedKey × Addr × Value)), NRel rows cs ∧
  ∃ o es ep, h.get? a = some o ∧ o.ExactDict ∧ o.data = .dict es ep ∧ es.toList = cs.map fun x => (⟨x.1.hash w, .ref x.2.1, x.2.2⟩ : DictEntry)
def nD (a : Addr) (rows : List NRow) : HO := .ext (nDφ a rows)
/-- a tuple that has no dict of its own -/
def TupS (G : Hp) (a : Addr) (xs : List V) : Prop := ∃ o : Obj, o.dict = none ∧ G a = some (.frz o (.tup xs))
theorem TupS.mono {G G' : Hp} (e : Ex G G') {a : Addr} {xs : List V} (h : TupS G a xs) : TupS G' a xs := by
  obtain ⟨o, h1, h2⟩ := h
  exact ⟨o, h1, e _ _ h2⟩
theorem TupS.rd {G : Hp} {a : Addr} {xs : List V} (h : TupS G a xs) : Rd G a (.tup xs) := by
  obtain ⟨o, _, h⟩ := h
  exact .inr ⟨o, h⟩
theorem TupS.sq {K : PySem.W.Frag} {G H : Hp} {a : Addr} {xs : List V} (h : TupS G a xs) (e : Ex G H) : SqT K H a xs := .inl (h.mono e).rd
theorem TupS.new {G : Hp} {a : Addr} {xs : List V} {o : Obj} (h : o.dict = none) : TupS (upd G a (.frz o (.tup xs))) a xs := ⟨o, h, upd_same⟩
mutual
inductive Rp (G : Hp) : V → D → Prop
  | non : Rp G .non .none
  | bl (b : Bool) : Rp G (.bl b) (.bool b)
  | int (i : Int) : Rp G (.int i) (.int i)
  | str (x : Str) : Rp G (.str x) (.str x)
  | lst {a : Addr} {xs : List V} {ds : List D} : G a = some (.lst xs) → RpAll G xs ds → Rp G (.ref a) (.list ds)
  | tup {a : Addr} {xs : List V} {ds : List D} : TupS G a xs → RpAll G xs ds → Rp G (.ref a) (.tuple ds)
  | dK {a : Addr} {ks : List Key} {xs : List V} {ds : List D} : G a = some (.dK (ks.zip xs)) → ks.length = xs.length → RpAll G xs ds → Rp G (.ref a) (.dict ((ks.map keyD).zip ds))
  | dT {a : Addr} {rows : List XRow} {ds : List D} : G a = some (xD a rows) → (∀ r ∈ rows, TupS G r.2.1 (r.1.map V.int)) → RpAll G (rows.map (·.2.2)) ds → Rp G (.ref a) (.dict ((rows.map fun r => PyData.tuple (r.1.map PyData.int)).zip ds))
  /-- a dict that nobody writes any more -/
  | dP {a : Addr} {o : Obj} {rows : List XRow} {ds : List D} : G a = some (.frz o (xD a rows)) → (∀ r ∈ rows, TupS G r.2.1 (r.1.map V.int)) → RpAll G (rows.map (·.2.2)) ds → Rp G (.ref a) (.dict [(.none, .dict ((rows.map fun r => PyData.tuple (r.1.map PyData.int)).zip ds))])
  /-- the list that the law is handed -/
  | scr {a : Addr} {o : Obj} {xs : List V} {ds : List D} : G a = some (.frz o (.lst xs)) → RpAll G xs ds → Rp G (.ref a) (.dict [(.none, .list ds)])
  /-- a range -/
  | rng {a : Addr} {lo hi : Int} : G a = some (.rng lo hi) → Rp G (.ref a) (.dict [(.bool true, .tuple [.int lo, .int hi])])
  /-- a dict keyed by nested tuples -/
  | dN {a : Addr} {rows : List NRow} {ds : List D} : G a = some (nD a rows) → (∀ r : NRow, r ∈ rows → Rp G (.ref r.2.1) r.1.data) → RpAll G (rows.map (·.2.2)) ds → Rp G (.ref a) (.dict [(.bool false, .dict ((rows.map fun r => r.1.data).zip ds))])
  /-- .. that nobody writes any more -/
  | dQ {a : Addr} {o : Obj} {rows : List NRow} {ds : List D} : G a = some (.frz o (nD a rows)) → (∀ r : NRow, r ∈ rows → Rp G (.ref r.2.1) r.1.data) → RpAll G (rows.map (·.2.2)) ds → Rp G (.ref a) (.dict [(.bool true, .dict ((rows.map fun r => r.1.data).zip ds))])
inductive RpAll (G : Hp) : List V → List D → Prop
  | nil : RpAll G [] []
  | cons {v : V} {vs : List V} {d : D} {ds : List D} : Rp G v d → RpAll G vs ds → RpAll G (v :: vs) (d :: ds)
end
mutual
theorem Rp.mono {G G' : Hp} (e : Ex G G') : ∀ {v : V} {d : D}, Rp G v d → Rp G' v d
  | _, _, .non => .non
  | _, _, .bl b => .bl b
  | _, _, .int i => .int i
  | _, _, .str x => .str x
  | _, _, .lst h r => .lst (e _ _ h) (RpAll.mono e r)
  | _, _, .tup h r => .tup (h.mono e) (RpAll.mono e r)
  | _, _, .dK h l r => .dK (e _ _ h) l (RpAll.mono e r)
  | _, _, .dT h l r => .dT (e _ _ h) (fun x hx => (l x hx).mono e) (RpAll.mono e r)
  | _, _, .dP h l r => .dP (e _ _ h) (fun x hx => (l x hx).mono e) (RpAll.mono e r)
  | _, _, .scr h r => .scr (e _ _ h) (RpAll.mono e r)
  | _, _, .rng h => .rng (e _ _ h)
  | _, _, .dN h l r => .dN (e _ _ h) (fun x hx => Rp.mono e (l x hx)) (RpAll.mono e r)
  | _, _, .dQ h l r => .dQ (e _ _ h) (fun x hx => Rp.mono e (l x hx)) (RpAll.mono e r)
theorem RpAll.mono {G G' : Hp} (e : Ex G G') : ∀ {v : List V} {d : List D}, RpAll G v d → RpAll G' v d
  | _, _, .nil => .nil
  | _, _, .cons h r => .cons (Rp.mono e h) (RpAll.mono e r)
end
mutual
theorem Rp.dp {K : PySem.W.Frag} {G H : Hp} (e : Ex G H) : ∀ {v : V} {d : D}, Rp G v d → PyData.canLay0 d = true → Dp K H v d
  | _, _, .non, _ => .non
  | _, _, .bl b, _ => .bl b
  | _, _, .int i, _ => .int i
  | _, _, .str x, _ => .str x
  | _, _, .lst h r, c => .lst (.of (e _ _ h)) (RpAll.dp e r (by simpa [PyData.canLay0] using c))
  | _, _, .tup h r, c => .tup (h.sq e) (RpAll.dp e r (by simpa [PyData.canLay0] using c))
  | _, _, .dK h l r, c => by simp [PyData.canLay0] at c
  | _, _, .dT h l r, c => by simp [PyData.canLay0] at c
  | _, _, .dP h l r, c => by simp [PyData.canLay0] at c
  | _, _, .scr h r, c => by simp [PyData.canLay0] at c
  | _, _, .rng h, c => by simp [PyData.canLay0] at c
  | _, _, .dN h l r, c => by simp [PyData.canLay0] at c
  | _, _, .dQ h l r, c => by simp [PyData.canLay0] at c
theorem RpAll.dp {K : PySem.W.Frag} {G H : Hp} (e : Ex G H) : ∀ {v : List V} {d : List D}, RpAll G v d → PyData.canLayAll0 d = true → DpAll K H v d
  | _, _, .nil, _ => .nil
  | _, d :: ds, .cons h r, c => by
    have c' : PyData.canLay0 d = true ∧ PyData.canLayAll0 ds = true := by simpa [PyData.canLayAll0] using c
    exact .cons (Rp.dp e h c'.1) (RpAll.dp e r c'.2)
end
theorem RpAll.length {G : Hp} : ∀ {v : List V} {d : List D}, RpAll G v d → v.length = d.length
  | _, _, .nil => rfl
  | _, _, .cons _ r => congrArg (· + 1) (RpAll.length r)
theorem RpAll.get {G : Hp} : ∀ {vs : List V} {ds : List D} {i : Nat} {d : D}, RpAll G vs ds → ds[i]? = some d → ∃ v, vs[i]? = some v ∧ Rp G v d
  | _, _, 0, _, .cons h _, e => ⟨_, rfl, by cases e; exact h⟩
  | _, _, i + 1, _, .cons _ r, e => RpAll.get (i := i) r e
theorem RpAll.append {G : Hp} : ∀ {vs ws : List V} {ds es : List D}, RpAll G vs ds → RpAll G ws es → RpAll G (vs ++ ws) (ds ++ es)
  | _, _, _, _, .nil, s => s
  | _, _, _, _, .cons h r, s => .cons h (RpAll.append r s)
theorem RpAll.take {G : Hp} : ∀ {vs : List V} {ds : List D} (n : Nat), RpAll G vs ds → RpAll G (vs.take n) (ds.take n)
  | _, _, 0, _ => .nil
  | _, _, _ + 1, .nil => .nil
  | _, _, n + 1, .cons h r => .cons h (RpAll.take n r)
theorem RpAll.drop {G : Hp} : ∀ {vs : List V} {ds : List D} (n : Nat), RpAll G vs ds → RpAll G (vs.drop n) (ds.drop n)
  | _, _, 0, r => r
  | _, _, _ + 1, .nil => .nil
  | _, _, n + 1, .cons _ r => RpAll.drop n r
theorem RpAll.set {G : Hp} {v : V} {d : D} (h : Rp G v d) : ∀ {vs : List V} {ds : List D} (i : Nat), RpAll G vs ds → RpAll G (vs.set i v) (ds.set i d)
  | _, _, _, .nil => .nil
  | _, _, 0, .cons _ r => .cons h r
  | _, _, i + 1, .cons q r => .cons q (RpAll.set h i r)
theorem RpAll.reverse {G : Hp} {vs : List V} {ds : List D} (h : RpAll G vs ds) : RpAll G vs.reverse ds.reverse := by
  have aux : ∀ {vs : List V} {ds : List D}, RpAll G vs ds → RpAll G vs.reverse ds.reverse := by
    intro vs
    induction vs with
    | nil => intro ds h; cases h; exact .nil
    | cons v vs ih => intro ds h; cases h with | cons a r => rw [List.reverse_cons, List.reverse_cons]; exact (ih r).append (.cons a .nil)
  exact aux h
theorem RpAll.of_get {G : Hp} : ∀ {vs : List V} {ds : List D}, vs.length = ds.length → (∀ (j : Nat) v d, vs[j]? = some v → ds[j]? = some d → Rp G v d) → RpAll G vs ds
  | [], [], _, _ => .nil
  | v :: vs, d :: ds, hl, h => .cons (h 0 v d rfl rfl) (RpAll.of_get (by simpa using hl) fun j a b ha hb => h (j + 1) a b ha hb)
  | [], _ :: _, hl, _ => by cases hl
  | _ :: _, [], hl, _ => by cases hl
theorem Rp.inv_list {G : Hp} {v : V} {ds : List D} (h : Rp G v (.list ds)) : ∃ a xs, v = .ref a ∧ G a = some (.lst xs) ∧ RpAll G xs ds := by
  cases h with | lst h r => exact ⟨_, _, rfl, h, r⟩
theorem Rp.inv_tup {G : Hp} {v : V} {ds : List D} (h : Rp G v (.tuple ds)) : ∃ a xs, v = .ref a ∧ TupS G a xs ∧ RpAll G xs ds := by
  cases h with | tup h r => exact ⟨_, _, rfl, h, r⟩
theorem Rp.inv_int {G : Hp} {v : V} {i : Int} (h : Rp G v (.int i)) : v = .int i := by cases h; rfl
theorem Rp.inv_bl {G : Hp} {v : V} {i : Bool} (h : Rp G v (.bool i)) : v = .bl i := by cases h; rfl
/-- data that stand in no heap -/
def flatD : D → Bool
  | .none => true
  | .bool _ => true
  | .int _ => true
  | .str _ => true
  | _ => false
theorem Rp.flat {G G' : Hp} {v : V} {d : D} (h : Rp G v d) (f : flatD d = true) : Rp G' v d := by
  cases h with
  | non => exact .non
  | bl b => exact .bl b
  | int i => exact .int i
  | str x => exact .str x
  | _ => cases f
theorem RpAll.flat {G G' : Hp} : ∀ {vs : List V} {ds : List D}, RpAll G vs ds → ds.all flatD = true → RpAll G' vs ds
  | _, _, .nil, _ => .nil
  | _, _, .cons h r, f => by
    rw [List.all_cons, Bool.and_eq_true] at f
    exact .cons (h.flat f.1) (RpAll.flat r f.2)
/-- nothing that stands changes; what is new may be known -/
structure Pu (G H G' H' : Hp) : Prop where
  g : Ex G G'
  h : Ex H H'
  s : Ex G' H'
  n : ∀ a, H a ≠ none → G a = none → G' a = none
theorem Pu.refl {G H : Hp} (e : Ex G H) : Pu G H G H := ⟨Ex.refl G, Ex.refl H, e, fun _ _ h => h⟩
theorem Ex.some' {H H' : Hp} (e : Ex H H') {a : Addr} (h : H a ≠ none) : H' a ≠ none := by
  cases q : H a with
  | none => exact absurd q h
  | some o => rw [e a o q]; exact fun z => nomatch z
theorem Pu.trans {G H G1 H1 G2 H2 : Hp} (a : Pu G H G1 H1) (b : Pu G1 H1 G2 H2) : Pu G H G2 H2 :=
  ⟨a.g.trans b.g, a.h.trans b.h, b.s, fun x h n => b.n x (Ex.some' a.h h) (a.n x h n)⟩
/-- a new object, known from now on -/
theorem Pu.new {G H : Hp} (e : Ex G H) {p : Addr} {o : HO} (hp : H p = none) : Pu G H (upd G p o) (upd H p o) := by
  refine ⟨Ex.new (fresh_back e hp), Ex.new hp, fun a u q => ?_, fun a h n => ?_⟩
  · by_cases ha : a = p
    · subst ha; rw [upd_same] at q ⊢; exact q
    · rw [upd_ne ha] at q ⊢; exact e a u q
  · by_cases ha : a = p
    · subst ha; exact absurd hp h
    · rw [upd_ne ha]; exact n
/-- a new object that is not known -/
theorem Pu.newH {G H : Hp} (e : Ex G H) {p : Addr} {o : HO} (hp : H p = none) : Pu G H G (upd H p o) :=
  ⟨Ex.refl G, Ex.new hp, e.trans (Ex.new hp), fun _ _ n => n⟩
theorem some_ne {H : Hp} {a : Addr} {o : HO} (h : H a = some o) : H a ≠ none := by rw [h]; exact fun z => nomatch z
inductive SV where
  /-- data that nobody changes -/
  | fz (d : D)
  /-- a list of one's own, so many levels deep (io: the one that was handed in at this place) -/
  | ow (io : Bool) (k : Nat) (d : D)
abbrev DEnv := List (Option SV)
abbrev Lab := Addr → Option (List Nat)
abbrev Bs := Nat → Addr
/-- a thing of one's own, k levels deep: each of its lists, dicts is labelled by its place -/
def OwnR (L : Lab) (G H : Hp) : Nat → List Nat → V → D → Prop
  | 0, _, v, d => Rp G v d
  | k + 1, p, v, .list ds => ∃ a vs, v = .ref a ∧ H a = some (.lst vs) ∧ L a = some p ∧ vs.length = ds.length ∧ ∀ (j : Nat) (v : V) (d : D), vs[j]? = some v → ds[j]? = some d → OwnR L G H k (p ++ [j]) v d
  | 1, p, v, .dict kvs => ∃ a, v = .ref a ∧ L a = some p ∧
      ∃ (rows : List XRow) (ds : List D), H a = some (xD a rows) ∧ (∀ r ∈ rows, TupS G r.2.1 (r.1.map V.int)) ∧ RpAll G (rows.map (·.2.2)) ds ∧ kvs = (rows.map fun r => PyData.tuple (r.1.map PyData.int)).zip ds
  | 2, p, v, .dict kvs => ∃ a, v = .ref a ∧ L a = some p ∧
      ∃ (rows : List NRow) (ds : List D), H a = some (nD a rows) ∧ (∀ r ∈ rows, Rp G (.ref r.2.1) r.1.data) ∧ RpAll G (rows.map (·.2.2)) ds ∧ kvs = [(.bool false, .dict ((rows.map fun r => r.1.data).zip ds))]
  | _ + 1, _, _, _ => False
def SRep (bs : Bs) (L : Lab) (G H : Hp) (i : Nat) (v : V) : SV → Prop
  | .fz d => Rp G v d
  | .ow io k d => OwnR L G H (k + 1) [i] v d ∧ (io = true → v = .ref (bs i))
/-- P: what may change; bs: the lists that were handed in to be changed -/
structure Rep (P : Addr → Prop) (bs : Bs) (G H : Hp) (σ : L2.St) (env : DEnv) : Prop where
  len : σ.length = env.length
  sub : Ex G H
  fresh : ∀ p, H p = none → P p
  rep : ∃ L : Lab, (∀ a p, L a = some p → P a ∧ G a = none) ∧ ∀ (i : Nat) (s : SV), env[i]? = some (some s) → ∃ v, σ[i]? = some (some v) ∧ SRep bs L G H i v s
structure Gr (P : Addr → Prop) (G H G' H' : Hp) : Prop where
  g : Ex G G'
  h : ∀ a o, H a = some o → ¬ P a → H' a = some o
  n : ∀ a, ¬ P a → G a = none → G' a = none
theorem Gr.refl {P : Addr → Prop} {G H : Hp} : Gr P G H G H := ⟨Ex.refl G, fun _ _ h _ => h, fun _ _ h => h⟩
theorem Gr.trans {P : Addr → Prop} {G H G1 H1 G2 H2 : Hp} (a : Gr P G H G1 H1) (b : Gr P G1 H1 G2 H2) : Gr P G H G2 H2 :=
  ⟨a.g.trans b.g, fun x o h n => b.h x o (a.h x o h n) n, fun x h n => b.n x h (a.n x h n)⟩
theorem Gr.wk {P P' : Addr → Prop} {G H G' H' : Hp} (a : Gr P G H G' H') (w : ∀ x, P x → P' x) : Gr P' G H G' H' :=
  ⟨a.g, fun x o h n => a.h x o h fun z => n (w x z), fun x h n => a.n x (fun z => h (w x z)) n⟩
/-- what is one's own stays where its lists stay -/
theorem OwnR.keep {L L' : Lab} {G G' H H' : Hp} (g : Ex G G') : ∀ (k : Nat) {p p' : List Nat} {v : V} {d : D}, (∀ a q, L a = some (p ++ q) → L' a = some (p' ++ q) ∧ ∀ o, H a = some o → H' a = some o) → OwnR L G H k p v d → OwnR L' G' H' k p' v d
  | 0, _, _, _, _, _, r => Rp.mono g r
  | 1, p, p', v, .dict kvs, hk, r => by
    obtain ⟨a, rfl, hl, r⟩ := r
    obtain ⟨h1, h2⟩ := hk a [] (by rw [List.append_nil]; exact hl)
    rw [List.append_nil] at h1
    refine ⟨a, rfl, h1, ?_⟩
    obtain ⟨rows, ds, e1, e2, e3, e4⟩ := r
    exact ⟨rows, ds, h2 _ e1, fun x hx => (e2 x hx).mono g, e3.mono g, e4⟩
  | 2, p, p', v, .dict kvs, hk, r => by
    obtain ⟨a, rfl, hl, r⟩ := r
    obtain ⟨h1, h2⟩ := hk a [] (by rw [List.append_nil]; exact hl)
    rw [List.append_nil] at h1
    refine ⟨a, rfl, h1, ?_⟩
    obtain ⟨rows, ds, e1, e2, e3, e4⟩ := r
    exact ⟨rows, ds, h2 _ e1, fun x hx => (e2 x hx).mono g, e3.mono g, e4⟩
  | k + 1, p, p', v, .list ds, hk, r => by
    unfold OwnR at r ⊢
    obtain ⟨a, vs, rfl, ha, hl, hn, r⟩ := r
    obtain ⟨h1, h2⟩ := hk a [] (by rw [List.append_nil]; exact hl)
    rw [List.append_nil] at h1
    refine ⟨a, vs, rfl, h2 _ ha, h1, hn, fun j w e hw he => OwnR.keep g k (fun b q hb => ?_) (r j w e hw he)⟩
    obtain ⟨k1, k2⟩ := hk b ([j] ++ q) (by rw [← List.append_assoc]; exact hb)
    exact ⟨by rw [List.append_assoc]; exact k1, k2⟩
  | k + 3, _, _, _, .dict _, _, r => False.elim (by unfold OwnR at r; exact r)
  | k + 1, _, _, _, .none, _, r => False.elim (by unfold OwnR at r; exact r)
  | k + 1, _, _, _, .bool _, _, r => False.elim (by unfold OwnR at r; exact r)
  | k + 1, _, _, _, .int _, _, r => False.elim (by unfold OwnR at r; exact r)
  | k + 1, _, _, _, .str _, _, r => False.elim (by unfold OwnR at r; exact r)
  | k + 1, _, _, _, .tuple _, _, r => False.elim (by unfold OwnR at r; exact r)
/-- seen by who changes nothing -/
theorem OwnR.rp {L : Lab} {G H : Hp} (g : Ex G H) : ∀ (k : Nat) {p : List Nat} {v : V} {d : D}, OwnR L G H k p v d → Rp H v d
  | 0, _, _, _, r => Rp.mono g r
  | 1, p, v, .dict kvs, r => by
    obtain ⟨a, rfl, hl, r⟩ := r
    obtain ⟨rows, ds, e1, e2, e3, rfl⟩ := r
    exact .dT e1 (fun x hx => (e2 x hx).mono g) (e3.mono g)
  | 2, p, v, .dict kvs, r => by
    obtain ⟨a, rfl, hl, r⟩ := r
    obtain ⟨rows, ds, e1, e2, e3, rfl⟩ := r
    exact .dN e1 (fun x hx => (e2 x hx).mono g) (e3.mono g)
  | k + 1, p, v, .list ds, r => by
    unfold OwnR at r
    obtain ⟨a, vs, rfl, ha, hl, hn, r⟩ := r
    exact .lst ha (RpAll.of_get hn fun j w e hw he => OwnR.rp g k (r j w e hw he))
  | k + 3, _, _, .dict _, r => False.elim (by unfold OwnR at r; exact r)
  | k + 1, _, _, .none, r => False.elim (by unfold OwnR at r; exact r)
  | k + 1, _, _, .bool _, r => False.elim (by unfold OwnR at r; exact r)
  | k + 1, _, _, .int _, r => False.elim (by unfold OwnR at r; exact r)
  | k + 1, _, _, .str _, r => False.elim (by unfold OwnR at r; exact r)
  | k + 1, _, _, .tuple _, r => False.elim (by unfold OwnR at r; exact r)
end Dn
namespace Dn
open PySem PySem.Spec PyProof.Rows L2
open Evl (Ex fresh_back)
open Classical
theorem get_set {α : Type} {l : List α} {i j : Nat} {x y : α} (h : (l.set i x)[j]? = some y) : (j = i ∧ x = y ∧ i < l.length) ∨ (j ≠ i ∧ l[j]? = some y) := by
  by_cases hj : j = i
  · subst hj
    have hl : j < l.length := by
      have := (List.getElem?_eq_some_iff.mp h).1
      simpa using this
    rw [List.getElem?_set_self hl] at h
    cases h
    exact .inl ⟨rfl, rfl, hl⟩
  · rw [List.getElem?_set_ne (Ne.symm hj)] at h
    exact .inr ⟨hj, h⟩
/-- a tree of one's own: its lists N, k levels deep -/
structure Tree (P : Addr → Prop) (G H : Hp) (N : Addr → Prop) (k : Nat) (v : V) (d : D) : Prop where
  n : ∀ a, N a → P a ∧ G a = none ∧ H a ≠ none
  r : ∃ L : Lab, (∀ a p, L a = some p → N a) ∧ OwnR L G H k [] v d
section
variable {P P' : Addr → Prop} {bs : Bs} {G H G' H' : Hp} {σ : L2.St} {env env' : DEnv} {N : Addr → Prop} {k : Nat}
theorem Rep.fz (r : Rep P bs G H σ env) (i : Nat) (d : D) (h : env[i]? = some (some (SV.fz d))) : ∃ v : V, σ[i]? = some (some v) ∧ Rp G v d := by
  obtain ⟨L, _, r⟩ := r.rep
  exact r i _ h
/-- .. of any depth -/
theorem Rep.own (r : Rep P bs G H σ env) {i : Nat} {io : Bool} {k : Nat} {d : D} (h : env[i]? = some (some (SV.ow io k d))) :
    ∃ v, σ[i]? = some (some v) ∧ Rp H v d ∧ (io = true → v = .ref (bs i)) := by
  obtain ⟨L, hL, r'⟩ := r.rep
  obtain ⟨v, hv, hr, hio⟩ := r' i _ h
  exact ⟨v, hv, hr.rp r.sub, hio⟩
theorem Pu.gr (p : Pu G H G' H') (f : ∀ p, H p = none → P p) : Gr P G H G' H' :=
  ⟨p.g, fun a o h _ => p.h a o h, fun a h n => p.n a (fun z => h (f a z)) n⟩
/-- what stands stays, what is one's own too -/
theorem Rep.keep (r : Rep P bs G H σ env) (g : Ex G G') (s : Ex G' H') (f : ∀ p, H' p = none → P' p) (hk : ∀ a, P a → G a = none → H a ≠ none → P' a ∧ G' a = none ∧ ∀ o, H a = some o → H' a = some o) : Rep P' bs G' H' σ env := by
  obtain ⟨L, hL, hr⟩ := r.rep
  refine ⟨r.len, s, f, fun a => if H a = none then none else L a, fun a p h => ?_, fun i sv h => ?_⟩
  · by_cases ha : H a = none
    · simp [ha] at h
    · simp [ha] at h
      obtain ⟨h1, h2⟩ := hL a p h
      obtain ⟨h3, h4, _⟩ := hk a h1 h2 ha
      exact ⟨h3, h4⟩
  · obtain ⟨v, hv, hs⟩ := hr i sv h
    refine ⟨v, hv, ?_⟩
    cases sv with
    | fz d => exact Rp.mono g hs
    | ow io k d =>
      refine ⟨?_, hs.2⟩
      have aux : ∀ (k : Nat) {p : List Nat} {v : V} {d : D}, OwnR L G H k p v d → OwnR (fun a => if H a = none then none else L a) G H k p v d := by
        intro k
        induction k with
        | zero => intro p v d h; exact h
        | succ k ih =>
          intro p v d h
          cases d with
          | list ds =>
            unfold OwnR at h ⊢
            obtain ⟨a, vs, rfl, ha, hl, hn, h⟩ := h
            exact ⟨a, vs, rfl, ha, by simp [ha, hl], hn, fun j w e hw he => ih (h j w e hw he)⟩
          | dict kvs =>
            cases k with
            | zero =>
              obtain ⟨a, rfl, hl, h⟩ := h
              refine ⟨a, rfl, ?_, h⟩
              have : H a ≠ none := by
                obtain ⟨_, _, e, _⟩ := h
                exact some_ne e
              simp [this, hl]
            | succ k => cases k with
              | zero =>
                obtain ⟨a, rfl, hl, h⟩ := h
                refine ⟨a, rfl, ?_, h⟩
                have : H a ≠ none := by
                  obtain ⟨_, _, e, _⟩ := h
                  exact some_ne e
                simp [this, hl]
              | succ k => unfold OwnR at h; exact h.elim
          | _ => unfold OwnR at h; exact h.elim
      refine (aux _ hs.1).keep g _ fun a q hq => ?_
      have ha : H a ≠ none := by
        intro z
        simp [z] at hq
      simp [ha] at hq
      obtain ⟨h1, h2⟩ := hL a _ hq
      exact ⟨by simp [ha, hq], (hk a h1 h2 ha).2.2⟩
theorem Rep.pu (r : Rep P bs G H σ env) (p : Pu G H G' H') : Rep P bs G' H' σ env :=
  r.keep p.g p.s (fun a h => r.fresh a (fresh_back p.h h)) fun a h1 h2 h3 => ⟨h1, p.n a h3 h2, fun o e => p.h a o e⟩
theorem Rep.wkP (r : Rep P bs G H σ env) (w : ∀ a, P a → P' a) : Rep P' bs G H σ env :=
  r.keep (Ex.refl G) r.sub (fun p h => w p (r.fresh p h)) fun a h1 h2 _ => ⟨w a h1, h2, fun _ e => e⟩
/-- an object that no name speaks of changes -/
theorem Rep.updH (r : Rep P bs G H σ env) {p : Addr} {o : HO} (hp : ¬ P p) (hg : G p = none) : Rep P bs G (upd H p o) σ env := by
  refine r.keep (Ex.refl G) (r.sub.mut hg) (fun a h => ?_) fun a h1 h2 _ => ⟨h1, h2, fun u e => ?_⟩
  · by_cases ha : a = p
    · subst ha
      rw [upd_same] at h
      cases h
    · rw [upd_ne ha] at h
      exact r.fresh a h
  · rw [upd_ne (show a ≠ p from fun z => hp (z ▸ h1))]
    exact e
/-- a new object that no name speaks of -/
theorem Rep.newH (r : Rep P bs G H σ env) {p : Addr} {o : HO} (hp : H p = none) : Rep (fun a => P a ∧ a ≠ p) bs G (upd H p o) σ env := by
  refine r.keep (Ex.refl G) (r.sub.trans (Ex.new hp)) (fun a h => ?_) fun a h1 h2 h3 => ⟨⟨h1, fun z => h3 (z ▸ hp)⟩, h2, fun u e => Ex.new hp _ _ e⟩
  by_cases ha : a = p
  · subst ha
    rw [upd_same] at h
    cases h
  · rw [upd_ne ha] at h
    exact ⟨r.fresh a h, ha⟩
/-- a name holds data -/
theorem Rep.set (r : Rep P bs G H σ env) {i : Nat} {v : V} {d : D} (h : Rp G v d) : Rep P bs G H (σ.set i (some v)) (env.set i (some (.fz d))) := by
  obtain ⟨L, hL, hr⟩ := r.rep
  refine ⟨by simpa using r.len, r.sub, r.fresh, L, hL, fun j s hj => ?_⟩
  rcases get_set hj with ⟨rfl, e, hl⟩ | ⟨hne, hj⟩
  · cases e
    exact ⟨v, List.getElem?_set_self (by rw [r.len]; exact hl), h⟩
  · rw [List.getElem?_set_ne (Ne.symm hne)]
    exact hr j s hj
/-- a tree of one's own gets a name -/
theorem Rep.ownNew {v : V} {d : D} (r : Rep (fun a => P a ∧ ¬ N a) bs G H σ env) (t : Tree P G H N (k + 1) v d) (i : Nat) : Rep P bs G H (σ.set i (some v)) (env.set i (some (.ow false k d))) := by
  obtain ⟨L, hL, hr⟩ := r.rep
  obtain ⟨Lt, hLt, ht⟩ := t.r
  refine ⟨by simpa using r.len, r.sub, fun p h => (r.fresh p h).1, fun a => if N a then (Lt a).map (i :: ·) else (match L a with | some (j :: q) => if j = i then none else some (j :: q) | _ => none), fun a p h => ?_, fun j s hj => ?_⟩
  · by_cases ha : N a
    · obtain ⟨h1, h2, _⟩ := t.n a ha
      exact ⟨h1, h2⟩
    · simp only [ha, if_false] at h
      cases w : L a with
      | none => rw [w] at h; cases h
      | some q =>
        obtain ⟨h1, h2⟩ := hL a q w
        exact ⟨h1.1, h2⟩
  · rcases get_set hj with ⟨rfl, e, hl⟩ | ⟨hne, hj⟩
    · cases e
      refine ⟨v, List.getElem?_set_self (by rw [r.len]; exact hl), ht.keep (Ex.refl G) _ fun a q hq => ?_, fun z => by cases z⟩
      have ha := hLt a _ hq
      rw [List.nil_append] at hq
      exact ⟨by simp [ha, hq], fun _ e => e⟩
    · rw [List.getElem?_set_ne (Ne.symm hne)]
      obtain ⟨w, hw, hs⟩ := hr j s hj
      refine ⟨w, hw, ?_⟩
      cases s with
      | fz d => exact hs
      | ow io k' d =>
        refine ⟨hs.1.keep (Ex.refl G) _ fun a q hq => ?_, hs.2⟩
        have hn : ¬ N a := (hL a _ hq).1.2
        refine ⟨?_, fun _ e => e⟩
        simp only [hn, if_false]
        rw [hq]
        simp [hne]
/-- a tree that no name speaks of is known from now on -/
theorem Rep.know {v : V} {d : D} (r : Rep (fun a => P a ∧ ¬ N a) bs G H σ env) (t : Tree P G H N k v d) : ∃ G', Ex G G' ∧ Ex G' H ∧ (∀ a, ¬ P a → G a = none → G' a = none) ∧ Rp G' v d ∧ Rep P bs G' H σ env := by
  have hg : Ex G (fun a => if N a then H a else G a) := fun a o e => by
    have : ¬ N a := fun z => by rw [(t.n a z).2.1] at e; cases e
    simp [this, e]
  have hs : Ex (fun a => if N a then H a else G a) H := fun a o e => by
    by_cases ha : N a
    · simpa [ha] using e
    · simp only [ha, if_false] at e
      exact r.sub a o e
  refine ⟨fun a => if N a then H a else G a, hg, hs, fun a ha hn => ?_, ?_, ?_⟩
  · have : ¬ N a := fun z => ha (t.n a z).1
    simp [this, hn]
  · obtain ⟨Lt, hLt, ht⟩ := t.r
    have aux : ∀ (k : Nat) {p : List Nat} {v : V} {d : D}, OwnR Lt G H k p v d → Rp (fun a => if N a then H a else G a) v d := by
      intro k
      induction k with
      | zero => intro p v d h; exact Rp.mono hg h
      | succ k ih =>
        intro p v d h
        cases d with
        | list ds =>
          unfold OwnR at h
          obtain ⟨a, vs, rfl, ha, hl, hn, h⟩ := h
          exact .lst (by simp [hLt a _ hl, ha]) (RpAll.of_get hn fun j w e hw he => ih (h j w e hw he))
        | dict kvs =>
          cases k with
          | zero =>
            obtain ⟨a, rfl, hl, h⟩ := h
            obtain ⟨rows, ds, e1, e2, e3, rfl⟩ := h
            exact .dT (by simp [hLt a _ hl, e1]) (fun x hx => (e2 x hx).mono hg) (e3.mono hg)
          | succ k => cases k with
            | zero =>
              obtain ⟨a, rfl, hl, h⟩ := h
              obtain ⟨rows, ds, e1, e2, e3, rfl⟩ := h
              exact .dN (by simp [hLt a _ hl, e1]) (fun x hx => (e2 x hx).mono hg) (e3.mono hg)
            | succ k => unfold OwnR at h; exact h.elim
        | _ => unfold OwnR at h; exact h.elim
    exact aux k ht
  · refine r.keep hg hs (fun p h => (r.fresh p h).1) fun a h1 h2 h3 => ⟨h1.1, ?_, fun _ e => e⟩
    simp [h1.2, h2]
/-- what is one's own is left alone by who changes nothing of it -/
theorem Tree.keep {v : V} {d : D} (t : Tree P G H N k v d) (g : Gr (fun a => P a ∧ ¬ N a) G H G' H') : Tree P G' H' N k v d := by
  obtain ⟨Lt, hLt, ht⟩ := t.r
  have stay : ∀ a, N a → ∀ o, H a = some o → H' a = some o := fun a ha o e => g.h a o e fun z => z.2 ha
  refine ⟨fun a ha => ?_, Lt, hLt, ht.keep g.g _ fun a q hq => ⟨hq, stay a (hLt a _ hq)⟩⟩
  obtain ⟨h1, h2, h3⟩ := t.n a ha
  refine ⟨h1, g.n a (fun z => z.2 ha) h2, ?_⟩
  cases w : H a with
  | none => exact absurd w h3
  | some o => rw [stay a ha o w]; exact fun z => nomatch z
theorem Tree.wk {v : V} {d : D} (t : Tree P G H N k v d) (w : ∀ a, P a → P' a) : Tree P' G H N k v d := ⟨fun a ha => ⟨w a (t.n a ha).1, (t.n a ha).2⟩, t.r⟩
/-- a new list of data -/
theorem Tree.one {p : Addr} {vs : List V} {ds : List D} (hP : P p) (hg : G p = none) (hh : H p = some (.lst vs)) (ra : RpAll G vs ds) : Tree P G H (fun a => a = p) 1 (.ref p) (.list ds) := by
  refine ⟨fun a e => by subst e; exact ⟨hP, hg, some_ne hh⟩, fun a => if a = p then some [] else none, fun a q h => ?_, ?_⟩
  · by_cases ha : a = p
    · exact ha
    · simp [ha] at h
  · unfold OwnR
    refine ⟨p, vs, rfl, hh, by simp, ra.length, fun j w e hw he => ?_⟩
    unfold OwnR
    obtain ⟨w', h1, h2⟩ := ra.get he
    rw [hw] at h1
    cases h1
    exact h2
end
end Dn
namespace Dn
open PySem PySem.Spec PyProof.Rows L2
open Evl (Ex fresh_back)
open Classical
section
variable {P P' : Addr → Prop} {bs : Bs} {G H G' H' : Hp} {σ : L2.St} {env env' : DEnv} {N N' : Addr → Prop} {k : Nat}
/-- one's own is taken out of the names -/
theorem Rep.take (r : Rep P bs G H σ env) {i : Nat} {io : Bool} {d : D} (hi : env[i]? = some (some (SV.ow io k d))) :
    ∃ (N : Addr → Prop) (v : V), σ[i]? = some (some v) ∧ Tree P G H N (k + 1) v d ∧ Rep (fun a => P a ∧ ¬ N a) bs G H σ (env.set i none) ∧ (io = true → v = .ref (bs i)) := by
  obtain ⟨L, hL, hr⟩ := r.rep
  obtain ⟨v, hv, hs, hio⟩ := hr i _ hi
  refine ⟨fun a => H a ≠ none ∧ ∃ q, L a = some (i :: q), v, hv, ⟨fun a ⟨h, q, hq⟩ => ⟨(hL a _ hq).1, (hL a _ hq).2, h⟩, fun a => if H a = none then none else (match L a with | some (j :: q) => if j = i then some q else none | _ => none), fun a p h => ?_, ?_⟩, ?_, hio⟩
  · by_cases ha : H a = none
    · simp [ha] at h
    · simp only [ha, if_false] at h
      refine ⟨ha, ?_⟩
      split at h
      · rename_i j q w
        split at h
        · rename_i e
          exact ⟨q, by rw [w, e]⟩
        · cases h
      · cases h
  · have aux : ∀ (k : Nat) {p : List Nat} {v : V} {d : D}, OwnR L G H k (i :: p) v d → OwnR (fun a => if H a = none then none else (match L a with | some (j :: q) => if j = i then some q else none | _ => none)) G H k p v d := by
      intro k
      induction k with
      | zero => intro p v d h; exact h
      | succ k ih =>
        intro p v d h
        cases d with
        | list ds =>
          unfold OwnR at h ⊢
          obtain ⟨a, vs, rfl, ha, hl, hn, h⟩ := h
          exact ⟨a, vs, rfl, ha, by simp [ha, hl], hn, fun j w e hw he => ih (h j w e hw he)⟩
        | dict kvs =>
          cases k with
          | zero =>
            obtain ⟨a, rfl, hl, h⟩ := h
            refine ⟨a, rfl, ?_, h⟩
            have : H a ≠ none := by
              obtain ⟨_, _, e, _⟩ := h
              exact some_ne e
            simp [this, hl]
          | succ k => cases k with
            | zero =>
              obtain ⟨a, rfl, hl, h⟩ := h
              refine ⟨a, rfl, ?_, h⟩
              have : H a ≠ none := by
                obtain ⟨_, _, e, _⟩ := h
                exact some_ne e
              simp [this, hl]
            | succ k => unfold OwnR at h; exact h.elim
        | _ => unfold OwnR at h; exact h.elim
    exact aux (k + 1) hs
  · refine ⟨by simpa using r.len, r.sub, fun p h => ⟨r.fresh p h, fun z => z.1 h⟩, fun a => (match L a with | some (j :: q) => if j = i then none else some (j :: q) | _ => none), fun a p h => ?_, fun j s hj => ?_⟩
    · simp only [] at h
      split at h
      · rename_i j q w
        split at h
        · cases h
        · rename_i e
          refine ⟨⟨(hL a _ w).1, fun z => ?_⟩, (hL a _ w).2⟩
          obtain ⟨_, q', hq'⟩ := z
          rw [w] at hq'
          cases hq'
          exact e rfl
      · cases h
    · rcases get_set hj with ⟨_, e, _⟩ | ⟨hne, hj⟩
      · cases e
      · obtain ⟨w, hw, hs'⟩ := hr j s hj
        refine ⟨w, hw, ?_⟩
        cases s with
        | fz d => exact hs'
        | ow io' k' d' => exact ⟨hs'.1.keep (Ex.refl G) _ fun a q hq => ⟨by rw [hq]; simp [hne], fun _ e => e⟩, hs'.2⟩
/-- .. and put back, at the name that holds it -/
theorem Rep.put {v : V} {d : D} (r : Rep (fun a => P a ∧ ¬ N a) bs G H σ env) (t : Tree P G H N (k + 1) v d) {i : Nat} {io : Bool} (hv : σ[i]? = some (some v)) (hio : io = true → v = .ref (bs i)) : Rep P bs G H σ (env.set i (some (.ow io k d))) := by
  obtain ⟨L, hL, hr⟩ := r.rep
  obtain ⟨Lt, hLt, ht⟩ := t.r
  refine ⟨by simpa using r.len, r.sub, fun p h => (r.fresh p h).1, fun a => if N a then (Lt a).map (i :: ·) else (match L a with | some (j :: q) => if j = i then none else some (j :: q) | _ => none), fun a p h => ?_, fun j s hj => ?_⟩
  · by_cases ha : N a
    · obtain ⟨h1, h2, _⟩ := t.n a ha
      exact ⟨h1, h2⟩
    · simp only [ha, if_false] at h
      cases w : L a with
      | none => rw [w] at h; cases h
      | some q =>
        obtain ⟨h1, h2⟩ := hL a q w
        exact ⟨h1.1, h2⟩
  · rcases get_set hj with ⟨rfl, e, hl⟩ | ⟨hne, hj⟩
    · cases e
      refine ⟨v, hv, ht.keep (Ex.refl G) _ fun a q hq => ?_, hio⟩
      have ha := hLt a _ hq
      rw [List.nil_append] at hq
      exact ⟨by simp [ha, hq], fun _ e => e⟩
    · obtain ⟨w, hw, hs⟩ := hr j s hj
      refine ⟨w, hw, ?_⟩
      cases s with
      | fz d => exact hs
      | ow io k' d =>
        refine ⟨hs.1.keep (Ex.refl G) _ fun a q hq => ?_, hs.2⟩
        have hn : ¬ N a := (hL a _ hq).1.2
        refine ⟨?_, fun _ e => e⟩
        simp only [hn, if_false]
        rw [hq]
        simp [hne]
theorem set_set_env {e : DEnv} {i : Nat} {x y : Option SV} : (e.set i x).set i y = e.set i y := by simp
/-- one's own is known from now on -/
theorem Rep.ownKnow (r : Rep P bs G H σ env) {i : Nat} {io : Bool} {d : D} (hi : env[i]? = some (some (SV.ow io k d))) :
    ∃ G', Ex G G' ∧ Ex G' H ∧ (∀ a, ¬ P a → G a = none → G' a = none) ∧ Rep P bs G' H σ (env.set i (some (.fz d))) := by
  obtain ⟨N, v, hv, t, r', _⟩ := r.take hi
  obtain ⟨G', g, s, n, rv, r2⟩ := r'.know t
  refine ⟨G', g, s, n, ?_⟩
  have := r2.set (i := i) rv
  rw [set_set_env] at this
  have e : σ.set i (some v) = σ := by
    refine List.ext_getElem? fun j => ?_
    by_cases hj : i = j
    · subst hj
      have hl : i < σ.length := (List.getElem?_eq_some_iff.mp hv).1
      rw [List.getElem?_set_self hl, hv]
    · rw [List.getElem?_set_ne hj]
  rwa [e] at this
/-- seen by who changes nothing: all of the heap is known -/
def lendSV : SV → SV
  | .fz d => .fz d
  | .ow _ _ d => .fz d
def lendE (env : DEnv) : DEnv := env.map (·.map lendSV)
theorem Rep.lend (r : Rep P bs G H σ env) : Rep (fun a => H a = none) bs H H σ (lendE env) := by
  obtain ⟨L, hL, hr⟩ := r.rep
  refine ⟨by unfold lendE; simpa using r.len, Ex.refl H, fun p h => h, fun _ => none, (fun a p h => by cases h), fun i s h => ?_⟩
  unfold lendE at h
  rw [List.getElem?_map] at h
  cases w : env[i]? with
  | none => rw [w] at h; cases h
  | some o =>
    rw [w] at h
    cases o with
    | none => cases h
    | some s' =>
      cases h
      obtain ⟨v, hv, hs⟩ := hr i s' w
      refine ⟨v, hv, ?_⟩
      cases s' with
      | fz d => exact Rp.mono r.sub hs
      | ow io k d => exact OwnR.rp r.sub _ hs.1
theorem Tree.list1 {v : V} {d : D} (t : Tree P G H N 1 v d) {ds : List D} (hd : d = .list ds) : ∃ a vs, v = .ref a ∧ N a ∧ P a ∧ G a = none ∧ H a = some (.lst vs) ∧ RpAll G vs ds := by
  subst hd
  obtain ⟨L, hL, h⟩ := t.r
  unfold OwnR at h
  obtain ⟨a, vs, rfl, ha, hl, hn, h⟩ := h
  have hN := hL a _ hl
  exact ⟨a, vs, rfl, hN, (t.n a hN).1, (t.n a hN).2.1, ha, RpAll.of_get hn fun j w e hw he => by have := h j w e hw he; unfold OwnR at this; exact this⟩
/-- the list of a tree of one level changes -/
theorem Tree.set1 {a : Addr} {ds : List D} (t : Tree P G H N 1 (.ref a) (.list ds)) {vs : List V} {es : List D} (rv : RpAll G vs es) : Tree P G (upd H a (.lst vs)) N 1 (.ref a) (.list es) := by
  obtain ⟨L, hL, h⟩ := t.r
  unfold OwnR at h
  obtain ⟨a', vs', e, ha, hl, hn, h⟩ := h
  cases e
  refine ⟨fun b hb => ?_, L, hL, ?_⟩
  · obtain ⟨h1, h2, h3⟩ := t.n b hb
    refine ⟨h1, h2, ?_⟩
    by_cases hba : b = a
    · subst hba; rw [upd_same]; exact fun z => nomatch z
    · rw [upd_ne hba]; exact h3
  · unfold OwnR
    refine ⟨a, vs, rfl, upd_same, hl, rv.length, fun j w e hw he => ?_⟩
    unfold OwnR
    obtain ⟨w', h1, h2⟩ := rv.get he
    rw [hw] at h1
    cases h1
    exact h2
/-- the lists of a tree of two levels -/
theorem Tree.list2 {v : V} {d : D} (t : Tree P G H N 2 v d) {ds : List D} (hd : d = .list ds) : ∃ a vs, v = .ref a ∧ N a ∧ P a ∧ G a = none ∧ H a = some (.lst vs) ∧ vs.length = ds.length ∧
    ∀ (j : Nat) (w : V) (es : List D), vs[j]? = some w → ds[j]? = some (.list es) → ∃ b ws, w = .ref b ∧ N b ∧ P b ∧ b ≠ a ∧ G b = none ∧ H b = some (.lst ws) ∧ RpAll G ws es := by
  subst hd
  obtain ⟨L, hL, h⟩ := t.r
  unfold OwnR at h
  obtain ⟨a, vs, rfl, ha, hl, hn, h⟩ := h
  have hN := hL a _ hl
  refine ⟨a, vs, rfl, hN, (t.n a hN).1, (t.n a hN).2.1, ha, hn, fun j w es hw he => ?_⟩
  have := h j w _ hw he
  unfold OwnR at this
  obtain ⟨b, ws, rfl, hb, hbl, hbn, hbr⟩ := this
  have hNb := hL b _ hbl
  refine ⟨b, ws, rfl, hNb, (t.n b hNb).1, fun z => ?_, (t.n b hNb).2.1, hb, RpAll.of_get hbn fun i w e hw he => by have := hbr i w e hw he; unfold OwnR at this; exact this⟩
  subst z
  rw [hl] at hbl
  simp at hbl
/-- a list of lists of one's own, all new -/
theorem Tree.nil2 {a : Addr} (hP : P a) (hg : G a = none) (hh : H a = some (.lst [])) : Tree P G H (fun c => c = a) 2 (.ref a) (.list []) := by
  refine ⟨fun c e => by subst e; exact ⟨hP, hg, some_ne hh⟩, fun c => if c = a then some [] else none, fun c q h => ?_, ?_⟩
  · by_cases hc : c = a
    · exact hc
    · simp [hc] at h
  · unfold OwnR
    exact ⟨a, [], rfl, hh, by simp, rfl, fun j w e hw he => by simp at hw⟩
theorem Tree.app2 {a : Addr} {w : V} {vs : List V} {ds : List D} {d' : D} (t : Tree P G H N 2 (.ref a) (.list ds)) (t' : Tree P G H N' 1 w d') (dis : ∀ c, N c → ¬ N' c) (ha : H a = some (.lst vs)) :
    Tree P G (upd H a (.lst (vs ++ [w]))) (fun c => N c ∨ N' c) 2 (.ref a) (.list (ds ++ [d'])) := by
  obtain ⟨L, hL, h⟩ := t.r
  obtain ⟨L', hL', h'⟩ := t'.r
  unfold OwnR at h
  obtain ⟨a', vs', e, ha', hl, hn, h⟩ := h
  cases e
  rw [ha] at ha'
  cases ha'
  have hNa := hL a _ hl
  refine ⟨fun c hc => ?_, fun c => if N' c then (L' c).map ([ds.length] ++ ·) else L c, fun c p hc => ?_, ?_⟩
  · have h3 : P c ∧ G c = none ∧ H c ≠ none := hc.elim (t.n c) (t'.n c)
    refine ⟨h3.1, h3.2.1, ?_⟩
    by_cases hca : c = a
    · subst hca; rw [upd_same]; exact fun z => nomatch z
    · rw [upd_ne hca]; exact h3.2.2
  · by_cases hc' : N' c
    · exact .inr hc'
    · simp only [hc', if_false] at hc
      exact .inl (hL c _ hc)
  · unfold OwnR
    refine ⟨a, vs ++ [w], rfl, upd_same, ?_, by simp [hn], fun i x e hx he => ?_⟩
    · have := dis a hNa
      simp [this, hl]
    · by_cases hi : i < ds.length
      · rw [List.getElem?_append_left (by omega)] at hx
        rw [List.getElem?_append_left hi] at he
        refine (h i x e hx he).keep (Ex.refl G) _ fun c q hc => ?_
        have hNc := hL c _ hc
        have hc' : ¬ N' c := dis c hNc
        refine ⟨?_, fun o ho => ?_⟩
        · simp only [hc', if_false]
          exact hc
        · rw [upd_ne]
          · exact ho
          · intro z
            subst z
            rw [hl] at hc
            simp at hc
      · have hi' : i = ds.length := by
          have := (List.getElem?_eq_some_iff.mp he).1
          simp at this
          omega
        subst hi'
        rw [List.getElem?_append_right (by omega)] at hx he
        rw [hn] at hx
        simp at hx he
        subst hx he
        refine h'.keep (Ex.refl G) _ fun c q hc => ?_
        have hc' := hL' c _ hc
        rw [List.nil_append] at hc ⊢
        refine ⟨by simp [hc', hc], fun o ho => ?_⟩
        rw [upd_ne (show c ≠ a from fun z => dis a hNa (by rw [← z]; exact hc'))]
        exact ho
end
end Dn
namespace Dn
open PySem PySem.Spec PyProof.Rows L2
open Evl (Ex fresh_back)
/-- for a new tuple without a dict -/
def NewT (Q : VK) (H : Hp) (xs : List V) : Prop := ∀ (p : Addr) (o : Obj), H p = none → o.dict = none → Q (.ref p) (upd H p (.frz o (.tup xs)))
section
variable {X : Cx} {pins : List (Addr × Obj)} {σ : L2.St} {H : Hp} {s : Shared} {Q : VK}
/-- a tuple just laid, tracked with its object -/
theorem fin_tupS {xs : List V} {us : List Value} (I : Inv X pins σ H s) (r : Vals xs us) (z : xs.length ≤ sizeLine) (q : NewT Q H xs) :
    EP X pins σ Q (.ref s.heap.objs.size) { s with heap := s.heap.push { cls := .type "tuple", data := .seq us.toArray } } := by
  have hn := I.hok.fresh (Nat.le_refl s.heap.objs.size)
  have hg : (s.heap.push { cls := .type "tuple", data := .seq us.toArray }).get? s.heap.objs.size = some { cls := .type "tuple", data := .seq us.toArray } := Heap.get?_push_size _ rfl
  exact ⟨V.ref s.heap.objs.size, _, I.laid (o := .frz { cls := .type "tuple", data := .seq us.toArray } (.tup xs)) (t' := s.toks) (fun _ _ k => Heap.get?_push_of_some _ k) (Nat.le_refl _) ⟨hg, z, us, r, ⟨_, hg, rfl, _, rfl⟩⟩, rfl, q _ _ hn rfl⟩
end
section
variable {X : Cx} {es : List Expr} {t : TA} {pos : Pos}
theorem pe_tupS {k : Nat} (h : PA X es t) : PE X (.Tuple es k pos) (fun σ H Q => t σ H fun xs H1 => xs.length ≤ sizeLine ∧ NewT Q H1 xs) :=
  ⟨fun pins s σ H Q I hq => wpAny_Tuple_spliced (thn (h.run pos pins s σ H _ I hq) fun us s1 ⟨xs, H1, I1, r, z, q⟩ => ⟨by rw [← r.length]; exact z, fin_tupS I1 r z q⟩)⟩
def rCatS (K : PySem.W.Frag) : R2 := fun x y H Q => ∃ (a b : Addr) (xs ys : List V), x = .ref a ∧ y = .ref b ∧ SqT K H a xs ∧ SqT K H b ys ∧ xs.length + ys.length ≤ sizeLine ∧
  (xs = [] → Q (.ref b) H) ∧ (xs ≠ [] → ys = [] → Q (.ref a) H) ∧ (xs ≠ [] → ys ≠ [] → NewT Q H (xs ++ ys))
theorem op_catS : OpR X (binaryOp .Add) (rCatS X.K) := by
  intro pins s σ H x y v u Q I rx ry h
  obtain ⟨a, b, xs, ys, rfl, rfl, ha, hb, hz, q0, q1, q2⟩ := h
  by_cases hx : xs = []
  · exact op_catA pins s σ H _ _ v u Q I rx ry ⟨a, b, xs, ys, rfl, rfl, ha, hb, hz, q0, q1, fun z => absurd hx z⟩
  · by_cases hy : ys = []
    · exact op_catA pins s σ H _ _ v u Q I rx ry ⟨a, b, xs, ys, rfl, rfl, ha, hb, hz, q0, q1, fun _ z => absurd hy z⟩
    · cases rx
      cases ry
      obtain ⟨us, r1, p1, _⟩ := I.tuple ha
      obtain ⟨ws, r2, p2, _⟩ := I.tuple hb
      exact HT.cat_tup p1 p2 (fun z => hx (r1.nil_iff.mp z)) (fun z => absurd (r2.nil_iff.mp z) hy) (fun _ => fin_tupS I (r1.append r2) (by rw [List.length_append]; exact hz) (q2 hx hy)) (by
        rw [← r1.length, ← r2.length]
        exact hz)
def rSlS (K : PySem.W.Frag) : V → Option Int → Option Int → Hp → VK → Prop := fun x lo hi H Q => ∃ (a : Addr) (xs : List V), x = .ref a ∧ SqT K H a xs ∧
  (HT.sIx xs.length 0 lo = 0 ∧ HT.sIx xs.length xs.length hi = xs.length → Q (.ref a) H) ∧ (¬ (HT.sIx xs.length 0 lo = 0 ∧ HT.sIx xs.length xs.length hi = xs.length) → NewT Q H (cutV xs lo hi))
theorem sl_tupS : SlR X (rSlS X.K) := by
  intro pins s σ H x v vl vu lo hi sl Q I rx hs pl pu h
  obtain ⟨a, xs, rfl, hx, q1, q2⟩ := h
  by_cases hw : HT.sIx xs.length 0 lo = 0 ∧ HT.sIx xs.length xs.length hi = xs.length
  · exact sl_tupA pins s σ H _ v vl vu lo hi sl Q I rx hs pl pu ⟨a, xs, rfl, hx, q1, fun z => absurd hw z⟩
  · cases rx
    obtain ⟨us, r, ht, hz⟩ := I.tuple hx
    have e : us.toArray.size = xs.length := by rw [List.size_toArray, r.length]
    refine ⟨"tuple", _, PyProof.Rows.slot_tuple_getitem.lookup, ht.typeIs, HT.getItem_tuple_cut ht hs pl pu (by rw [e]; exact hw) ?_ (by rw [e]; exact hz)⟩
    rw [e]
    exact fin_tupS I ((r.drop _).take _) (Nat.le_trans (cutV_length xs lo hi) hz) (q2 hw)
theorem call_tupleS : CallR X (.type "tuple") (fun xs H Q => ∃ (p : Addr) (ys : List V), xs = [.ref p] ∧ ((SqL X.K H p ys ∧ NewT Q H ys) ∨ (SqT X.K H p ys ∧ Q (.ref p) H))) := by
  intro pins s σ H xs us Q I r h
  obtain ⟨p, ys, rfl, h⟩ := h
  rcases h with ⟨hq, q⟩ | ⟨hq, q⟩
  · obtain ⟨u, rfl, rx⟩ := vals1 r
    cases rx
    obtain ⟨its, r', pl, hz⟩ := I.list hq
    refine call_tuple_list pl.isList (fun h' kp => ?_) (by
      rw [List.size_toArray, ← r'.length]
      exact hz)
    exact fin_tupS (s := { s with heap := h' }) (I.kept (t' := s.toks) kp) r' hz q
  · exact call_tuple_of pins s σ H _ us Q I r ⟨p, ys, rfl, .inr ⟨hq, q⟩⟩
theorem pe_tupRgS {e : Expr} {te : L2.St → Hp → (Int → Int → Hp → Prop) → Prop} {p : Pos} (hc : X.calm = true) (hg : Gl X "tuple") (hm : X.mg "tuple" = none) (he : PRg X e te) (na : starEach [e] X.env = (false, eval e X.env) :: starEach [] X.env := by rfl) :
    PE X (.Call (.Name "tuple" p) [e] [] pos) (fun σ H Q => te σ H fun a b H1 => RgOk a b ∧ NewT Q H1 (rgV a b)) := by
  refine ⟨fun pins s σ H Q I h => Call_ (ld_blt I hg hm boot_tuple (PyProof.Rows.callWith_type1 (args_cons (thn (he pins s σ H _ I h) fun x s1 hx => args_nil ?_) na) na))⟩
  obtain ⟨r, a, b, t, u, v, H1, rfl, hr, I1, ok, q⟩ := hx
  have ok' := ok
  obtain ⟨b1, b2, b3, b4, b5⟩ := ok'
  refine call_tuple_range (n := (b - a).toNat) (I1.ok.hd hc) hr (small_one b1 b2 b3 b4) (rangeSize_nat a b) b5 fun h' tk acc hk hi => ?_
  have := fin_tupS (s := { s1 with heap := h', toks := tk }) (us := acc.toList) (I1.kept hk) (vals_rg hi) (by rw [rgV_length, sizeLine_eq]; omega) q
  rwa [Array.toArray_toList] at this
end
end Dn
namespace Dn
open PySem PySem.Spec PyProof.Rows L2
open Evl (Ex fresh_back)
abbrev Mo (α : Type) := DEnv → Option (α × DEnv)
def mRet {α : Type} (a : α) : Mo α := fun env => some (a, env)
def mBind {α β : Type} (m : Mo α) (f : α → Mo β) : Mo β := fun env =>
  match m env with
  | some (a, e1) => f a e1
  | none => none
def mLift {α : Type} (o : Option α) : Mo α := fun env =>
  match o with
  | some a => some (a, env)
  | none => none
def mVar (i : Nat) : Mo D := fun env =>
  match env[i]? with
  | some (some (SV.fz d)) => some (d, env)
  | _ => none
theorem mBind_some {α β : Type} {m : Mo α} {f : α → Mo β} {env env' : DEnv} {z : β} (h : mBind m f env = some (z, env')) : ∃ a e1, m env = some (a, e1) ∧ f a e1 = some (z, env') := by
  unfold mBind at h
  cases q : m env with
  | none => rw [q] at h; cases h
  | some p => rw [q] at h; exact ⟨p.1, p.2, rfl, h⟩
theorem mLift_some {α : Type} {o : Option α} {env env' : DEnv} {z : α} (h : mLift o env = some (z, env')) : o = some z ∧ env' = env := by
  unfold mLift at h
  cases q : o with
  | none => rw [q] at h; cases h
  | some a => rw [q] at h; cases h; exact ⟨rfl, rfl⟩
theorem mRet_some {α : Type} {a : α} {env env' : DEnv} {z : α} (h : mRet a env = some (z, env')) : a = z ∧ env' = env := by
  unfold mRet at h
  cases h
  exact ⟨rfl, rfl⟩
/-- what a piece of syntax is worth over data -/
def DenE (X : Cx) (e : Expr) (F : Mo D) : Prop :=
  ∃ t : TE, PE X e t ∧ ∀ (P : Addr → Prop) (b : Bs) (σ : L2.St) (env : DEnv) (G H : Hp) (d : D) (env' : DEnv), Rep P b G H σ env → F env = some (d, env') →
    ∀ Q : VK, (∀ v G' H', Gr P G H G' H' → Rep P b G' H' σ env' → Rp G' v d → Q v H') → t σ H Q
def DenT (X : Cx) (e : Expr) (F : Mo Bool) : Prop :=
  ∃ t : TT, PT X e t ∧ ∀ (P : Addr → Prop) (b : Bs) (σ : L2.St) (env : DEnv) (G H : Hp) (d : Bool) (env' : DEnv), Rep P b G H σ env → F env = some (d, env') →
    ∀ Q : Bool → Hp → Prop, (∀ G' H', Gr P G H G' H' → Rep P b G' H' σ env' → Q d H') → t σ H Q
/-- and, or whatever their 'whole' is -/
def DenW (X : Cx) (e : Expr) (F : Mo Bool) : Prop :=
  ∃ t : TT, PW X e t ∧ ∀ (P : Addr → Prop) (b : Bs) (σ : L2.St) (env : DEnv) (G H : Hp) (d : Bool) (env' : DEnv), Rep P b G H σ env → F env = some (d, env') →
    ∀ Q : Bool → Hp → Prop, (∀ G' H', Gr P G H G' H' → Rep P b G' H' σ env' → Q d H') → t σ H Q
def DenA (X : Cx) (es : List Expr) (F : Mo (List D)) : Prop :=
  ∃ t : TA, PA X es t ∧ ∀ (P : Addr → Prop) (b : Bs) (σ : L2.St) (env : DEnv) (G H : Hp) (d : List D) (env' : DEnv), Rep P b G H σ env → F env = some (d, env') →
    ∀ Q : List V → Hp → Prop, (∀ v G' H', Gr P G H G' H' → Rep P b G' H' σ env' → RpAll G' v d → Q v H') → t σ H Q
/-- a new thing of one's own, k levels deep -/
def DenN (X : Cx) (e : Expr) (k : Nat) (F : Mo D) : Prop :=
  ∃ t : TE, PE X e t ∧ ∀ (P : Addr → Prop) (b : Bs) (σ : L2.St) (env : DEnv) (G H : Hp) (d : D) (env' : DEnv), Rep P b G H σ env → F env = some (d, env') →
    ∀ Q : VK, (∀ v G' H' N, Gr P G H G' H' → Rep (fun a => P a ∧ ¬ N a) b G' H' σ env' → Tree P G' H' N k v d → Q v H') → t σ H Q
theorem den_frz {X : Cx} {e : Expr} {k : Nat} {F : Mo D} (h : DenN X e k F) : DenE X e F := by
  obtain ⟨t, h1, h2⟩ := h
  refine ⟨t, h1, fun P b σ env G H d env' r h Q q => h2 P b σ env G H d env' r h Q fun v G' H' N g r' t => ?_⟩
  obtain ⟨G2, e1, e2, n, rv, r2⟩ := r'.know t
  exact q v G2 H' ⟨g.g.trans e1, g.h, fun a ha hn => n a ha (g.n a ha hn)⟩ r2 rv
/-- a flat answer, by who changes nothing: all of one's own is seen -/
def mLend (m : Mo D) : Mo D := fun env => match m (lendE env) with | some (d, _) => if flatD d = true then some (d, env) else none | none => none
theorem Rep.ofLend {P : Addr → Prop} {b : Bs} {G H G' H' : Hp} {σ : L2.St} {env : DEnv} (r : Rep P b G H σ env) (g : Gr (fun a => H a = none) H H G' H') (s : Ex G' H') : Gr P G H G H' ∧ Rep P b G H' σ env ∧ Ex H H' := by
  have hx : Ex H H' := g.g.trans s
  have pu : Pu G H G H' := ⟨Ex.refl G, hx, r.sub.trans hx, fun _ _ n => n⟩
  exact ⟨pu.gr r.fresh, r.pu pu, hx⟩
theorem den_lend {X : Cx} {e : Expr} {F : Mo D} (h : DenE X e F) : DenE X e (mLend F) := by
  obtain ⟨t, h1, h2⟩ := h
  refine ⟨t, h1, fun P b σ env G H d env' r h Q q => ?_⟩
  unfold mLend at h
  split at h
  · rename_i d' e1 hd
    split at h
    · rename_i hf
      cases h
      refine h2 _ b σ _ H H d e1 r.lend hd Q fun v G' H' g r' rv => ?_
      obtain ⟨g2, r2, _⟩ := r.ofLend g r'.sub
      exact q v G H' g2 r2 (rv.flat hf)
    · cases h
  · cases h
def mLendT (m : Mo Bool) : Mo Bool := fun env => match m (lendE env) with | some (d, _) => some (d, env) | none => none
theorem dent_lend {X : Cx} {e : Expr} {F : Mo Bool} (h : DenT X e F) : DenT X e (mLendT F) := by
  obtain ⟨t, h1, h2⟩ := h
  refine ⟨t, h1, fun P b σ env G H d env' r h Q q => ?_⟩
  unfold mLendT at h
  split at h
  · rename_i d' e1 hd
    cases h
    refine h2 _ b σ _ H H d e1 r.lend hd Q fun G' H' g r' => ?_
    obtain ⟨g2, r2, _⟩ := r.ofLend g r'.sub
    exact q G H' g2 r2
  · cases h
section
variable {X : Cx} {a b c e : Expr} {pos : Pos}
theorem den_var (i : Nat) {x : Str} (hN : X.N[i]? = some x) (hv : Vis X.env.scope x) (hd : (x == ("__debug__" : Str)) = false := by decide) (hcd : (x == ("__classdict__" : Str)) = false := by decide) : DenE X (.Name x pos) (mVar i) := by
  refine ⟨_, pe_var hN hv hd hcd, fun P b σ env G H d env' r h Q q => ?_⟩
  unfold mVar at h
  split at h
  · rename_i d' he
    cases h
    obtain ⟨v, h1, h2⟩ := r.fz i d he
    exact ⟨v, h1, q v G H Gr.refl r h2⟩
  · cases h
theorem den_const {v : V} {d : D} (h : PE X e (tC v)) (hr : ∀ G : Hp, Rp G v d) : DenE X e (mRet d) := by
  refine ⟨_, h, fun P b σ env G H d env' r h Q q => ?_⟩
  obtain ⟨rfl, rfl⟩ := mRet_some h
  exact q v G H Gr.refl r (hr G)
theorem den_int {i : Int} {j : Nat} : DenE X (.Constant (.int i) j pos) (mRet (.int i)) := den_const pe_int fun _ => .int i
theorem den_bl {i : Bool} {j : Nat} : DenE X (.Constant (.bool i) j pos) (mRet (.bool i)) := den_const pe_bl fun _ => .bl i
theorem den_non {j : Nat} : DenE X (.Constant .none j pos) (mRet .none) := den_const pe_non fun _ => .non
theorem den_str {x : Str} {j : Nat} : DenE X (.Constant (.str x) j pos) (mRet (.str x)) := den_const pe_str fun _ => .str x
def OpD (X : Cx) (f : Value → Value → Sem Value) (g : D → D → Option D) : Prop :=
  ∃ r : R2, OpR X f r ∧ ∀ (G H : Hp) (x y : V) (d e z : D), Ex G H → Rp G x d → Rp G y e → g d e = some z → ∀ Q : VK, (∀ v G' H', Pu G H G' H' → Rp G' v z → Q v H') → r x y H Q
theorem OpD.or {f : Value → Value → Sem Value} {g g' : D → D → Option D} (h : OpD X f g) (h' : OpD X f g') : OpD X f (fun d e => match g d e with | some z => some z | none => g' d e) := by
  obtain ⟨r, h1, h2⟩ := h
  obtain ⟨r', h1', h2'⟩ := h'
  refine ⟨_, h1.or h1', fun G H x y d e z s rx ry hg Q q => ?_⟩
  cases k : g d e with
  | some w =>
    simp only [k] at hg
    cases hg
    exact .inl (h2 G H x y d e z s rx ry k Q q)
  | none =>
    simp only [k] at hg
    exact .inr (h2' G H x y d e z s rx ry hg Q q)
def mBin (g : D → D → Option D) (m n : Mo D) : Mo D := mBind m fun x => mBind n fun y => mLift (g x y)
/-- the second operand read -/
theorem two {t u : TE} {F F' : Mo D} (h1 : ∀ (P : Addr → Prop) (b : Bs) (σ : L2.St) (env : DEnv) (G H : Hp) (d : D) (env' : DEnv), Rep P b G H σ env → F env = some (d, env') →
    ∀ Q : VK, (∀ v G' H', Gr P G H G' H' → Rep P b G' H' σ env' → Rp G' v d → Q v H') → t σ H Q)
    (h2 : ∀ (P : Addr → Prop) (b : Bs) (σ : L2.St) (env : DEnv) (G H : Hp) (d : D) (env' : DEnv), Rep P b G H σ env → F' env = some (d, env') →
    ∀ Q : VK, (∀ v G' H', Gr P G H G' H' → Rep P b G' H' σ env' → Rp G' v d → Q v H') → u σ H Q)
    {P : Addr → Prop} {b : Bs} {σ : L2.St} {env e1 e2 : DEnv} {G H : Hp} {x y : D} (r : Rep P b G H σ env) (hx : F env = some (x, e1)) (hy : F' e1 = some (y, e2)) {R : V → V → Hp → Prop}
    (q : ∀ v w G' H', Gr P G H G' H' → Rep P b G' H' σ e2 → Rp G' v x → Rp G' w y → R v w H') : t σ H fun v H1 => u σ H1 fun w H2 => R v w H2 :=
  h1 P b σ env G H x e1 r hx _ fun v G1 H1 g1 r1 p1 => h2 P b σ e1 G1 H1 y e2 r1 hy _ fun w G2 H2 g2 r2 p2 => q v w G2 H2 (g1.trans g2) r2 (p1.mono g2.g) p2
theorem den_bin {op : Operator} {g : D → D → Option D} {F F' : Mo D} (ho : OpD X (binaryOp op) g) (ha : DenE X a F) (hb : DenE X b F') : DenE X (.BinOp a op b pos) (mBin g F F') := by
  obtain ⟨t, h1, h2⟩ := ha
  obtain ⟨u, k1, k2⟩ := hb
  obtain ⟨r, o1, o2⟩ := ho
  refine ⟨_, pe_op o1 h1 k1, fun P b σ env G H d env' rr h Q q => ?_⟩
  obtain ⟨x, e1, hx, h⟩ := mBind_some h
  obtain ⟨y, e2, hy, h⟩ := mBind_some h
  obtain ⟨hg, rfl⟩ := mLift_some h
  exact two h2 k2 rr hx hy fun v w G' H' g r' p1 p2 => o2 G' H' v w x y d r'.sub p1 p2 hg Q fun z G2 H2 pu pz => q z G2 H2 (g.trans (pu.gr r'.fresh)) (r'.pu pu) pz
def gInt (f : Int → Int → Option Int) : D → D → Option D
  | .int i, .int j => (f i j).map .int
  | _, _ => none
theorem opD_int {f : Value → Value → Sem Value} {C : Int → Int → Prop} {k : Int → Int → Int} {g : Int → Int → Option Int} (h : OpR X f (rI C fun i j => .int (k i j))) (hc : ∀ i j z, g i j = some z → C i j ∧ z = k i j) : OpD X f (gInt g) := by
  refine ⟨_, h, fun G H x y d e z s rx ry hg Q q => ?_⟩
  unfold gInt at hg
  split at hg
  · rename_i i j
    cases w : g i j with
    | none => rw [w] at hg; cases hg
    | some u =>
      rw [w] at hg
      cases hg
      obtain ⟨h1, rfl⟩ := hc i j u w
      rw [rx.inv_int, ry.inv_int]
      exact ⟨i, j, rfl, rfl, h1, q _ G H (Pu.refl s) (.int _)⟩
  · cases hg
theorem opD_int0 {f : Value → Value → Sem Value} {k : Int → Int → Int} (h : OpR X f (rI0 fun i j => .int (k i j))) : OpD X f (gInt fun i j => some (k i j)) := by
  refine ⟨_, h, fun G H x y d e z s rx ry hg Q q => ?_⟩
  unfold gInt at hg
  split at hg
  · rename_i i j
    cases hg
    rw [rx.inv_int, ry.inv_int]
    exact ⟨i, j, rfl, rfl, q _ G H (Pu.refl s) (.int _)⟩
  · cases hg
/-- lists, tuples put together -/
def gCat : D → D → Option D
  | .list xs, .list ys => if xs.length + ys.length ≤ 100000 then some (.list (xs ++ ys)) else none
  | _, _ => none
def gCatT : D → D → Option D
  | .tuple xs, .tuple ys => if xs.length + ys.length ≤ 100000 then some (.tuple (xs ++ ys)) else none
  | _, _ => none
theorem line_of {n : Nat} (h : n ≤ 100000) : n ≤ sizeLine := Nat.le_trans h (by decide)
theorem line_lt {n : Nat} (h : n < 100000) : n < sizeLine := Nat.lt_of_lt_of_le h (by decide)
/-- a new object, known -/
theorem fin_new {G H : Hp} {Q : VK} {z : D} {o : HO} (s : Ex G H) (q : ∀ v G' H', Pu G H G' H' → Rp G' v z → Q v H') {p : Addr} (hp : H p = none) (hz : Ex G (upd G p o) → Rp (upd G p o) (.ref p) z) : Q (.ref p) (upd H p o) :=
  q _ _ _ (Pu.new s hp) (hz (Ex.new (fresh_back s hp)))
theorem opD_cat : OpD X (binaryOp .Add) gCat := by
  refine ⟨_, op_cat, fun G H x y d e z s rx ry hg Q q => ?_⟩
  unfold gCat at hg
  split at hg
  · rename_i xs ys
    split at hg
    · rename_i hl
      cases hg
      obtain ⟨a, vs, rfl, ha, r1⟩ := rx.inv_list
      obtain ⟨c, ws, rfl, hc, r2⟩ := ry.inv_list
      exact ⟨a, c, vs, ws, rfl, rfl, s _ _ ha, s _ _ hc, by rw [r1.length, r2.length]; exact line_of hl, fun p hp => fin_new s q hp fun ex => .lst upd_same ((r1.append r2).mono ex)⟩
    · cases hg
  · cases hg
theorem opD_catT : OpD X (binaryOp .Add) gCatT := by
  refine ⟨_, op_catS, fun G H x y d e z s rx ry hg Q q => ?_⟩
  unfold gCatT at hg
  split at hg
  · rename_i xs ys
    split at hg
    · rename_i hl
      cases hg
      obtain ⟨a, vs, rfl, ha, r1⟩ := rx.inv_tup
      obtain ⟨c, ws, rfl, hc, r2⟩ := ry.inv_tup
      refine ⟨a, c, vs, ws, rfl, rfl, ha.sq s, hc.sq s, by rw [r1.length, r2.length]; exact line_of hl, fun hv => ?_, fun hv hw => ?_, fun hv hw p o hp ho => fin_new s q hp fun ex => .tup (.new ho) ((r1.append r2).mono ex)⟩
      · subst hv
        cases r1
        exact q _ G H (Pu.refl s) (.tup hc r2)
      · subst hw
        cases r2
        refine q _ G H (Pu.refl s) ?_
        rw [List.append_nil]
        exact .tup ha r1
    · cases hg
  · cases hg
/-- xs * k -/
def gRep : D → D → Option D
  | .list xs, .int k => if k ≤ 1000 ∧ -1000 ≤ k ∧ xs.length ≤ 1000 then some (.list (List.replicate k.toNat xs).flatten) else none
  | _, _ => none
theorem RpAll.rep {G : Hp} {vs : List V} {ds : List D} (h : RpAll G vs ds) : ∀ k : Nat, RpAll G (List.replicate k vs).flatten (List.replicate k ds).flatten
  | 0 => .nil
  | k + 1 => by
    rw [List.replicate_succ, List.replicate_succ, List.flatten_cons, List.flatten_cons]
    exact h.append (RpAll.rep h k)
theorem opD_rep : OpD X (binaryOp .Mult) gRep := by
  refine ⟨_, op_rep, fun G H x y d e z s rx ry hg Q q => ?_⟩
  unfold gRep at hg
  split at hg
  · rename_i xs k
    split at hg
    · rename_i hl
      cases hg
      obtain ⟨a, vs, rfl, ha, r1⟩ := rx.inv_list
      rw [ry.inv_int]
      refine ⟨a, k, vs, rfl, rfl, s _ _ ha, by omega, by omega, ?_, fun p hp => fin_new s q hp fun ex => .lst upd_same ((r1.rep _).mono ex)⟩
      rw [r1.length]
      exact Nat.le_trans (Nat.mul_le_mul hl.2.2 (show k.toNat ≤ 1000 by omega)) (by decide)
    · cases hg
  · cases hg
/-- + of ints, lists, tuples; * of ints, of a list -/
def gAdd : D → D → Option D := fun d e => match gInt (fun i j => some (i + j)) d e with | some z => some z | none => (match gCat d e with | some z => some z | none => gCatT d e)
theorem opD_add : OpD X (binaryOp .Add) gAdd := (opD_int0 op_add).or (opD_cat.or opD_catT)
def gSub : D → D → Option D := gInt fun i j => some (i - j)
theorem opD_sub : OpD X (binaryOp .Sub) gSub := opD_int0 op_sub
def gMod : D → D → Option D := gInt fun i j => if 0 < j then some (i % j) else none
theorem opD_mod : OpD X (binaryOp .Mod) gMod := opD_int op_mod fun i j z h => by
  split at h
  · rename_i hc; cases h; exact ⟨hc, rfl⟩
  · cases h
def gPow : D → D → Option D := gInt fun i j => if 0 ≤ j ∧ j ≤ 64 ∧ i.natAbs < 2 ^ 64 then some (i ^ j.toNat) else none
theorem opD_pow : OpD X (binaryOp .Pow) gPow := opD_int op_pow fun i j z h => by
  split at h
  · rename_i hc; cases h; exact ⟨⟨hc.1, by omega, hc.2.2⟩, rfl⟩
  · cases h
def gCmp (p : Int → Int → Bool) : D → D → Option D
  | .int i, .int j => some (.bool (p i j))
  | _, _ => none
theorem opD_cmp {f : Value → Value → Sem Value} {p : Int → Int → Bool} (h : OpR X f (rI0 fun i j => .bl (p i j))) : OpD X f (gCmp p) := by
  refine ⟨_, h, fun G H x y d e z s rx ry hg Q q => ?_⟩
  unfold gCmp at hg
  split at hg
  · rename_i i j
    cases hg
    rw [rx.inv_int, ry.inv_int]
    exact ⟨i, j, rfl, rfl, q _ G H (Pu.refl s) (.bl _)⟩
  · cases hg
theorem opD_le : OpD X (compareOp .LtE) (gCmp fun i j => decide (i ≤ j)) := opD_cmp op_le
theorem opD_gt : OpD X (compareOp .Gt) (gCmp fun i j => decide (j < i)) := opD_cmp op_gt
theorem opD_ge : OpD X (compareOp .GtE) (gCmp fun i j => decide (j ≤ i)) := opD_cmp op_ge
/-- == of data -/
def gEq : D → D → Option D := fun d e => if SeqAt.shaped d && SeqAt.shaped e then some (.bool (PyData.eqv d e)) else none
def gNe : D → D → Option D := fun d e => if SeqAt.shaped d && SeqAt.shaped e then some (.bool (!PyData.eqv d e)) else none
theorem opD_eq (hu : X.A.units + 64 < cLine) : OpD X (compareOp .Eq) gEq := by
  refine ⟨_, op_eqD hu, fun G H x y d e z s rx ry hg Q q => ?_⟩
  unfold gEq at hg
  split at hg
  · rename_i hs
    cases hg
    rw [Bool.and_eq_true] at hs
    exact ⟨d, e, rx.dp s (SeqAt.canLay_of_shaped hs.1), ry.dp s (SeqAt.canLay_of_shaped hs.2), hs.1, hs.2, q _ G H (Pu.refl s) (.bl _)⟩
  · cases hg
theorem opD_ne (hu : X.A.units + 64 < cLine) : OpD X (compareOp .NotEq) gNe := by
  refine ⟨_, op_neD hu, fun G H x y d e z s rx ry hg Q q => ?_⟩
  unfold gNe at hg
  split at hg
  · rename_i hs
    cases hg
    rw [Bool.and_eq_true] at hs
    exact ⟨d, e, rx.dp s (SeqAt.canLay_of_shaped hs.1), ry.dp s (SeqAt.canLay_of_shaped hs.2), hs.1, hs.2, q _ G H (Pu.refl s) (.bl _)⟩
  · cases hg
end
end Dn
namespace Dn
open PySem PySem.Spec PyProof.Rows L2
open Evl (Ex fresh_back)
def gB : D → Option Bool
  | .bool k => some k
  | _ => none
/-- truth -/
def gTru : D → Option Bool
  | .bool k => some k
  | .none => some false
  | .int i => some (i != 0)
  | .list xs => some (!xs.isEmpty)
  | .tuple xs => some (!xs.isEmpty)
  | _ => none
def mMap {α β : Type} (g : α → Option β) (m : Mo α) : Mo β := mBind m fun x => mLift (g x)
def mIf {α : Type} (c : Mo Bool) (m n : Mo α) : Mo α := mBind c fun k => if k = true then m else n
def mAnd (m n : Mo Bool) : Mo Bool := mBind m fun k => if k = true then n else mRet false
def mOr (m n : Mo Bool) : Mo Bool := mBind m fun k => if k = true then mRet true else n
def mNot (m : Mo Bool) : Mo Bool := mBind m fun k => mRet (!k)
def mCons {α : Type} (m : Mo α) (n : Mo (List α)) : Mo (List α) := mBind m fun x => mBind n fun xs => mRet (x :: xs)
theorem gB_some {d : D} {k : Bool} (h : gB d = some k) : d = .bool k := by
  unfold gB at h
  split at h
  · cases h; rfl
  · cases h
theorem mMap_some {α β : Type} {g : α → Option β} {m : Mo α} {env env' : DEnv} {z : β} (h : mMap g m env = some (z, env')) : ∃ a, m env = some (a, env') ∧ g a = some z := by
  obtain ⟨a, e1, h1, h2⟩ := mBind_some h
  obtain ⟨h3, h4⟩ := mLift_some h2
  subst h4
  exact ⟨a, h1, h3⟩
theorem RpAll.isEmpty {G : Hp} {vs : List V} {ds : List D} (r : RpAll G vs ds) : vs.isEmpty = ds.isEmpty := by cases r <;> rfl
section
variable {X : Cx} {a b c e : Expr} {pos : Pos}
theorem den_cmp {op : CmpOp} {g : D → D → Option D} {F F' : Mo D} (ho : OpD X (compareOp op) g) (ha : DenE X a F) (hb : DenE X b F') (hm : behindInMarks op b = false := by first | exact nomark _ | rfl) : DenE X (.Compare a [op] [b] pos) (mBin g F F') := by
  obtain ⟨t, h1, h2⟩ := ha
  obtain ⟨u, k1, k2⟩ := hb
  obtain ⟨r, o1, o2⟩ := ho
  refine ⟨_, pe_cmpR o1 h1 k1 hm, fun P b σ env G H d env' rr h Q q => ?_⟩
  obtain ⟨x, e1, hx, h⟩ := mBind_some h
  obtain ⟨y, e2, hy, h⟩ := mBind_some h
  obtain ⟨hg, rfl⟩ := mLift_some h
  exact two h2 k2 rr hx hy fun v w G' H' g r' p1 p2 => o2 G' H' v w x y d r'.sub p1 p2 hg Q fun z G2 H2 pu pz => q z G2 H2 (g.trans (pu.gr r'.fresh)) (r'.pu pu) pz
/-- the same as a test -/
theorem dent_cmp {op : CmpOp} {g : D → D → Option D} {F F' : Mo D} (ho : OpD X (compareOp op) g) (ha : DenE X a F) (hb : DenE X b F') (hm : behindInMarks op b = false := by first | exact nomark _ | rfl) : DenT X (.Compare a [op] [b] pos) (mMap gB (mBin g F F')) := by
  obtain ⟨t, h1, h2⟩ := ha
  obtain ⟨u, k1, k2⟩ := hb
  obtain ⟨r, o1, o2⟩ := ho
  refine ⟨_, pt_cmpR o1 h1 k1 hm, fun P b σ env G H d env' rr h Q q => ?_⟩
  obtain ⟨z, h, hz⟩ := mMap_some h
  have hz := gB_some hz
  subst hz
  obtain ⟨x, e1, hx, h⟩ := mBind_some h
  obtain ⟨y, e2, hy, h⟩ := mBind_some h
  obtain ⟨hg, rfl⟩ := mLift_some h
  exact two h2 k2 rr hx hy fun v w G' H' g r' p1 p2 => o2 G' H' v w x y _ r'.sub p1 p2 hg _ fun z G2 H2 pu pz => ⟨d, pz.inv_bl, q G2 H2 (g.trans (pu.gr r'.fresh)) (r'.pu pu)⟩
def mChain (g g' : D → D → Option D) (m n l : Mo D) : Mo Bool := mBind m fun x => mBind n fun y => mBind (mMap gB (mLift (g x y))) fun k => if k = true then mBind l fun z => mMap gB (mLift (g' y z)) else mRet false
theorem den_chain {op op' : CmpOp} {g g' : D → D → Option D} {F F' F'' : Mo D} (ho : OpD X (compareOp op) g) (ho' : OpD X (compareOp op') g') (ha : DenE X a F) (hb : DenE X b F') (hc : DenE X c F'')
    (hm : lastMarks [op, op'] [b, c] = false := by with_unfolding_all rfl) : DenE X (.Compare a [op, op'] [b, c] pos) (mMap (fun k => some (.bool k)) (mChain g g' F F' F'')) ∧ DenT X (.Compare a [op, op'] [b, c] pos) (mChain g g' F F' F'') := by
  obtain ⟨t, h1, h2⟩ := ha
  obtain ⟨u, k1, k2⟩ := hb
  obtain ⟨v, l1, l2⟩ := hc
  obtain ⟨r, o1, o2⟩ := ho
  obtain ⟨r', o1', o2'⟩ := ho'
  have core : ∀ (P : Addr → Prop) (b : Bs) (σ : L2.St) (env : DEnv) (G H : Hp) (d : Bool) (env' : DEnv), Rep P b G H σ env → mChain g g' F F' F'' env = some (d, env') →
    ∀ Q : VK, (∀ v G' H', Gr P G H G' H' → Rep P b G' H' σ env' → v = .bl d → Q v H') → tChain r r' t u v σ H Q := by
    intro P b σ env G H d env' rr h Q q
    obtain ⟨x, e1, hx, h⟩ := mBind_some h
    obtain ⟨y, e2, hy, h⟩ := mBind_some h
    obtain ⟨k, e3, hk, h⟩ := mBind_some h
    obtain ⟨kd, hk1, hk2⟩ := mMap_some hk
    obtain ⟨hg, rfl⟩ := mLift_some hk1
    have hk3 := gB_some hk2
    subst hk3
    refine two h2 k2 rr hx hy fun v w G' H' gr r' p1 p2 => o2 G' H' v w x y _ r'.sub p1 p2 hg _ fun z G2 H2 pu pz => ⟨k, pz.inv_bl, ?_⟩
    have R2 := r'.pu pu
    have g2 := gr.trans (pu.gr r'.fresh)
    cases k with
    | true =>
      rw [if_pos rfl] at h ⊢
      obtain ⟨z', e5, hz', h⟩ := mBind_some h
      obtain ⟨kd, hk4, hk5⟩ := mMap_some h
      obtain ⟨hg', rfl⟩ := mLift_some hk4
      have hk6 := gB_some hk5
      subst hk6
      exact l2 P b σ _ G2 H2 z' _ R2 hz' _ fun v3 G3 H3 g3 R3 p3 => o2' G3 H3 w v3 y z' _ R3.sub ((p2.mono pu.g).mono g3.g) p3 hg' _ fun z4 G4 H4 pu4 pz4 => q _ G4 H4 ((g2.trans g3).trans (pu4.gr R3.fresh)) (R3.pu pu4) pz4.inv_bl
    | false =>
      rw [if_neg (by decide)] at h ⊢
      obtain ⟨rfl, rfl⟩ := mRet_some h
      exact q _ G2 H2 g2 R2 rfl
  refine ⟨⟨_, pe_chain o1 o1' h1 k1 l1 hm, fun P b σ env G H d env' rr h Q q => ?_⟩, ⟨_, pt_chain o1 o1' h1 k1 l1 hm, fun P b σ env G H d env' rr h Q q => core P b σ env G H d env' rr h _ fun v G' H' g r p => ⟨d, p, q G' H' g r⟩⟩⟩
  obtain ⟨k, e1, hk, h⟩ := mBind_some h
  obtain ⟨hd, rfl⟩ := mLift_some h
  cases hd
  exact core P b σ env G H k _ rr hk _ fun v G' H' g r p => q v G' H' g r (by rw [p]; exact .bl k)
theorem dent_val {F : Mo D} (h : DenE X e F) (he : ∀ whole, isTrue e X.env whole = (do let v ← whole; standAt e.pos; holding [v] (truthy v)) := by intro _; rfl) : DenT X e (mMap gTru F) := by
  obtain ⟨t, h1, h2⟩ := h
  refine ⟨_, pt_truth h1 he, fun P b σ env G H d env' rr h Q q => ?_⟩
  obtain ⟨z, h, hz⟩ := mMap_some h
  refine h2 P b σ env G H z _ rr h _ fun v G' H' g r p => ⟨d, ?_, q G' H' g r⟩
  unfold gTru at hz
  cases p with
  | non => cases hz; rfl
  | bl k => cases hz; rfl
  | int i => cases hz; rfl
  | str x => cases hz
  | lst ha ra => cases hz; exact .inl ⟨_, .of (r.sub _ _ ha), by rw [ra.isEmpty]⟩
  | tup ha ra => cases hz; exact .inr (.inl ⟨_, ha.sq r.sub, by rw [ra.isEmpty]⟩)
  | dK _ _ _ => cases hz
  | dT _ _ _ => cases hz
  | dP _ _ _ => cases hz
  | scr _ _ => cases hz
  | rng _ => cases hz
  | dN _ _ _ => cases hz
  | dQ _ _ _ => cases hz
theorem dent_not {F : Mo Bool} (h : DenT X a F) : DenT X (.UnaryOp .Not a pos) (mNot F) := by
  obtain ⟨t, h1, h2⟩ := h
  refine ⟨_, pt_not h1, fun P b σ env G H d env' rr h Q q => ?_⟩
  obtain ⟨k, e1, hk, h⟩ := mBind_some h
  obtain ⟨rfl, rfl⟩ := mRet_some h
  exact h2 P b σ env G H k _ rr hk _ fun G' H' g r => q G' H' g r
theorem denw_and1 {F : Mo Bool} (h : DenT X a F) : DenW X (.BoolOp .And [a] pos) F := by
  obtain ⟨t, h1, h2⟩ := h
  exact ⟨_, pw_and1 h1, h2⟩
theorem denw_or1 {F : Mo Bool} (h : DenT X a F) : DenW X (.BoolOp .Or [a] pos) F := by
  obtain ⟨t, h1, h2⟩ := h
  exact ⟨_, pw_or1 h1, h2⟩
theorem denw_and {rest : List Expr} {F F' : Mo Bool} (h : DenT X a F) (hb : DenW X (.BoolOp .And (b :: rest) pos) F') : DenW X (.BoolOp .And (a :: b :: rest) pos) (mAnd F F') := by
  obtain ⟨t, h1, h2⟩ := h
  obtain ⟨u, k1, k2⟩ := hb
  refine ⟨_, pw_and h1 k1, fun P b σ env G H d env' rr h Q q => ?_⟩
  obtain ⟨k, e1, hk, h⟩ := mBind_some h
  refine h2 P b σ env G H k _ rr hk _ fun G' H' g r => ?_
  cases k with
  | true =>
    rw [if_pos rfl] at h ⊢
    exact k2 P b σ _ G' H' d _ r h _ fun G2 H2 g2 r2 => q G2 H2 (g.trans g2) r2
  | false =>
    rw [if_neg (by decide)] at h ⊢
    obtain ⟨rfl, rfl⟩ := mRet_some h
    exact q G' H' g r
theorem denw_or {rest : List Expr} {F F' : Mo Bool} (h : DenT X a F) (hb : DenW X (.BoolOp .Or (b :: rest) pos) F') : DenW X (.BoolOp .Or (a :: b :: rest) pos) (mOr F F') := by
  obtain ⟨t, h1, h2⟩ := h
  obtain ⟨u, k1, k2⟩ := hb
  refine ⟨_, pw_or h1 k1, fun P b σ env G H d env' rr h Q q => ?_⟩
  obtain ⟨k, e1, hk, h⟩ := mBind_some h
  refine h2 P b σ env G H k _ rr hk _ fun G' H' g r => ?_
  cases k with
  | false =>
    rw [if_neg (by decide)] at h ⊢
    exact k2 P b σ _ G' H' d _ r h _ fun G2 H2 g2 r2 => q G2 H2 (g.trans g2) r2
  | true =>
    rw [if_pos rfl] at h ⊢
    obtain ⟨rfl, rfl⟩ := mRet_some h
    exact q G' H' g r
theorem dent_w {F : Mo Bool} (h : DenW X e F) : DenT X e F := by
  obtain ⟨t, h1, h2⟩ := h
  exact ⟨_, h1.pt, h2⟩
/-- and, or, not as values (all True or False) -/
def mAndV (m n : Mo D) : Mo D := mBind (mMap gB m) fun k => if k = true then n else mRet (.bool false)
theorem den_one {op : PySem.BoolOp} {F : Mo D} (h : DenE X a F) : DenE X (.BoolOp op [a] pos) F := by
  obtain ⟨t, h1, h2⟩ := h
  exact ⟨_, pe_one h1, h2⟩
theorem den_and {rest : List Expr} {F F' : Mo D} (h : DenE X a F) (hb : DenE X (.BoolOp .And (b :: rest) pos) F') : DenE X (.BoolOp .And (a :: b :: rest) pos) (mAndV F F') := by
  obtain ⟨t, h1, h2⟩ := h
  obtain ⟨u, k1, k2⟩ := hb
  refine ⟨_, pe_and h1 k1, fun P b σ env G H d env' rr h Q q => ?_⟩
  obtain ⟨k, e1, hk, h⟩ := mBind_some h
  obtain ⟨z, hk, hz⟩ := mMap_some hk
  have hz := gB_some hz
  subst hz
  refine h2 P b σ env G H _ _ rr hk _ fun v G' H' g r p => ⟨k, p.inv_bl, ?_⟩
  cases k with
  | true =>
    rw [if_pos rfl] at h ⊢
    exact k2 P b σ _ G' H' d _ r h _ fun v G2 H2 g2 r2 p => q v G2 H2 (g.trans g2) r2 p
  | false =>
    rw [if_neg (by decide)] at h ⊢
    obtain ⟨rfl, rfl⟩ := mRet_some h
    exact q _ G' H' g r (.bl _)
theorem den_not {F : Mo D} (h : DenE X a F) : DenE X (.UnaryOp .Not a pos) (mMap (fun k => some (.bool (!k))) (mMap gB F)) := by
  obtain ⟨t, h1, h2⟩ := h
  refine ⟨_, pe_not h1, fun P b σ env G H d env' rr h Q q => ?_⟩
  obtain ⟨k, e1, hk, h⟩ := mBind_some h
  obtain ⟨hd, rfl⟩ := mLift_some h
  cases hd
  obtain ⟨z, hk, hz⟩ := mMap_some hk
  have hz := gB_some hz
  subst hz
  exact h2 P b σ env G H _ _ rr hk _ fun v G' H' g r p => ⟨k, p.inv_bl, q _ G' H' g r (.bl _)⟩
theorem den_if {Fc : Mo Bool} {F F' : Mo D} (hc : DenT X c Fc) (ha : DenE X a F) (hb : DenE X b F') : DenE X (.IfExp c a b pos) (mIf Fc F F') := by
  obtain ⟨t, h1, h2⟩ := hc
  obtain ⟨u, k1, k2⟩ := ha
  obtain ⟨w, l1, l2⟩ := hb
  refine ⟨_, pe_ifExp h1 k1 l1, fun P b σ env G H d env' rr h Q q => ?_⟩
  obtain ⟨k, e1, hk, h⟩ := mBind_some h
  refine h2 P b σ env G H k _ rr hk _ fun G' H' g r => ?_
  cases k with
  | true =>
    rw [if_pos rfl] at h ⊢
    exact k2 P b σ _ G' H' d _ r h _ fun v G2 H2 g2 r2 p => q v G2 H2 (g.trans g2) r2 p
  | false =>
    rw [if_neg (by decide)] at h ⊢
    exact l2 P b σ _ G' H' d _ r h _ fun v G2 H2 g2 r2 p => q v G2 H2 (g.trans g2) r2 p
/-- -a -/
def gNeg : D → Option D
  | .int i => some (.int (-i))
  | _ => none
theorem den_neg {F : Mo D} (h : DenE X a F) : DenE X (.UnaryOp .USub a pos) (mMap gNeg F) := by
  obtain ⟨t, h1, h2⟩ := h
  refine ⟨_, pe_un un_neg h1, fun P b σ env G H d env' rr h Q q => ?_⟩
  obtain ⟨z, hk, hz⟩ := mMap_some h
  unfold gNeg at hz
  split at hz
  · rename_i i
    cases hz
    exact h2 P b σ env G H _ _ rr hk _ fun v G' H' g r p => ⟨i, p.inv_int, q _ G' H' g r (.int _)⟩
  · cases hz
/-- is None, is not None -/
def gIsN : D → Option D
  | .none => some (.bool true)
  | _ => some (.bool false)
def gNotN : D → Option D
  | .none => some (.bool false)
  | _ => some (.bool true)
theorem Rp.isN {G : Hp} {v : V} {d : D} (h : Rp G v d) : gIsN d = some (.bool (decide (v = .non))) ∧ gNotN d = some (.bool (!decide (v = .non))) := by
  cases h <;> exact ⟨rfl, rfl⟩
theorem den_isN {F : Mo D} {j : Nat} {p' : Pos} (h : DenE X a F) : DenE X (.Compare a [.Is] [.Constant .none j p'] pos) (mMap gIsN F) ∧ DenT X (.Compare a [.Is] [.Constant .none j p'] pos) (mMap gB (mMap gIsN F)) := by
  obtain ⟨t, h1, h2⟩ := h
  refine ⟨⟨_, pe_cmp (pc_isN h1) rfl, fun P b σ env G H d env' rr h Q q => ?_⟩, ⟨_, pt_cmp (pc_isN h1) rfl, fun P b σ env G H d env' rr h Q q => ?_⟩⟩
  · obtain ⟨z, hk, hz⟩ := mMap_some h
    refine h2 P b σ env G H _ _ rr hk _ fun v G' H' g r p => q _ G' H' g r ?_
    rw [p.isN.1] at hz
    cases hz
    exact .bl _
  · obtain ⟨w, h, hw⟩ := mMap_some h
    have hw := gB_some hw
    subst hw
    obtain ⟨z, hk, hz⟩ := mMap_some h
    refine h2 P b σ env G H _ _ rr hk _ fun v G' H' g r p => ⟨_, rfl, ?_⟩
    rw [p.isN.1] at hz
    cases hz
    exact q G' H' g r
theorem dena_nil : DenA X [] (mRet []) := by
  refine ⟨_, pa_nil, fun P b σ env G H d env' r h Q q => ?_⟩
  obtain ⟨rfl, rfl⟩ := mRet_some h
  exact q [] G H Gr.refl r .nil
theorem dena_cons {es : List Expr} {F : Mo D} {F' : Mo (List D)} (ha : DenE X a F) (hr : DenA X es F') (hs : starEach (a :: es) X.env = (false, eval a X.env) :: starEach es X.env := by rfl) : DenA X (a :: es) (mCons F F') := by
  obtain ⟨t, h1, h2⟩ := ha
  obtain ⟨u, k1, k2⟩ := hr
  refine ⟨_, pa_cons h1 k1 hs, fun P b σ env G H d env' rr h Q q => ?_⟩
  obtain ⟨x, e1, hx, h⟩ := mBind_some h
  obtain ⟨y, e2, hy, h⟩ := mBind_some h
  obtain ⟨rfl, rfl⟩ := mRet_some h
  exact h2 P b σ env G H x e1 rr hx _ fun v G1 H1 g1 r1 p1 => k2 P b σ e1 G1 H1 y _ r1 hy _ fun w G2 H2 g2 r2 p2 => q _ G2 H2 (g1.trans g2) r2 (.cons (p1.mono g2.g) p2)
def gTup (xs : List D) : Option D := if xs.length ≤ 100000 then some (.tuple xs) else none
def gLst (xs : List D) : Option D := if xs.length ≤ 100000 then some (.list xs) else none
theorem den_tup {es : List Expr} {k : Nat} {F : Mo (List D)} (h : DenA X es F) : DenE X (.Tuple es k pos) (mMap gTup F) := by
  obtain ⟨t, h1, h2⟩ := h
  refine ⟨_, pe_tupS h1, fun P b σ env G H d env' rr h Q q => ?_⟩
  obtain ⟨z, hk, hz⟩ := mMap_some h
  unfold gTup at hz
  split at hz
  · rename_i hl
    cases hz
    refine h2 P b σ env G H _ _ rr hk _ fun v G' H' g r p => ⟨by rw [p.length]; exact line_of hl, fun x o hx ho => ?_⟩
    have pu := Pu.new (o := .frz o (.tup v)) r.sub hx
    exact q _ _ _ (g.trans (pu.gr r.fresh)) (r.pu pu) (.tup (.new ho) (p.mono pu.g))
  · cases hz
theorem den_lst {es : List Expr} {F : Mo (List D)} (h : DenA X es F) : DenE X (.List es pos) (mMap gLst F) := by
  obtain ⟨t, h1, h2⟩ := h
  refine ⟨_, pe_lst h1, fun P b σ env G H d env' rr h Q q => ?_⟩
  obtain ⟨z, hk, hz⟩ := mMap_some h
  unfold gLst at hz
  split at hz
  · rename_i hl
    cases hz
    refine h2 P b σ env G H _ _ rr hk _ fun v G' H' g r p => ⟨by rw [p.length]; exact line_of hl, fun x hx => ?_⟩
    have pu := Pu.new (o := .lst v) r.sub hx
    exact q _ _ _ (g.trans (pu.gr r.fresh)) (r.pu pu) (.lst upd_same (p.mono pu.g))
  · cases hz
def gIx : D → D → Option D
  | .list xs, .int i => atI xs i
  | .tuple xs, .int i => atI xs i
  | _, _ => none
theorem gIx_some {x y d : D} (h : gIx x y = some d) : ∃ xs i, (x = .list xs ∨ x = .tuple xs) ∧ y = .int i ∧ atI xs i = some d := by
  unfold gIx at h
  split at h
  · exact ⟨_, _, .inl rfl, rfl, h⟩
  · exact ⟨_, _, .inr rfl, rfl, h⟩
  · cases h
theorem RpAll.atI {G : Hp} {vs : List V} {ds : List D} (r : RpAll G vs ds) {i : Int} {d : D} (h : L2.atI ds i = some d) : ∃ v, L2.atI vs i = some v ∧ Rp G v d := by
  unfold L2.atI at h ⊢
  rw [r.length]
  cases k : ixN ds.length i with
  | none => rw [k] at h; cases h
  | some j =>
    rw [k] at h
    exact r.get h
theorem den_ix {F F' : Mo D} (ha : DenE X a F) (hb : DenE X b F') (hs : PlainIx b := by exact fun _ _ => rfl) : DenE X (.Subscript a b pos) (mBin gIx F F') := by
  obtain ⟨t, h1, h2⟩ := ha
  obtain ⟨u, k1, k2⟩ := hb
  refine ⟨_, pe_ix (ix_list.or ix_tup) h1 k1 hs, fun P b σ env G H d env' rr h Q q => ?_⟩
  obtain ⟨x, e1, hx, h⟩ := mBind_some h
  obtain ⟨y, e2, hy, h⟩ := mBind_some h
  obtain ⟨hg, rfl⟩ := mLift_some h
  refine two h2 k2 rr hx hy fun v w G' H' g r' p1 p2 => ?_
  obtain ⟨xs, i, hxs, rfl, hi⟩ := gIx_some hg
  rcases hxs with rfl | rfl
  · obtain ⟨p, vs, rfl, hp, rp⟩ := p1.inv_list
    obtain ⟨z, hz, rz⟩ := rp.atI hi
    exact .inl ⟨p, vs, i, z, rfl, p2.inv_int, .of (r'.sub _ _ hp), hz, q z G' H' g r' rz⟩
  · obtain ⟨p, vs, rfl, hp, rp⟩ := p1.inv_tup
    obtain ⟨z, hz, rz⟩ := rp.atI hi
    exact .inr ⟨p, vs, i, z, rfl, p2.inv_int, hp.sq r'.sub, hz, q z G' H' g r' rz⟩
end
end Dn
namespace Dn
open PySem PySem.Spec PyProof.Rows L2
open Evl (Ex fresh_back)
def cutD (xs : List D) (lo hi : Option Int) : List D := (xs.drop (HT.sIx xs.length 0 lo)).take (HT.sIx xs.length xs.length hi - HT.sIx xs.length 0 lo)
theorem RpAll.cut {G : Hp} {vs : List V} {ds : List D} (r : RpAll G vs ds) (lo hi : Option Int) : RpAll G (cutV vs lo hi) (cutD ds lo hi) := by
  unfold cutV cutD
  rw [r.length]
  exact (r.drop _).take _
def gI : D → Option Int
  | .int i => some i
  | _ => none
theorem gI_some {d : D} {i : Int} (h : gI d = some i) : d = .int i := by
  unfold gI at h
  split at h
  · cases h; rfl
  · cases h
def DenO (X : Cx) (e : Option Expr) (F : Mo (Option Int)) : Prop :=
  ∃ t : TO, PO X e t ∧ ∀ (P : Addr → Prop) (b : Bs) (σ : L2.St) (env : DEnv) (G H : Hp) (d : Option Int) (env' : DEnv), Rep P b G H σ env → F env = some (d, env') →
    ∀ Q : Option Int → Hp → Prop, (∀ G' H', Gr P G H G' H' → Rep P b G' H' σ env' → Q d H') → t σ H Q
section
variable {X : Cx} {a b c e : Expr} {pos : Pos}
theorem deno_none : DenO X none (mRet none) := by
  refine ⟨_, po_none, fun P b σ env G H d env' r h Q q => ?_⟩
  obtain ⟨rfl, rfl⟩ := mRet_some h
  exact q G H Gr.refl r
theorem deno_some {F : Mo D} (h : DenE X e F) : DenO X (some e) (mMap (fun d => (gI d).map some) F) := by
  obtain ⟨t, h1, h2⟩ := h
  refine ⟨_, po_some h1, fun P b σ env G H d env' rr h Q q => ?_⟩
  obtain ⟨z, hk, hz⟩ := mMap_some h
  cases w : gI z with
  | none => rw [w] at hz; cases hz
  | some i =>
    rw [w] at hz
    cases hz
    have := gI_some w
    subst this
    exact h2 P b σ env G H _ _ rr hk _ fun v G' H' g r p => ⟨i, p.inv_int, q G' H' g r⟩
def gSl (x : D) (lo hi : Option Int) : Option D :=
  match x with
  | .list xs => some (.list (cutD xs lo hi))
  | .tuple xs => some (.tuple (cutD xs lo hi))
  | .dict [(.none, .list xs)] => some (.list (cutD xs lo hi))
  | _ => none
def mSl (m : Mo D) (l h : Mo (Option Int)) : Mo D := mBind m fun x => mBind l fun lo => mBind h fun hi => mLift (gSl x lo hi)
theorem cutD_whole {xs : List D} {lo hi : Option Int} (h : HT.sIx xs.length 0 lo = 0 ∧ HT.sIx xs.length xs.length hi = xs.length) : cutD xs lo hi = xs := by
  unfold cutD
  rw [h.1, h.2]
  simp
theorem den_slice {lo hi : Option Expr} {p2 : Pos} {F : Mo D} {Fl Fh : Mo (Option Int)} (ha : DenE X a F) (hl : DenO X lo Fl) (hh : DenO X hi Fh) : DenE X (.Subscript a (.Slice lo hi none p2) pos) (mSl F Fl Fh) := by
  obtain ⟨t, h1, h2⟩ := ha
  obtain ⟨u, k1, k2⟩ := hl
  obtain ⟨w, l1, l2⟩ := hh
  refine ⟨_, pe_slice (sl_list.or sl_tupS) h1 k1 l1, fun P b σ env G H d env' rr h Q q => ?_⟩
  obtain ⟨x, e1, hx, hA⟩ := mBind_some h
  obtain ⟨lo', e2, hlo, hB⟩ := mBind_some hA
  obtain ⟨hi', e3, hhi, hC⟩ := mBind_some hB
  obtain ⟨hg, rfl⟩ := mLift_some hC
  refine h2 P b σ env G H x e1 rr hx _ fun v G1 H1 g1 r1 p1 => k2 P b σ e1 G1 H1 lo' e2 r1 hlo _ fun G2 H2 g2 r2 => l2 P b σ e2 G2 H2 hi' _ r2 hhi _ fun G3 H3 g3 r3 => ?_
  have gg := (g1.trans g2).trans g3
  have p3 := (p1.mono g2.g).mono g3.g
  unfold gSl at hg
  cases p3 with
  | lst ha ra =>
    rename_i pa pxs pds
    cases hg
    refine .inl ⟨_, _, rfl, .of (r3.sub _ _ ha), fun y hy => ?_⟩
    have pu := Pu.new (o := .lst (cutV pxs lo' hi')) r3.sub hy
    exact q _ _ _ (gg.trans (pu.gr r3.fresh)) (r3.pu pu) (.lst upd_same ((ra.cut lo' hi').mono pu.g))
  | tup ha ra =>
    rename_i pa pxs pds
    cases hg
    refine .inr ⟨_, _, rfl, ha.sq r3.sub, fun hw => ?_, fun hw y o hy ho => ?_⟩
    · rw [ra.length] at hw
      rw [cutD_whole hw] at q
      exact q _ _ _ gg r3 (.tup ha ra)
    · have pu := Pu.new (o := .frz o (.tup (cutV pxs lo' hi'))) r3.sub hy
      exact q _ _ _ (gg.trans (pu.gr r3.fresh)) (r3.pu pu) (.tup (.new ho) ((ra.cut lo' hi').mono pu.g))
  | scr ha ra =>
    rename_i pa po pxs pds
    cases hg
    refine .inl ⟨_, _, rfl, .inl (.inr ⟨_, r3.sub _ _ ha⟩), fun y hy => ?_⟩
    have pu := Pu.new (o := .lst (cutV pxs lo' hi')) r3.sub hy
    exact q _ _ _ (gg.trans (pu.gr r3.fresh)) (r3.pu pu) (.lst upd_same ((ra.cut lo' hi').mono pu.g))
  | dK ha hl ra =>
    rename_i pa ks xs ds
    exfalso
    cases ks with
    | nil => cases hg
    | cons k ks =>
      cases ds with
      | nil => cases hg
      | cons d ds => cases k <;> cases ks <;> cases ds <;> cases d <;> cases hg
  | dT ha hl ra =>
    rename_i pa rows ds
    exfalso
    cases rows with
    | nil => cases hg
    | cons k ks =>
      cases ds with
      | nil => cases hg
      | cons d ds => cases ks <;> cases ds <;> cases d <;> cases hg
  | _ => cases hg
def CallD (X : Cx) (f : Value) (g : List D → Option D) : Prop :=
  ∃ r : List V → Hp → VK → Prop, CallR X f r ∧ ∀ (G H : Hp) (vs : List V) (ds : List D) (z : D), Ex G H → RpAll G vs ds → g ds = some z → ∀ Q : VK, (∀ v G' H', Pu G H G' H' → Rp G' v z → Q v H') → r vs H Q
theorem den_callB {x : Str} {id : String} {p : Pos} {es : List Expr} {g : List D → Option D} {F : Mo (List D)} (hc : CallD X (.builtin id) g) (hg : Gl X x) (hm : X.mg x = none) (hv : bootBuiltins x = some (.builtin id)) (ha : DenA X (e :: es) F)
    (hn : x ≠ "__name__" := by decide) (hdb : (x == ("__debug__" : Str)) = false := by decide) (he : starEach (e :: es) X.env = (false, eval e X.env) :: starEach es X.env := by rfl) (hpl : (backTo pos (starEach es X.env)).any (·.1) = false := by rfl) :
    DenE X (.Call (.Name x p) (e :: es) [] pos) (mMap g F) := by
  obtain ⟨t, h1, h2⟩ := ha
  obtain ⟨r, o1, o2⟩ := hc
  refine ⟨_, pe_callB o1 hg hm hv h1 hn hdb he hpl, fun P b σ env G H d env' rr h Q q => ?_⟩
  obtain ⟨z, hk, hz⟩ := mMap_some h
  exact h2 P b σ env G H _ _ rr hk _ fun v G' H' g r p => o2 G' H' v z d r.sub p hz _ fun w G2 H2 pu pw => q w G2 H2 (g.trans (pu.gr r.fresh)) (r.pu pu) pw
theorem den_callTy {x : Str} {T : String} {p : Pos} {es : List Expr} {g : List D → Option D} {F : Mo (List D)} (hc : CallD X (.type T) g) (hg : Gl X x) (hm : X.mg x = none) (hv : bootBuiltins x = some (.type T)) (ha : DenA X (e :: es) F)
    (hn : x ≠ "__name__" := by decide) (hdb : (x == ("__debug__" : Str)) = false := by decide) (he : starEach (e :: es) X.env = (false, eval e X.env) :: starEach es X.env := by rfl) (hpl : (backTo pos (starEach es X.env)).any (·.1) = false := by rfl) :
    DenE X (.Call (.Name x p) (e :: es) [] pos) (mMap g F) := by
  obtain ⟨t, h1, h2⟩ := ha
  obtain ⟨r, o1, o2⟩ := hc
  refine ⟨_, pe_callTy o1 hg hm hv h1 hn hdb he hpl, fun P b σ env G H d env' rr h Q q => ?_⟩
  obtain ⟨z, hk, hz⟩ := mMap_some h
  exact h2 P b σ env G H _ _ rr hk _ fun v G' H' g r p => o2 G' H' v z d r.sub p hz _ fun w G2 H2 pu pw => q w G2 H2 (g.trans (pu.gr r.fresh)) (r.pu pu) pw
end
end Dn
namespace Dn
open PySem PySem.Spec PyProof.Rows L2
open Evl (Ex fresh_back)
inductive Fl where
  | nx (env : DEnv) | rt (d : D) (env : DEnv) | bk (env : DEnv) | ct (env : DEnv)
abbrev So := DEnv → Option Fl
/-- what is wanted behind, by how the statement ends -/
def PostS (P : Addr → Prop) (b : Bs) (G H : Hp) (r : Fl) (Dd : Ends) : Prop :=
  match r with
  | .nx env' => ∀ σ' G' H', Gr P G H G' H' → Rep P b G' H' σ' env' → Dd.nx σ' H'
  | .rt d env' => ∀ v σ' G' H', Gr P G H G' H' → Rep P b G' H' σ' env' → Rp G' v d → Dd.rt v H'
  | .bk env' => ∀ σ' G' H', Gr P G H G' H' → Rep P b G' H' σ' env' → Dd.bk σ' H'
  | .ct env' => ∀ σ' G' H', Gr P G H G' H' → Rep P b G' H' σ' env' → Dd.ct σ' H'
theorem PostS.gr {P : Addr → Prop} {b : Bs} {G H G1 H1 : Hp} {r : Fl} {Dd : Ends} (h : PostS P b G H r Dd) (g : Gr P G H G1 H1) : PostS P b G1 H1 r Dd := by
  cases r with
  | nx env => exact fun σ' G' H' g' r' => h σ' G' H' (g.trans g') r'
  | rt d env => exact fun v σ' G' H' g' r' p => h v σ' G' H' (g.trans g') r' p
  | bk env => exact fun σ' G' H' g' r' => h σ' G' H' (g.trans g') r'
  | ct env => exact fun σ' G' H' g' r' => h σ' G' H' (g.trans g') r'
def RunS (t : TS) (F : So) : Prop := ∀ (P : Addr → Prop) (b : Bs) (σ : L2.St) (env : DEnv) (G H : Hp) (r : Fl), Rep P b G H σ env → F env = some r → ∀ Dd : Ends, PostS P b G H r Dd → t Dd σ H
def DenS (X : Cx) (st : Stmt) (F : So) : Prop := ∃ t : TS, PS X st t ∧ RunS t F
def DenSs (X : Cx) (st : List Stmt) (F : So) : Prop := ∃ t : TS, PSs X st t ∧ RunS t F
def sNil : So := fun env => some (.nx env)
def sSeq (F F' : So) : So := fun env =>
  match F env with
  | some (.nx e1) => F' e1
  | r => r
def sNone : So := fun _ => none
def sRet (m : Mo D) : So := fun env =>
  match m env with
  | some (d, e1) => some (.rt d e1)
  | none => none
def sDrop {α : Type} (m : Mo α) : So := fun env =>
  match m env with
  | some (_, e1) => some (.nx e1)
  | none => none
def sIf (c : Mo Bool) (F F' : So) : So := fun env =>
  match c env with
  | some (k, e1) => if k = true then F e1 else F' e1
  | none => none
/-- x = e -/
def sSet (i : Nat) (m : Mo D) : So := fun env =>
  match m env with
  | some (d, e1) => some (.nx (e1.set i (some (SV.fz d))))
  | none => none
section
variable {X : Cx} {st : Stmt} {rest : List Stmt} {a c e : Expr} {pos : Pos}
theorem denss_nil : DenSs X [] sNil := ⟨_, pss_nil, fun P b σ env G H r rr h Dd q => by
  cases h
  exact q σ G H Gr.refl rr⟩
theorem denss_cons {F F' : So} (h1 : DenS X st F) (h2 : DenSs X rest F') : DenSs X (st :: rest) (sSeq F F') := by
  obtain ⟨t, h1, h2'⟩ := h1
  obtain ⟨u, k1, k2⟩ := h2
  refine ⟨_, pss_cons h1 k1, fun P b σ env G H r rr h Dd q => ?_⟩
  unfold sSeq at h
  cases w : F env with
  | none => rw [w] at h; cases h
  | some r1 =>
    rw [w] at h
    refine h2' P b σ env G H r1 rr w { Dd with nx := u Dd } ?_
    cases r1 with
    | nx e1 => exact fun σ' G' H' g r' => k2 P b σ' e1 G' H' r r' h Dd (q.gr g)
    | rt d e1 => cases h; exact q
    | bk e1 => cases h; exact q
    | ct e1 => cases h; exact q
theorem dens_ret {F : Mo D} (h : DenE X e F) : DenS X (.Return (some e) pos) (sRet F) := by
  obtain ⟨t, h1, h2⟩ := h
  refine ⟨_, ps_ret h1, fun P b σ env G H r rr h Dd q => ?_⟩
  unfold sRet at h
  split at h
  · rename_i d e1 hd
    cases h
    exact h2 P b σ env G H d e1 rr hd _ fun v G' H' g r' p => q v σ G' H' g r' p
  · cases h
theorem dens_if {u v : List Stmt} {Fc : Mo Bool} {F F' : So} (hc : DenT X c Fc) (h1 : DenSs X u F) (h2 : DenSs X v F') : DenS X (.If c u v pos) (sIf Fc F F') := by
  obtain ⟨t, c1, c2⟩ := hc
  obtain ⟨t1, h1, h1'⟩ := h1
  obtain ⟨t2, h2, h2'⟩ := h2
  refine ⟨_, ps_if c1 h1 h2, fun P b σ env G H r rr h Dd q => ?_⟩
  unfold sIf at h
  split at h
  · rename_i k e1 hk
    refine c2 P b σ env G H k e1 rr hk _ fun G' H' g r' => ?_
    cases k with
    | true =>
      rw [if_pos rfl] at h ⊢
      exact h1' P b σ e1 G' H' r r' h Dd (q.gr g)
    | false =>
      rw [if_neg (by decide)] at h ⊢
      exact h2' P b σ e1 G' H' r r' h Dd (q.gr g)
  · cases h
theorem dens_set (i : Nat) {x : Str} {pos' : Pos} {F : Mo D} (hN : X.N.Nodup) (hi : X.N[i]? = some x) (hx : Loc X.env.scope x) (he : DenE X e F) (hs : swapsWith e (some (.Name x pos')) pos.line X.env = pure false := by rfl)
    (hf : X.fn x = true ∨ X.env.scope.names.lookup x = some .local := by first | exact .inl rfl | exact .inr rfl | assumption) : DenS X (.Assign [.Name x pos'] e pos) (sSet i F) := by
  obtain ⟨t, h1, h2⟩ := he
  refine ⟨_, ps_set hN hi hx h1 hs hf, fun P b σ env G H r rr h Dd q => ?_⟩
  unfold sSet at h
  split at h
  · rename_i d e1 hd
    cases h
    exact h2 P b σ env G H d e1 rr hd _ fun v G' H' g r' p => q _ G' H' g (r'.set p)
  · cases h
end
def envOf (N : List Str) (ds : List D) : DEnv := ds.map (fun d => some (SV.fz d)) ++ List.replicate (N.length - ds.length) none
def outF : Option Fl → Option D
  | some (.rt d _) => some d
  | some (.nx _) => some .none
  | _ => none
/-- a def that changes nothing -/
def spF (n : Nat) (F : List D → Option D) : Sp := fun vs H Q _ => ∃ (G : Hp) (ds : List D) (d : D), Ex G H ∧ RpAll G vs ds ∧ ds.length = n ∧ F ds = some d ∧ ∀ v G' H', Pu G H G' H' → Rp G' v d → Q v H'
structure Fd (P : Program) (w : World) (K : PySem.W.Frag) (mg : Str → Option Value) (base : Heap) (x : Str) (k n : Nat) (F : List D → Option D) : Prop where
  ex : ∃ (f : Addr) (fd : FuncData) (ps : List Str), mg x = some (.ref f) ∧ PySem.W.keepIn K (.ref f) = true ∧ Binds K fd ps [] ∧ ps.length = n ∧ FnOk P w K mg base CX0 k f fd ps (spF n F)
theorem envOf_get {N : List Str} {ds : List D} {i : Nat} {s : SV} (h : (envOf N ds)[i]? = some (some s)) : ∃ d, s = .fz d ∧ ds[i]? = some d := by
  unfold envOf at h
  by_cases hi : i < ds.length
  · rw [List.getElem?_append_left (by simpa using hi), List.getElem?_map, List.getElem?_eq_getElem hi] at h
    cases h
    exact ⟨_, rfl, List.getElem?_eq_getElem hi⟩
  · rw [List.getElem?_append_right (by simpa using hi)] at h
    obtain ⟨h1, h2⟩ := List.getElem?_eq_some_iff.mp h
    rw [List.getElem_replicate] at h2
    cases h2
theorem start_rep {N : List Str} {G H : Hp} {vs : List V} {ds : List D} {P : Addr → Prop} {b : Bs} (s : Ex G H) (f : ∀ p, H p = none → P p) (r : RpAll G vs ds) : Rep P b G H (L2.start N vs) (envOf N ds) where
  len := by
    unfold L2.start envOf
    simp [r.length]
  sub := s
  fresh := f
  rep := by
    refine ⟨fun _ => none, (fun a p h => by cases h), fun i sv h => ?_⟩
    obtain ⟨d', e, hd⟩ := envOf_get h
    subst e
    obtain ⟨v, hv, rv⟩ := r.get hd
    refine ⟨v, ?_, rv⟩
    unfold L2.start
    have hi : i < vs.length := (List.getElem?_eq_some_iff.mp hv).1
    rw [List.getElem?_append_left (by simpa using hi), List.getElem?_map, hv]
    rfl
section
variable {P : Program} {w : World} {K : PySem.W.Frag} {mg : Str → Option Value} {base : Heap}
theorem Fd.mk' {x qual : Str} {st : Stmt} {f : Addr} {fd : FuncData} {N ps : List Str} {k : Nat} {B : So} (F : Fun K x qual st f fd) (S : FnScope N ps (defScope st)) (hg : mg x = some (.ref f)) (hb : Binds K fd ps [])
    (body : ∀ (cdv : Value) (A : Around) (outer : List Env) (s : Shared) (H : Hp) (E : XK), Room k (A.deeper (envOfC qual (defScope st) s.heap.objs.size f cdv)) → DenSs (cxOf CX0 P w K mg base N qual (defScope st) f cdv A outer s H E).nox (defBody st) B) :
    Fd P w K mg base x (k + 1) ps.length (fun ds => outF (B (envOf N ds))) := by
  refine ⟨f, fd, ps, hg, F.kp, hb, rfl, F.ok S (fun vs H Q E h => ?_) fun cdv A outer s H vs Q E hr h => ?_⟩
  · obtain ⟨G, ds, d, _, r, hl, _⟩ := h
    rw [r.length, hl]
  · obtain ⟨G, ds, d, hs, r, hl, hF, q⟩ := h
    obtain ⟨t, h1, h2⟩ := body cdv A outer s H E hr
    refine ⟨t, h1, ?_⟩
    have rep : Rep (fun a => H a = none) (fun _ => 0) G H (L2.start N vs) (envOf N ds) := start_rep hs (fun _ h => h) r
    have pu : ∀ {σ' : L2.St} {env' : DEnv} {G' H' : Hp}, Gr (fun a => H a = none) G H G' H' → Rep (fun a => H a = none) (fun _ => 0) G' H' σ' env' → Pu G H G' H' := fun g r => ⟨g.g, fun a o e => g.h a o e (some_ne e), r.sub, fun a h n => g.n a h n⟩
    cases hB : B (envOf N ds) with
    | none => simp only [hB] at hF; cases hF
    | some r1 =>
      simp only [hB] at hF
      refine h2 _ (fun _ => 0) _ _ G H r1 rep hB _ ?_
      cases r1 with
      | nx e1 =>
        cases hF
        exact fun σ' G' H' g r' => q _ G' H' (pu g r') .non
      | rt d' e1 =>
        cases hF
        exact fun v σ' G' H' g r' p => q v G' H' (pu g r') p
      | bk e1 => cases hF
      | ct e1 => cases hF
theorem Fd.imp {x : Str} {k n : Nat} {F F' : List D → Option D} (h : Fd P w K mg base x k n F) (hi : ∀ ds d, F' ds = some d → F ds = some d) : Fd P w K mg base x k n F' := by
  obtain ⟨f, fd, ps, h1, h2, h3, h4, h5⟩ := h.ex
  exact ⟨f, fd, ps, h1, h2, h3, h4, h5.imp fun vs H Q E ⟨G, ds, d, a, b, c, e, q⟩ => ⟨G, ds, d, a, b, c, hi _ _ e, q⟩⟩
theorem Fd.mono {x : Str} {j k n : Nat} {F : List D → Option D} (h : Fd P w K mg base x j n F) (hk : j ≤ k) : Fd P w K mg base x k n F := by
  obtain ⟨f, fd, ps, h1, h2, h3, h4, h5⟩ := h.ex
  exact ⟨f, fd, ps, h1, h2, h3, h4, h5.mono hk⟩
end
section
variable {X : Cx} {e : Expr} {pos : Pos}
def lenIs (n : Nat) (F : List D → Option D) : List D → Option D := fun ds => if ds.length = n then F ds else none
theorem den_call {x : Str} {k n : Nat} {p : Pos} {es : List Expr} {F : List D → Option D} {m : Mo (List D)} (h : Fd X.prog X.w X.K X.mg X.base x k n F) (hr : Room k X.A) (hg : Gl X x) (ha : DenA X (e :: es) m) (hdb : (x == ("__debug__" : Str)) = false := by decide)
    (he : starEach (e :: es) X.env = (false, eval e X.env) :: starEach es X.env := by rfl) (hpl : (backTo pos (starEach es X.env)).any (·.1) = false := by rfl) : DenE X (.Call (.Name x p) (e :: es) [] pos) (mMap (lenIs n F) m) := by
  obtain ⟨f, fd, ps, h1, h2, h3, h4, h5⟩ := h.ex
  obtain ⟨t, a1, a2⟩ := ha
  refine ⟨_, pe_call h5 hr hg h1 h2 h3 .nil pass0 a1 hdb he hpl, fun P b σ env G H d env' rr h Q q => ?_⟩
  obtain ⟨ds, hds, hF⟩ := mMap_some h
  unfold lenIs at hF
  split at hF
  · rename_i hl
    refine a2 P b σ env G H _ _ rr hds _ fun vs G' H' g r p => ?_
    show spF n F (vs ++ []) H' Q _
    rw [List.append_nil]
    exact ⟨G', ds, d, r.sub, p, hl, hF, fun v G2 H2 pu pv => q v G2 H2 (g.trans (pu.gr r.fresh)) (r.pu pu) pv⟩
  · cases hF
end
end Dn
namespace Dn
open PySem PySem.Spec PyProof.Rows L2
open Evl (Ex fresh_back)
/-- a tuple that stands, of which no more is known -/
def WkT (G : Hp) (v : V) (d : D) : Prop := ∃ (a : Addr) (xs : List V) (ds : List D), v = .ref a ∧ d = .tuple ds ∧ G a = some (.tup xs) ∧ RpAll G xs ds
def isTupE : Expr → Bool
  | .Tuple _ _ _ => true
  | _ => false
/-- what a target is given: to a tuple of targets it may be any tuple -/
def RpT (tg : Expr) (G : Hp) (v : V) (d : D) : Prop := Rp G v d ∨ (isTupE tg = true ∧ WkT G v d)
theorem RpT.of {tg : Expr} {G : Hp} {v : V} {d : D} (h : Rp G v d) : RpT tg G v d := .inl h
/-- ts: the slots it stores -/
def DenG (X : Cx) (tg : Expr) (ts : List Nat) (B : D → DEnv → Option DEnv) : Prop :=
  ∃ g : TG, PG X tg g ∧ ∀ (P : Addr → Prop) (b : Bs) (σ : L2.St) (env : DEnv) (G H : Hp) (v : V) (d : D) (env' : DEnv), Rep P b G H σ env → RpT tg G v d → B d env = some env' →
    ∀ Q : L2.St → Hp → Prop, (∀ σ' : L2.St, Rep P b G H σ' env' → σ'.length = σ.length → (∀ j : Nat, j ∉ ts → σ'[j]? = σ[j]?) → Q σ' H) → g v σ H Q
def DenGs (X : Cx) (es : List Expr) (ts : List Nat) (B : List D → DEnv → Option DEnv) : Prop :=
  ∃ g : TGs, PGs X es g ∧ ∀ (P : Addr → Prop) (b : Bs) (σ : L2.St) (env : DEnv) (G H : Hp) (v : List V) (d : List D) (env' : DEnv), Rep P b G H σ env → RpAll G v d → B d env = some env' →
    ∀ Q : L2.St → Hp → Prop, (∀ σ' : L2.St, Rep P b G H σ' env' → σ'.length = σ.length → (∀ j : Nat, j ∉ ts → σ'[j]? = σ[j]?) → Q σ' H) → g v σ H Q
def gNm (i : Nat) : D → DEnv → Option DEnv := fun d env => some (env.set i (some (SV.fz d)))
def gsNil : List D → DEnv → Option DEnv
  | [], env => some env
  | _, _ => none
def gsCons (B : D → DEnv → Option DEnv) (Bs : List D → DEnv → Option DEnv) : List D → DEnv → Option DEnv
  | d :: ds, env => (match B d env with | some e1 => Bs ds e1 | none => none)
  | _, _ => none
def gTu (n : Nat) (Bs : List D → DEnv → Option DEnv) : D → DEnv → Option DEnv
  | .tuple ds, env => if ds.length = n then Bs ds env else none
  | _, _ => none
section
variable {X : Cx} {pos : Pos}
theorem deng_name (i : Nat) {x : Str} (hN : X.N.Nodup) (hi : X.N[i]? = some x) (hx : Loc X.env.scope x) (hf : X.fn x = true ∨ X.env.scope.names.lookup x = some .local := by first | exact .inl rfl | exact .inr rfl | assumption) : DenG X (.Name x pos) [i] (gNm i) := by
  refine ⟨_, pg_name hN hi hx hf, fun P b σ env G H v d env' r rv h Q q => ?_⟩
  cases h
  have rv : Rp G v d := by
    rcases rv with rv | ⟨z, _⟩
    · exact rv
    · cases z
  refine q _ (r.set rv) (by simp) fun j hj => ?_
  rw [List.getElem?_set_ne]
  intro e
  exact hj (by simp [e])
theorem dengs_nil : DenGs X [] [] gsNil := by
  refine ⟨_, pgs_nil, fun P b σ env G H v d env' r rv h Q q => ?_⟩
  cases rv with
  | nil =>
    cases h
    exact ⟨rfl, q σ r rfl fun _ _ => rfl⟩
  | cons _ _ => cases h
theorem dengs_cons {e : Expr} {es : List Expr} {ts us : List Nat} {B : D → DEnv → Option DEnv} {Bs : List D → DEnv → Option DEnv} (h1 : DenG X e ts B) (h2 : DenGs X es us Bs)
    (hs : (assignEach (e :: es) X.env).map (·.2) = assign e X.env :: (assignEach es X.env).map (·.2) := by rfl) : DenGs X (e :: es) (ts ++ us) (gsCons B Bs) := by
  obtain ⟨g, h1, h1'⟩ := h1
  obtain ⟨u, k1, k2⟩ := h2
  refine ⟨_, pgs_cons h1 k1 hs, fun P b σ env G H v d env' r rv h Q q => ?_⟩
  cases rv with
  | nil => cases h
  | cons hv hr =>
    rename_i v vs d ds
    unfold gsCons at h
    cases w : B d env with
    | none => simp only [w] at h; cases h
    | some e1 =>
      simp only [w] at h
      refine ⟨v, vs, rfl, h1' P b σ env G H v d e1 r (.of hv) w _ fun σ1 r1 l1 o1 => k2 P b σ1 e1 G H vs ds env' r1 hr h _ fun σ2 r2 l2 o2 => q σ2 r2 (l2.trans l1) fun j hj => ?_⟩
      rw [List.mem_append, not_or] at hj
      rw [o2 j hj.2, o1 j hj.1]
theorem deng_tup {es : List Expr} {k n : Nat} {ts : List Nat} {Bs : List D → DEnv → Option DEnv} (hc : X.calm = true) (h : DenGs X es ts Bs)
    (hn : (assignEach es X.env).length = n := by rfl) (hst : (assignEach es X.env).findIdx? (·.1) = none := by rfl) : DenG X (.Tuple es k pos) ts (gTu n Bs) := by
  obtain ⟨g, h1, h2⟩ := h
  refine ⟨_, pg_tup hc h1 hn hst, fun P b σ env G H v d env' r rv h Q q => ?_⟩
  rcases rv with rv | ⟨_, a, xs, ds, rfl, rfl, ha, ra⟩
  · cases rv with
    | tup ha ra =>
      rename_i a xs ds
      simp only [gTu] at h
      split at h
      · rename_i hl
        exact ⟨a, xs, rfl, ha.sq r.sub, by rw [ra.length]; exact hl, h2 P b σ env G H xs ds env' r ra h Q q⟩
      · cases h
    | _ => cases h
  · simp only [gTu] at h
    split at h
    · rename_i hl
      exact ⟨a, xs, rfl, .of (r.sub _ _ ha), by rw [ra.length]; exact hl, h2 P b σ env G H xs ds env' r ra h Q q⟩
    · cases h
theorem dens_asg {tg e : Expr} {ts : List Nat} {B : D → DEnv → Option DEnv} {F : Mo D} (he : DenE X e F) (hg : DenG X tg ts B) (hs : swapsWithSole [tg] e pos.line X.env = pure false := by rfl) (hw : swappedStores [tg] e X.env = pure none := by rfl)
    (h1 : (assignEach [tg] X.env).map (·.2) = [assign tg X.env] := by rfl) : DenS X (.Assign [tg] e pos) (fun env => match F env with | some (d, e1) => (B d e1).map .nx | none => none) := by
  obtain ⟨t, k1, k2⟩ := he
  obtain ⟨g, g1, g2⟩ := hg
  refine ⟨_, ps_asg k1 g1 hs hw h1, fun P b σ env G H r rr h Dd q => ?_⟩
  cases w : F env with
  | none => simp only [w] at h; cases h
  | some p =>
    obtain ⟨d, e1⟩ := p
    simp only [w] at h
    cases w2 : B d e1 with
    | none => rw [w2] at h; cases h
    | some e2 =>
      rw [w2] at h
      cases h
      exact k2 P b σ env G H d e1 rr w _ fun v G' H' g r' p => g2 P b σ e1 G' H' v d e2 r' (.of p) w2 _ fun σ' r2 _ _ => q σ' G' H' g r2
end
def Yields (tg : Expr) (J : It) (G : Hp) (ds : List D) : Prop := ∀ (i : Nat) (G1 H : Hp), Ex G G1 → Ex G1 H →
  (ds.length ≤ i → J.stop i H) ∧ ∀ d, ds[i]? = some d → J.go i H ∧ ∀ x H', J.yld i H x H' → ∃ G2, Pu G1 H G2 H' ∧ RpT tg G2 x d
def DenI (X : Cx) (tg iter : Expr) (F : Mo (List D)) : Prop :=
  ∃ wi : TI, PI X tg iter wi ∧ ∀ (P : Addr → Prop) (b : Bs) (σ : L2.St) (env : DEnv) (G H : Hp) (ds : List D) (env' : DEnv), Rep P b G H σ env → F env = some (ds, env') →
    ∀ R : It → Hp → Prop, (∀ J G' H', Gr P G H G' H' → Rep P b G' H' σ env' → Yields tg J G' ds → R J H') → wi σ H R
def gLs : D → Option (List D)
  | .list xs => some xs
  | _ => none
section
variable {X : Cx} {tg e : Expr} {pos : Pos}
theorem deni_list {F : Mo D} (h : DenE X e F) : DenI X tg e (mMap gLs F) := by
  obtain ⟨t, h1, h2⟩ := h
  refine ⟨_, pi_list h1, fun P b σ env G H ds env' rr h R q => ?_⟩
  obtain ⟨z, hk, hz⟩ := mMap_some h
  refine h2 P b σ env G H z env' rr hk _ fun v G' H' g r p => ?_
  cases p with
  | lst ha ra =>
    rename_i a xs es
    cases hz
    refine ⟨a, rfl, ⟨xs, .of (r.sub _ _ ha)⟩, q _ G' H' g r fun i G1 H1 e1 e2 => ⟨fun hi => ⟨xs, .of (e2 _ _ (e1 _ _ ha)), by rw [ra.length]; exact hi⟩, fun d hd => ?_⟩⟩
    obtain ⟨v, hv, rv⟩ := ra.get hd
    refine ⟨⟨xs, v, .of (e2 _ _ (e1 _ _ ha)), hv⟩, fun x H' y => ?_⟩
    obtain ⟨rfl, y⟩ := y
    have := y xs (.of (e2 _ _ (e1 _ _ ha)))
    rw [hv] at this
    cases this
    exact ⟨G1, Pu.refl e2, .of (rv.mono e1)⟩
  | _ => cases hz
def rangeD (lo : Int) (n : Nat) : List D := (List.range n).map fun (i : Nat) => PyData.int (lo + i)
theorem rangeD_get {lo : Int} {n i : Nat} {d : D} (h : (rangeD lo n)[i]? = some d) : i < n ∧ d = .int (lo + i) := by
  unfold rangeD at h
  rw [List.getElem?_map] at h
  by_cases hi : i < n
  · rw [List.getElem?_range hi] at h
    cases h
    exact ⟨hi, rfl⟩
  · rw [List.getElem?_eq_none (by simpa using hi)] at h
    cases h
theorem rangeD_len (lo : Int) (n : Nat) : (rangeD lo n).length = n := by unfold rangeD; simp
theorem yields_range {tg : Expr} {G : Hp} (lo : Int) (n : Nat) : Yields tg (Itr lo n) G (rangeD lo n) := fun i G1 H e1 e2 =>
  ⟨fun hi => by rw [rangeD_len] at hi; exact hi, fun d hd => by
    obtain ⟨h1, rfl⟩ := rangeD_get hd
    exact ⟨h1, fun x H' y => by
      obtain ⟨rfl, rfl⟩ := y
      exact ⟨G1, Pu.refl e2, .of (.int _)⟩⟩⟩
def gRg1 : List D → Option (List D)
  | [.int j] => if -(2 ^ 62) ≤ j ∧ j < 2 ^ 62 then some (rangeD 0 j.toNat) else none
  | _ => none
theorem RpAll.inv1 {G : Hp} {vs : List V} {d : D} (h : RpAll G vs [d]) : ∃ v, vs = [v] ∧ Rp G v d := by
  cases h with | cons a r => cases r; exact ⟨_, rfl, a⟩
theorem RpAll.inv2 {G : Hp} {vs : List V} {d e : D} (h : RpAll G vs [d, e]) : ∃ v w, vs = [v, w] ∧ Rp G v d ∧ Rp G w e := by
  cases h with | cons a r => obtain ⟨w, rfl, b⟩ := r.inv1; exact ⟨_, _, rfl, a, b⟩
theorem deni_range1 {a : Expr} {p : Pos} {F : Mo (List D)} (hg : Gl X "range") (hm : X.mg "range" = none) (ha : DenA X [a] F) (hs : starEach [a] X.env = [(false, eval a X.env)] := by rfl) : DenI X tg (.Call (.Name "range" p) [a] [] pos) (mMap gRg1 F) := by
  obtain ⟨t, h1, h2⟩ := ha
  refine ⟨_, pi_range1 hg hm h1 hs, fun P b σ env G H ds env' rr h R q => ?_⟩
  obtain ⟨z, hk, hz⟩ := mMap_some h
  refine h2 P b σ env G H z env' rr hk _ fun v G' H' g r p => ?_
  unfold gRg1 at hz
  split at hz
  · rename_i j
    split at hz
    · rename_i hj
      cases hz
      obtain ⟨w, rfl, hw⟩ := p.inv1
      exact ⟨j, by rw [hw.inv_int], hj.1, hj.2, q _ G' H' g r (yields_range 0 _)⟩
    · cases hz
  · cases hz
end
def forGo (tgt : D → DEnv → Option DEnv) (body : So) : List D → DEnv → Option Fl
  | [], e => some (.nx e)
  | d :: ds, e =>
    match tgt d e with
    | none => none
    | some e1 =>
      match body e1 with
      | none => none
      | some (.nx e2) => forGo tgt body ds e2
      | some (.ct e2) => forGo tgt body ds e2
      | some (.bk e2) => some (.nx e2)
      | some (.rt d e2) => some (.rt d e2)
def sFor (items : Mo (List D)) (tgt : D → DEnv → Option DEnv) (body : So) : So := fun env =>
  match items env with
  | some (ds, e1) => forGo tgt body ds e1
  | none => none
section
variable {X : Cx} {tg e iter : Expr} {pos : Pos} {body : List Stmt}
theorem dens_for {ts : List Nat} {Fi : Mo (List D)} {B : D → DEnv → Option DEnv} {Fb : So} (hp : PassesOwn (model X.prog X.w) X.A X.env X.xe) (hc : X.calm = true) (hi : DenI X tg iter Fi) (hg : DenG X tg ts B) (hb : DenSs X body Fb)
    (hs : ∀ x, foldedSetIterable iter X.env x = pure x := by intro _; rfl) : DenS X (.For tg iter body [] pos) (sFor Fi B Fb) := by
  obtain ⟨wi, i1, i2⟩ := hi
  obtain ⟨g, g1, g2⟩ := hg
  obtain ⟨tb, b1, b2⟩ := hb
  refine ⟨_, ps_for hp hc i1 g1 b1 hs, fun P b σ env G H r rr h Dd q => ?_⟩
  unfold sFor at h
  split at h
  · rename_i ds e1 hd
    refine i2 P b σ env G H ds e1 rr hd _ fun J G1 H1 gr1 r1 hy => ?_
    refine ⟨fun i m σ' H' => m = ds.length - i ∧ i ≤ ds.length ∧ ∃ e G', Gr P G1 H1 G' H' ∧ Rep P b G' H' σ' e ∧ forGo B Fb (ds.drop i) e = some r, ⟨_, rfl, Nat.zero_le _, e1, G1, Gr.refl, r1, by rw [List.drop_zero]; exact h⟩, ?_⟩
    rintro i m σ' H' ⟨rfl, hi, e, G', gr, r', hf⟩
    by_cases hlt : i < ds.length
    · have hdi : ds[i]? = some ds[i] := List.getElem?_eq_getElem hlt
      obtain ⟨go, yl⟩ := (hy i G' H' gr.g r'.sub).2 _ hdi
      refine .inr ⟨go, fun σ2 H2 => i + 1 ≤ ds.length ∧ ∃ e G2, Gr P G1 H1 G2 H2 ∧ Rep P b G2 H2 σ2 e ∧ forGo B Fb (ds.drop (i + 1)) e = some r, fun σ2 H2 h2 => ⟨ds.length - (i + 1), by omega, rfl, h2⟩, fun x H2 y => ?_⟩
      obtain ⟨G2, pu, rx⟩ := yl x H2 y
      rw [List.drop_eq_getElem_cons hlt] at hf
      unfold forGo at hf
      cases w : B ds[i] e with
      | none => simp only [w] at hf; cases hf
      | some e2 =>
        simp only [w] at hf
        have gr2 := gr.trans (pu.gr r'.fresh)
        refine g2 P b σ' e G2 H2 x _ e2 (r'.pu pu) rx w _ fun σ2 r2 _ _ => ?_
        cases w2 : Fb e2 with
        | none => simp only [w2] at hf; cases hf
        | some r3 =>
          simp only [w2] at hf
          refine b2 P b σ2 e2 G2 H2 r3 r2 w2 _ ?_
          cases r3 with
          | nx e3 => exact fun σ3 G3 H3 g3 r3 => ⟨hlt, e3, G3, gr2.trans g3, r3, hf⟩
          | ct e3 => exact fun σ3 G3 H3 g3 r3 => ⟨hlt, e3, G3, gr2.trans g3, r3, hf⟩
          | bk e3 =>
            cases hf
            exact fun σ3 G3 H3 g3 r3 => q σ3 G3 H3 ((gr1.trans gr2).trans g3) r3
          | rt d e3 =>
            cases hf
            exact fun v σ3 G3 H3 g3 r3 p => q v σ3 G3 H3 ((gr1.trans gr2).trans g3) r3 p
    · have e0 : i = ds.length := by omega
      subst e0
      rw [List.drop_length] at hf
      cases hf
      exact .inl ⟨(hy _ G' H' gr.g r'.sub).1 (Nat.le_refl _), q σ' G' H' (gr1.trans gr) r'⟩
  · cases h
end
end Dn
namespace Dn
open PySem PySem.Spec PyProof.Rows L2
open Evl (Ex fresh_back)
def wipeGo (vs : List Nat) : Nat → DEnv → DEnv
  | _, [] => []
  | k, s :: e => (if vs.contains k then none else s) :: wipeGo vs (k + 1) e
def wipeD (e : DEnv) (vs : List Nat) : DEnv := wipeGo vs 0 e
def restGo (vs : List Nat) : Nat → DEnv → DEnv → DEnv
  | k, s :: e1, t :: e2 => (if vs.contains k then s else t) :: restGo vs (k + 1) e1 e2
  | _, _, _ => []
/-- e2, the names at vs as in e1 -/
def restD (e1 e2 : DEnv) (vs : List Nat) : DEnv := restGo vs 0 e1 e2
def fzOnly : Option SV → Bool
  | some (SV.ow _ _ _) => false
  | _ => true
def okW (e : DEnv) (vs : List Nat) : Bool := vs.all fun i => fzOnly (e[i]?.getD none)
theorem wipeGo_get (vs : List Nat) : ∀ (e : DEnv) (k i : Nat), (wipeGo vs k e)[i]? = if vs.contains (k + i) then (e[i]?).map (fun _ => none) else e[i]?
  | [], k, i => by simp [wipeGo]
  | s :: e, k, 0 => by
    simp only [wipeGo, List.getElem?_cons_zero, Nat.add_zero]
    split <;> simp_all
  | s :: e, k, i + 1 => by
    simp only [wipeGo, List.getElem?_cons_succ]
    rw [wipeGo_get vs e (k + 1) i, show k + 1 + i = k + (i + 1) by omega]
theorem wipeD_get (e : DEnv) (vs : List Nat) (i : Nat) : (wipeD e vs)[i]? = if vs.contains i then (e[i]?).map (fun _ => none) else e[i]? := by
  unfold wipeD
  rw [wipeGo_get, Nat.zero_add]
theorem wipeGo_len (vs : List Nat) : ∀ (e : DEnv) (k : Nat), (wipeGo vs k e).length = e.length
  | [], _ => rfl
  | s :: e, k => by simp [wipeGo, wipeGo_len vs e (k + 1)]
theorem wipeD_len (e : DEnv) (vs : List Nat) : (wipeD e vs).length = e.length := wipeGo_len vs e 0
theorem restGo_get (vs : List Nat) : ∀ (e1 e2 : DEnv) (k i : Nat), e1.length = e2.length → (restGo vs k e1 e2)[i]? = if vs.contains (k + i) then e1[i]? else e2[i]?
  | [], [], k, i, _ => by simp [restGo]
  | s :: e1, t :: e2, k, 0, _ => by
    simp only [restGo, List.getElem?_cons_zero, Nat.add_zero]
    split <;> rfl
  | s :: e1, t :: e2, k, i + 1, h => by
    simp only [restGo, List.getElem?_cons_succ]
    rw [restGo_get vs e1 e2 (k + 1) i (by simpa using h), show k + 1 + i = k + (i + 1) by omega]
theorem restD_get (e1 e2 : DEnv) (vs : List Nat) (i : Nat) (h : e1.length = e2.length) : (restD e1 e2 vs)[i]? = if vs.contains i then e1[i]? else e2[i]? := by
  unfold restD
  rw [restGo_get _ _ _ _ _ h, Nat.zero_add]
theorem restGo_len (vs : List Nat) : ∀ (e1 e2 : DEnv) (k : Nat), e1.length = e2.length → (restGo vs k e1 e2).length = e2.length
  | [], [], _, _ => rfl
  | s :: e1, t :: e2, k, h => by simp [restGo, restGo_len vs e1 e2 (k + 1) (by simpa using h)]
theorem contains_iff {vs : List Nat} {i : Nat} : vs.contains i = true ↔ i ∈ vs := by simp
theorem wipe_in {σ : L2.St} {i : Nat} : ∀ {vs : List Nat}, i ∈ vs → i < σ.length → (wipe σ vs)[i]? = some none
  | v :: vs, hi, hl => by
    unfold wipe
    by_cases hv : v = i
    · subst hv
      rw [List.getElem?_set_self (by rw [wipe_length]; exact hl)]
    · rw [List.getElem?_set_ne hv]
      refine wipe_in ?_ hl
      rcases List.mem_cons.mp hi with e | e
      · exact absurd e.symm hv
      · exact e
theorem wipe_eq {σ σ2 : L2.St} {ts vs : List Nat} (hl : σ2.length = (wipe σ vs).length) (ho : ∀ j : Nat, j ∉ ts → σ2[j]? = (wipe σ vs)[j]?) (hs : ∀ j ∈ ts, j ∈ vs) : wipe σ2 vs = wipe σ vs := by
  rw [wipe_length] at hl
  refine List.ext_getElem? fun j => ?_
  by_cases hj : j ∈ vs
  · by_cases hlt : j < σ.length
    · rw [wipe_in hj hlt, wipe_in hj (by omega)]
    · rw [List.getElem?_eq_none (by rw [wipe_length]; omega), List.getElem?_eq_none (by rw [wipe_length]; omega)]
  · rw [wipe_out hj, ho j fun h => hj (hs j h)]
section
variable {P : Addr → Prop} {b : Bs} {G H : Hp} {σ : L2.St} {env : DEnv}
theorem wipeD_some {e : DEnv} {vs : List Nat} {i : Nat} {s : SV} (h : (wipeD e vs)[i]? = some (some s)) : i ∉ vs ∧ e[i]? = some (some s) := by
  rw [wipeD_get] at h
  split at h
  · cases w : e[i]? with
    | none => rw [w] at h; cases h
    | some z => rw [w] at h; cases h
  · rename_i hc
    exact ⟨fun m => hc (contains_iff.mpr m), h⟩
theorem Rep.wipe (r : Rep P b G H σ env) (vs : List Nat) : Rep P b G H (wipe σ vs) (wipeD env vs) := by
  obtain ⟨L, hL, hr⟩ := r.rep
  refine ⟨by rw [wipe_length, wipeD_len]; exact r.len, r.sub, r.fresh, L, hL, fun i s h => ?_⟩
  obtain ⟨hi, h⟩ := wipeD_some h
  rw [wipe_out hi]
  exact hr i s h
/-- the names as they were, the lists of one's own as they are -/
theorem Rep.back {P' : Addr → Prop} {G1 H1 : Hp} {e1 e2 : DEnv} {vs : List Nat} (r1 : Rep P b G1 H1 σ e1) (r2 : Rep P' b G H (L2.wipe σ vs) e2) (hg : Ex G1 G) (ok : okW e1 vs = true) : Rep P' b G H σ (restD e1 e2 vs) := by
  have hl : e1.length = e2.length := by
    rw [← r1.len, ← r2.len, wipe_length]
  have okv : ∀ (i : Nat) (s : SV), i ∈ vs → e1[i]? = some (some s) → ∃ d, s = .fz d := fun i s hi h => by
    have := List.all_eq_true.mp ok i hi
    rw [h] at this
    cases s with
    | fz d => exact ⟨d, rfl⟩
    | ow _ _ ds => cases this
  obtain ⟨L, hL, hr⟩ := r2.rep
  refine ⟨?_, r2.sub, r2.fresh, L, hL, fun i s h => ?_⟩
  · show σ.length = (restGo vs 0 e1 e2).length
    rw [restGo_len _ _ _ _ hl, ← hl, r1.len]
  · rw [restD_get _ _ _ _ hl] at h
    split at h
    · rename_i hc
      have hi := contains_iff.mp hc
      obtain ⟨d, rfl⟩ := okv i s hi h
      obtain ⟨v, h1, h2⟩ := r1.fz i d h
      exact ⟨v, h1, h2.mono hg⟩
    · rename_i hc
      obtain ⟨v, h1, h2⟩ := hr i s h
      rw [wipe_out (fun m => hc (contains_iff.mpr m))] at h1
      exact ⟨v, h1, h2⟩
end
def lcGo (tgt : D → DEnv → Option DEnv) (test : Mo Bool) (elt : Mo D) (vs : List Nat) : List D → DEnv → Option (List D × DEnv)
  | [], e => some ([], e)
  | d :: ds, e =>
    match tgt d e with
    | none => none
    | some e1 =>
      match test e1 with
      | none => none
      | some (k, e2) =>
        if k = true then
          match elt e2 with
          | none => none
          | some (y, e3) =>
            match lcGo tgt test elt vs ds (wipeD e3 vs) with
            | none => none
            | some (ys, e4) => some (y :: ys, e4)
        else lcGo tgt test elt vs ds (wipeD e2 vs)
def mLc (items : Mo (List D)) (tgt : D → DEnv → Option DEnv) (test : Mo Bool) (elt : Mo D) (vs : List Nat) : Mo (List D) := fun env =>
  match items env with
  | none => none
  | some (ds, e1) =>
    if decide (ds.length ≤ 100000) && okW e1 vs then
      match lcGo tgt test elt vs ds (wipeD e1 vs) with
      | none => none
      | some (ys, e2) => some (ys, restD e1 e2 vs)
    else none
def DenTs (X : Cx) (ifs : List Expr) (F : Mo Bool) : Prop :=
  ∃ t : TT, PTs X ifs t ∧ ∀ (P : Addr → Prop) (b : Bs) (σ : L2.St) (env : DEnv) (G H : Hp) (d : Bool) (env' : DEnv), Rep P b G H σ env → F env = some (d, env') →
    ∀ Q : Bool → Hp → Prop, (∀ G' H', Gr P G H G' H' → Rep P b G' H' σ env' → Q d H') → t σ H Q
theorem dents_nil {X : Cx} : DenTs X [] (mRet true) := by
  refine ⟨_, pts_nil, fun P b σ env G H d env' r h Q q => ?_⟩
  obtain ⟨rfl, rfl⟩ := mRet_some h
  exact q G H Gr.refl r
theorem dents_one {X : Cx} {c : Expr} {F : Mo Bool} (h : DenT X c F) : DenTs X [c] F := by
  obtain ⟨t, h1, h2⟩ := h
  exact ⟨_, pts_one h1, h2⟩
section
variable {X : Cx} {tg e iter elt : Expr} {pos : Pos} {ifs : List Expr} {scope : Scope}
theorem lc_run {ts vs : List Nat} {Fi : Mo (List D)} {B : D → DEnv → Option DEnv} {Ft : Mo Bool} {Fe : Mo D} {wi : TI} {g : TG} {tt : TT} {te : TE}
    (i2 : ∀ (P : Addr → Prop) (b : Bs) (σ : L2.St) (env : DEnv) (G H : Hp) (ds : List D) (env' : DEnv), Rep P b G H σ env → Fi env = some (ds, env') →
      ∀ R : It → Hp → Prop, (∀ J G' H', Gr P G H G' H' → Rep P b G' H' σ env' → Yields tg J G' ds → R J H') → wi σ H R)
    (g2 : ∀ (P : Addr → Prop) (b : Bs) (σ : L2.St) (env : DEnv) (G H : Hp) (v : V) (d : D) (env' : DEnv), Rep P b G H σ env → RpT tg G v d → B d env = some env' →
      ∀ Q : L2.St → Hp → Prop, (∀ σ' : L2.St, Rep P b G H σ' env' → σ'.length = σ.length → (∀ j : Nat, j ∉ ts → σ'[j]? = σ[j]?) → Q σ' H) → g v σ H Q)
    (t2 : ∀ (P : Addr → Prop) (b : Bs) (σ : L2.St) (env : DEnv) (G H : Hp) (d : Bool) (env' : DEnv), Rep P b G H σ env → Ft env = some (d, env') →
      ∀ Q : Bool → Hp → Prop, (∀ G' H', Gr P G H G' H' → Rep P b G' H' σ env' → Q d H') → tt σ H Q)
    (e2 : ∀ (P : Addr → Prop) (b : Bs) (σ : L2.St) (env : DEnv) (G H : Hp) (d : D) (env' : DEnv), Rep P b G H σ env → Fe env = some (d, env') →
      ∀ Q : VK, (∀ v G' H', Gr P G H G' H' → Rep P b G' H' σ env' → Rp G' v d → Q v H') → te σ H Q)
    (hts : ∀ j ∈ ts, j ∈ vs) {P : Addr → Prop} {b : Bs} {σ : L2.St} {env : DEnv} {G H : Hp} {out : List D} {env' : DEnv} (rr : Rep P b G H σ env) (h : mLc Fi B Ft Fe vs env = some (out, env')) (Q : VK)
    (q : ∀ p vs G' H', Gr P G H G' H' → Rep (fun a => P a ∧ a ≠ p) b G' H' σ env' → P p → G' p = none → H' p = some (.lst vs) → RpAll G' vs out → Q (.ref p) H') : tLc wi g tt te vs σ H Q := by
  unfold mLc at h
  cases w : Fi env with
  | none => rw [w] at h; cases h
  | some pr =>
    obtain ⟨ds, e1⟩ := pr
    simp only [w] at h
    split at h
    · rename_i hc
      rw [Bool.and_eq_true, decide_eq_true_eq] at hc
      obtain ⟨hlen, hok⟩ := hc
      cases w2 : lcGo B Ft Fe vs ds (wipeD e1 vs) with
      | none => simp only [w2] at h; cases h
      | some pr2 =>
        obtain ⟨ys, ef⟩ := pr2
        simp only [w2] at h
        cases h
        refine i2 P b σ env G H ds e1 rr w _ fun J G1 H1 gr1 r1 hy Dl hD => ?_
        have hPD : P Dl := r1.fresh Dl hD
        have hGD : G1 Dl = none := fresh_back r1.sub hD
        have start0 : Rep (fun a => P a ∧ a ≠ Dl) b G1 (upd H1 Dl (.lst [])) (wipe σ vs) (wipeD e1 vs) := (r1.wipe vs).newH hD
        have gr0 : Gr P G1 H1 G1 (upd H1 Dl (.lst [])) := ⟨Ex.refl _, fun a o ha n => by
          rw [upd_ne (ne_of_none ha hD)]
          exact ha, fun _ _ n => n⟩
        refine ⟨fun i m H' => m = ds.length - i ∧ i ≤ ds.length ∧ ∃ e G' acc accd zs, Gr P G1 H1 G' H' ∧ Rep (fun a => P a ∧ a ≠ Dl) b G' H' (wipe σ vs) e ∧ H' Dl = some (.lst acc) ∧ G' Dl = none ∧ RpAll G' acc accd ∧ acc.length ≤ i ∧
          lcGo B Ft Fe vs (ds.drop i) e = some (zs, ef) ∧ accd ++ zs = out, ⟨_, rfl, Nat.zero_le _, _, G1, [], [], out, gr0, start0, upd_same, hGD, .nil, Nat.zero_le _, by rw [List.drop_zero]; exact w2, rfl⟩, ?_⟩
        rintro i m H' ⟨rfl, hi, e, G', acc, accd, zs, gr, r', hacc, hGn, ra, hal, hf, hout⟩
        by_cases hlt : i < ds.length
        · have hdi : ds[i]? = some ds[i] := List.getElem?_eq_getElem hlt
          obtain ⟨go, yl⟩ := (hy i G' H' gr.g r'.sub).2 _ hdi
          refine .inr ⟨go, fun H2 => i + 1 ≤ ds.length ∧ ∃ e G' acc accd zs, Gr P G1 H1 G' H2 ∧ Rep (fun a => P a ∧ a ≠ Dl) b G' H2 (wipe σ vs) e ∧ H2 Dl = some (.lst acc) ∧ G' Dl = none ∧ RpAll G' acc accd ∧ acc.length ≤ i + 1 ∧
            lcGo B Ft Fe vs (ds.drop (i + 1)) e = some (zs, ef) ∧ accd ++ zs = out, fun H2 h2 => ⟨ds.length - (i + 1), by omega, rfl, h2⟩, fun x H2 y => ?_⟩
          obtain ⟨G2, pu, rx⟩ := yl x H2 y
          rw [List.drop_eq_getElem_cons hlt] at hf
          unfold lcGo at hf
          have r2 := r'.pu pu
          have nP : ¬ (P Dl ∧ Dl ≠ Dl) := fun z => z.2 rfl
          have wk : ∀ {Ga Ha Gb Hb : Hp}, Gr (fun a => P a ∧ a ≠ Dl) Ga Ha Gb Hb → Gr P Ga Ha Gb Hb := fun g => g.wk fun x h => h.1
          have grA : Gr P G1 H1 G2 H2 := gr.trans (wk (pu.gr r'.fresh))
          have accA : H2 Dl = some (.lst acc) := pu.h _ _ hacc
          have gnA : G2 Dl = none := pu.n Dl (some_ne hacc) hGn
          cases w3 : B ds[i] e with
          | none => simp only [w3] at hf; cases hf
          | some eb =>
            simp only [w3] at hf
            refine g2 _ b (wipe σ vs) e G2 H2 x _ eb r2 rx w3 _ fun σ2 r3 l3 o3 => ⟨wipe_eq l3 o3 hts, ?_⟩
            have ew : wipe σ2 vs = wipe σ vs := wipe_eq l3 o3 hts
            cases w4 : Ft eb with
            | none => simp only [w4] at hf; cases hf
            | some pr4 =>
              obtain ⟨k, et⟩ := pr4
              simp only [w4] at hf
              refine t2 _ b σ2 eb G2 H2 k et r3 w4 _ fun G3 H3 g3 r4 => ?_
              have accB : H3 Dl = some (.lst acc) := g3.h _ _ accA nP
              have gnB : G3 Dl = none := g3.n Dl nP gnA
              cases k with
              | false =>
                simp only [if_neg (show ¬ (false = true) by decide)] at hf ⊢
                refine ⟨hlt, wipeD et vs, G3, acc, accd, zs, grA.trans (wk g3), ?_, accB, gnB, (ra.mono pu.g).mono g3.g, Nat.le_succ_of_le hal, hf, hout⟩
                rw [← ew]
                exact r4.wipe vs
              | true =>
                simp only [if_pos (show true = true from rfl)] at hf ⊢
                cases w5 : Fe et with
                | none => simp only [w5] at hf; cases hf
                | some pr5 =>
                  obtain ⟨yd, ee⟩ := pr5
                  simp only [w5] at hf
                  cases w6 : lcGo B Ft Fe vs (ds.drop (i + 1)) (wipeD ee vs) with
                  | none => simp only [w6] at hf; cases hf
                  | some pr6 =>
                    obtain ⟨ys6, e6⟩ := pr6
                    simp only [w6] at hf
                    cases hf
                    refine e2 _ b σ2 et G3 H3 yd ee r4 w5 _ fun v G4 H4 g4 r5 pv => ?_
                    have accC : H4 Dl = some (.lst acc) := g4.h _ _ accB nP
                    have gnC : G4 Dl = none := g4.n Dl nP gnB
                    refine ⟨acc, accC, line_lt (by omega), hlt, wipeD ee vs, G4, acc ++ [v], accd ++ [yd], ys6, ?_, ?_, upd_same, gnC, (((ra.mono pu.g).mono g3.g).mono g4.g).append (.cons pv .nil), by rw [List.length_append]; simpa using hal, w6, by rw [List.append_assoc]; exact hout⟩
                    · have gg := (grA.trans (wk g3)).trans (wk g4)
                      exact ⟨gg.g, fun a o ha n => by
                        rw [upd_ne (show a ≠ Dl from fun z => n (by rw [z]; exact hPD))]
                        exact gg.h a o ha n, gg.n⟩
                    · rw [← ew]
                      exact (r5.wipe vs).updH nP gnC
        · have e0 : i = ds.length := by omega
          subst e0
          rw [List.drop_length] at hf
          cases hf
          rw [List.append_nil] at hout
          subst hout
          exact .inl ⟨(hy _ G' H' gr.g r'.sub).1 (Nat.le_refl _), q Dl acc G' H' (gr1.trans gr) (r1.back r' gr.g hok) hPD hGn hacc ra⟩
    · cases h
def cE (F : Mo D) : TE := fun σ H Q => ∃ (P : Addr → Prop) (b : Bs) (env : DEnv) (G : Hp) (d : D) (env' : DEnv), Rep P b G H σ env ∧ F env = some (d, env') ∧ ∀ v G' H', Gr P G H G' H' → Rep P b G' H' σ env' → Rp G' v d → Q v H'
def cTs (F : Mo Bool) : TT := fun σ H Q => ∃ (P : Addr → Prop) (b : Bs) (env : DEnv) (G : Hp) (d : Bool) (env' : DEnv), Rep P b G H σ env ∧ F env = some (d, env') ∧ ∀ G' H', Gr P G H G' H' → Rep P b G' H' σ env' → Q d H'
def cG (tg : Expr) (ts : List Nat) (B : D → DEnv → Option DEnv) : TG := fun v σ H Q => ∃ (P : Addr → Prop) (b : Bs) (env : DEnv) (G : Hp) (d : D) (env' : DEnv), Rep P b G H σ env ∧ RpT tg G v d ∧ B d env = some env' ∧
  ∀ σ' : L2.St, Rep P b G H σ' env' → σ'.length = σ.length → (∀ j : Nat, j ∉ ts → σ'[j]? = σ[j]?) → Q σ' H
theorem DenE.pe {X : Cx} {e : Expr} {F : Mo D} (h : DenE X e F) : PE X e (cE F) := by
  obtain ⟨t, h1, h2⟩ := h
  exact ⟨fun pins s σ H Q I ⟨P, b, env, G, d, env', r, hF, q⟩ => h1.run pins s σ H Q I (h2 P b σ env G H d env' r hF Q q)⟩
theorem DenTs.pe {X : Cx} {e : List Expr} {F : Mo Bool} (h : DenTs X e F) : PTs X e (cTs F) := by
  obtain ⟨t, h1, h2⟩ := h
  exact ⟨fun pins s σ H Q I ⟨P, b, env, G, d, env', r, hF, q⟩ => h1.run pins s σ H Q I (h2 P b σ env G H d env' r hF Q q)⟩
theorem DenG.pe {X : Cx} {e : Expr} {ts : List Nat} {B : D → DEnv → Option DEnv} (h : DenG X e ts B) : PG X e (cG e ts B) := by
  obtain ⟨t, h1, h2⟩ := h
  exact ⟨fun pins s σ H v u Q I rv ⟨P, b, env, G, d, env', r, hv, hB, q⟩ => h1.run pins s σ H v u Q I rv (h2 P b σ env G H v d env' r hv hB Q q)⟩
theorem cE_run {F : Mo D} {P : Addr → Prop} {b : Bs} {σ : L2.St} {env : DEnv} {G H : Hp} {d : D} {env' : DEnv} (r : Rep P b G H σ env) (h : F env = some (d, env')) (Q : VK) (q : ∀ v G' H', Gr P G H G' H' → Rep P b G' H' σ env' → Rp G' v d → Q v H') : cE F σ H Q := ⟨P, b, env, G, d, env', r, h, q⟩
theorem cTs_run {F : Mo Bool} {P : Addr → Prop} {b : Bs} {σ : L2.St} {env : DEnv} {G H : Hp} {d : Bool} {env' : DEnv} (r : Rep P b G H σ env) (h : F env = some (d, env')) (Q : Bool → Hp → Prop) (q : ∀ G' H', Gr P G H G' H' → Rep P b G' H' σ env' → Q d H') : cTs F σ H Q := ⟨P, b, env, G, d, env', r, h, q⟩
theorem cG_run {tg : Expr} {ts : List Nat} {B : D → DEnv → Option DEnv} {P : Addr → Prop} {b : Bs} {σ : L2.St} {env : DEnv} {G H : Hp} {v : V} {d : D} {env' : DEnv} (r : Rep P b G H σ env) (rv : RpT tg G v d) (h : B d env = some env') (Q : L2.St → Hp → Prop)
    (q : ∀ σ' : L2.St, Rep P b G H σ' env' → σ'.length = σ.length → (∀ j : Nat, j ∉ ts → σ'[j]? = σ[j]?) → Q σ' H) : cG tg ts B v σ H Q := ⟨P, b, env, G, d, env', r, rv, h, q⟩
/-- a comprehension: its target, tests and element are spoken of in every block that it may run in -/
theorem denn_lc (own : List (Str × Nat)) {ts vs : List Nat} {Fi : Mo (List D)} {B : D → DEnv → Option DEnv} {Ft : Mo Bool} {Fe : Mo D} (hc : X.calm = true) (hN : X.N.Nodup) (hi : DenI X tg iter Fi) (ok : BlkOk X.N X.env.scope scope own)
    (hg : ∀ (s : Shared) (H : Hp) (C : Addr) (cl : List (Str × Addr)) (fp : List Addr), DenG (X.blk s H scope (compEnvC scope cl C X.env) fp) tg ts B)
    (ht : ∀ (s : Shared) (H : Hp) (C : Addr) (cl : List (Str × Addr)) (fp : List Addr), DenTs (X.blk s H scope (compEnvC scope cl C X.env) fp) ifs Ft)
    (he : ∀ (s : Shared) (H : Hp) (C : Addr) (cl : List (Str × Addr)) (fp : List Addr), DenE (X.blk s H scope (compEnvC scope cl C X.env) fp) elt Fe)
    (hvs : own.map (·.2) = vs := by rfl) (hts : ∀ j ∈ ts, j ∈ vs := by decide) (hs : ∀ x, foldedSetIterable iter X.env x = pure x := by intro _; rfl) :
    DenN X (.ListComp elt [⟨tg, iter, ifs, 0⟩] scope pos) 1 (mMap (fun ds => some (.list ds)) (mLc Fi B Ft Fe vs)) := by
  obtain ⟨wi, i1, i2⟩ := hi
  subst hvs
  exact ⟨_, pe_lc hc hN i1 ok (fun s H C cl fp => (hg s H C cl fp).pe) (fun s H C cl fp => (ht s H C cl fp).pe) (fun s H C cl fp => (he s H C cl fp).pe) hs, fun P b σ env G H out env' rr h Q q => by
    obtain ⟨ds, hd, hz⟩ := mMap_some h
    cases hz
    exact lc_run i2 (fun P b σ env G H v d env' r rv hB Q q => cG_run r rv hB Q q) (fun P b σ env G H d env' r hF Q q => cTs_run r hF Q q) (fun P b σ env G H d env' r hF Q q => cE_run r hF Q q) hts rr hd Q fun p vs G' H' g r hP hg hh ra => q _ G' H' (fun a => a = p) g r (Tree.one hP hg hh ra)⟩
end
end Dn
namespace Dn
open PySem PySem.Spec PyProof.Rows L2
open Evl (Ex fresh_back)
open Classical in
section
variable {P : Addr → Prop} {bs : Bs} {G H : Hp} {σ : L2.St} {env : DEnv}
theorem Rep.own1 (r : Rep P bs G H σ env) {i : Nat} {io : Bool} {ds : List D} (hi : env[i]? = some (some (SV.ow io 0 (.list ds)))) :
    ∃ a vs, σ[i]? = some (some (V.ref a)) ∧ H a = some (.lst vs) ∧ RpAll G vs ds ∧ ∀ ws es, RpAll G ws es → Gr P G H G (upd H a (.lst ws)) ∧ Rep P bs G (upd H a (.lst ws)) σ (env.set i (some (.ow io 0 (.list es)))) := by
  obtain ⟨N, v, hv, t, r', hio⟩ := r.take hi
  obtain ⟨a, vs, rfl, hN, hP, hG, ha, ra⟩ := t.list1 rfl
  refine ⟨a, vs, hv, ha, ra, fun ws es rw' => ⟨⟨Ex.refl G, fun c o hc n => ?_, fun _ _ n => n⟩, ?_⟩⟩
  · rw [upd_ne (show c ≠ a from fun z => n (by rw [z]; exact hP))]
    exact hc
  · have := (r'.updH (o := .lst ws) (fun z => z.2 hN) hG).put (t.set1 rw') hv hio
    rwa [set_set_env] at this
end
def ownAt (env : DEnv) (i : Nat) : Option (Bool × List D) :=
  match env[i]? with
  | some (some (SV.ow io 0 (.list ds))) => some (io, ds)
  | _ => none
theorem ownAt_some {env : DEnv} {i : Nat} {p : Bool × List D} (h : ownAt env i = some p) : env[i]? = some (some (SV.ow p.1 0 (.list p.2))) := by
  unfold ownAt at h
  split at h
  · cases h; assumption
  · cases h
def sSetN (i k : Nat) (m : Mo D) : So := fun env =>
  match m env with
  | some (d, e1) => some (.nx (e1.set i (some (SV.ow false k d))))
  | none => none
/-- the name's list is not changed from here on -/
def sFrz (i : Nat) (F : So) : So := fun env =>
  match env[i]? with
  | some (some (SV.ow _ _ d)) => F (env.set i (some (.fz d)))
  | _ => none
def sApp (i : Nat) (m : Mo D) : So := fun env =>
  match ownAt env i with
  | none => none
  | some _ =>
    match m env with
    | some (d, e1) => (match ownAt e1 i with | some (io, ds) => if ds.length < 100000 then some (.nx (e1.set i (some (.ow io 0 (.list (ds ++ [d])))))) else none | none => none)
    | none => none
/-- x[k] = e -/
def sPut (i : Nat) (k m : Mo D) : So := fun env =>
  match m env with
  | none => none
  | some (d, e1) =>
    match ownAt e1 i with
    | none => none
    | some _ =>
      match k e1 with
      | some (.int j, e2) => (match ownAt e2 i with | some (io, ds) => (match ixN ds.length j with | some n => some (.nx (e2.set i (some (.ow io 0 (.list (ds.set n d)))))) | none => none) | none => none)
      | _ => none
section
variable {X : Cx} {e k : Expr} {pos : Pos} {x : Str}
/-- [a, b, ..] as a new list -/
theorem denn_lst {es : List Expr} {F : Mo (List D)} (h : DenA X es F) : DenN X (.List es pos) 1 (mMap gLst F) := by
  obtain ⟨t, h1, h2⟩ := h
  refine ⟨_, pe_lst h1, fun P b σ env G H d env' rr h Q q => ?_⟩
  obtain ⟨z, hk, hz⟩ := mMap_some h
  unfold gLst at hz
  split at hz
  · rename_i hl
    cases hz
    refine h2 P b σ env G H _ _ rr hk _ fun v G' H' g r p => ⟨by rw [p.length]; exact line_of hl, fun y hy => ?_⟩
    have hPy := r.fresh y hy
    exact q (.ref y) G' (upd H' y (.lst v)) (fun a => a = y) ⟨g.g, fun a o ha n => by
      rw [upd_ne (show a ≠ y from fun z => n (by rw [z]; exact hPy))]
      exact g.h a o ha n, g.n⟩ (r.newH hy) (Tree.one hPy (fresh_back r.sub hy) upd_same p)
  · cases hz
/-- an operation, a call that makes a new list -/
theorem dens_setN (i k : Nat) {pos' : Pos} {F : Mo D} (hN : X.N.Nodup) (hi : X.N[i]? = some x) (hx : Loc X.env.scope x) (he : DenN X e (k + 1) F) (hs : swapsWith e (some (.Name x pos')) pos.line X.env = pure false := by rfl)
    (hf : X.fn x = true ∨ X.env.scope.names.lookup x = some .local := by first | exact .inl rfl | exact .inr rfl | assumption) : DenS X (.Assign [.Name x pos'] e pos) (sSetN i k F) := by
  obtain ⟨t, h1, h2⟩ := he
  refine ⟨_, ps_set hN hi hx h1 hs hf, fun P b σ env G H r rr h Dd q => ?_⟩
  unfold sSetN at h
  split at h
  · rename_i d e1 hd
    cases h
    exact h2 P b σ env G H d e1 rr hd _ fun v G' H' N g r' t => q _ G' H' g (r'.ownNew t i)
  · cases h
theorem denss_frz (i : Nat) {st : List Stmt} {F : So} (h : DenSs X st F) : DenSs X st (sFrz i F) := by
  obtain ⟨t, h1, h2⟩ := h
  refine ⟨_, h1, fun P b σ env G H r rr h Dd q => ?_⟩
  unfold sFrz at h
  split at h
  · rename_i io k d hd
    obtain ⟨G', g, s, n, r'⟩ := rr.ownKnow hd
    exact h2 P b σ _ G' H r r' h Dd (q.gr ⟨g, fun _ _ h _ => h, n⟩)
  · cases h
theorem dens_app (i : Nat) {F : Mo D} {p1 p2 p3 : Pos} (hi : X.N[i]? = some x) (hv : Vis X.env.scope x) (he : DenE X e F) (hd : (x == ("__debug__" : Str)) = false := by decide) (hcd : (x == ("__classdict__" : Str)) = false := by decide)
    (hs : swapsWith (.Call (.Attribute (.Name x p1) "append" p2) [e] [] p3) none pos.line X.env = pure false := by rfl)
    (hbase : attributeBase (.Name x p1) "append" X.env (eval (.Name x p1) X.env) = eval (.Name x p1) X.env := by rfl)
    (hfew : ((backTo p3 (starEach [e] X.env)).all (fun x => !x.1) && (backToKw p3 (keywordEach [] X.env)).all (fun x => x.1.isSome)
      && decide ([e].length + ([] : List Keyword).length + (if ([] : List Keyword).isEmpty then 0 else 1) < 30)) = true := by rfl)
    (hline : (p2.endLine == p3.line) = true := by rfl) (hst : starEach [e] X.env = (false, eval e X.env) :: starEach [] X.env := by rfl) (hplain : (backTo p3 (starEach [] X.env)).any (·.1) = false := by rfl) :
    DenS X (.Expr (.Call (.Attribute (.Name x p1) "append" p2) [e] [] p3) pos) (sApp i F) := by
  obtain ⟨t, h1, h2⟩ := he
  refine ⟨_, ps_expr (pe_bm PySem.F.plainAttrs_list PySem.F.slot_list_append PySem.F.type_list_append mt_append (pe_var hi hv hd hcd) (pa_cons h1 pa_nil hst) hbase hfew hline hst hplain) hs, fun P b σ env G H r rr h Dd q => ?_⟩
  unfold sApp at h
  cases w0 : ownAt env i with
  | none => simp only [w0] at h; cases h
  | some ds0 =>
    simp only [w0] at h
    obtain ⟨a, vs0, ha, hh0, _⟩ := rr.own1 (ownAt_some w0)
    cases w : F env with
    | none => rw [w] at h; cases h
    | some pr =>
      obtain ⟨d, e1⟩ := pr
      simp only [w] at h
      cases w2 : ownAt e1 i with
      | none => simp only [w2] at h; cases h
      | some ds =>
        obtain ⟨io, ds⟩ := ds
        simp only [w2] at h
        split at h
        · rename_i hl
          cases h
          refine ⟨_, ha, .inl ⟨rfl, _, .of hh0⟩, h2 P b σ env G H d e1 rr w _ fun v G' H' g r' p => ?_⟩
          obtain ⟨a', vs, ha', hh, ra, fin⟩ := r'.own1 (ownAt_some w2)
          rw [ha] at ha'
          cases ha'
          obtain ⟨g2, r2⟩ := fin (vs ++ [v]) (ds ++ [d]) (ra.append (.cons p .nil))
          exact ⟨a, vs, v, rfl, rfl, hh, by rw [ra.length]; exact line_lt hl, q σ G' _ (g.trans g2) r2⟩
        · cases h
theorem dens_put (i : Nat) {F Fk : Mo D} {p1 p2 : Pos} (hi : X.N[i]? = some x) (hv : Vis X.env.scope x) (he : DenE X e F) (hk : DenE X k Fk) (hd : (x == ("__debug__" : Str)) = false := by decide) (hcd : (x == ("__classdict__" : Str)) = false := by decide)
    (hs : swapsWithSole [.Subscript (.Name x p1) k p2] e pos.line X.env = pure false := by rfl) (hw : swappedStores [.Subscript (.Name x p1) k p2] e X.env = pure none := by rfl)
    (h1 : (assignEach [.Subscript (.Name x p1) k p2] X.env).map (·.2) = [assign (.Subscript (.Name x p1) k p2) X.env] := by rfl)
    (ha : ∀ v, assign (.Subscript (.Name x p1) k p2) X.env v = (do
      let ov ← holding [v] (eval (.Name x p1) X.env)
      let iv ← holding [v, ov] (eval k X.env)
      standAt p2
      holding [v, ov, iv] (setItem ov iv v)
      release [v, ov, iv] []) := by intro _; rfl) :
    DenS X (.Assign [.Subscript (.Name x p1) k p2] e pos) (sPut i Fk F) := by
  obtain ⟨t, h1', h2⟩ := he
  obtain ⟨u, k1, k2⟩ := hk
  refine ⟨_, ps_asg h1' (pg_sub (pe_var hi hv hd hcd) k1 set_list ha) hs hw h1, fun P b σ env G H r rr h Dd q => ?_⟩
  unfold sPut at h
  cases w : F env with
  | none => rw [w] at h; cases h
  | some pr =>
    obtain ⟨d, e1⟩ := pr
    simp only [w] at h
    cases w0 : ownAt e1 i with
    | none => simp only [w0] at h; cases h
    | some ds0 =>
      simp only [w0] at h
      cases w2 : Fk e1 with
      | none => simp only [w2] at h; cases h
      | some pr2 =>
        obtain ⟨kd, e2⟩ := pr2
        cases kd with
        | int j =>
          simp only [w2] at h
          cases w3 : ownAt e2 i with
          | none => simp only [w3] at h; cases h
          | some ds =>
            obtain ⟨io, ds⟩ := ds
            simp only [w3] at h
            cases w4 : ixN ds.length j with
            | none => simp only [w4] at h; cases h
            | some n =>
              simp only [w4] at h
              cases h
              refine h2 P b σ env G H d e1 rr w _ fun v G1 H1 g1 r1 p1 => ?_
              obtain ⟨a, vs0, ha0, hh0, _⟩ := r1.own1 (ownAt_some w0)
              refine ⟨_, ha0, k2 P b σ e1 G1 H1 _ e2 r1 w2 _ fun kv G2 H2 g2 r2 p2 => ?_⟩
              obtain ⟨a', vs, ha', hh, ra, fin⟩ := r2.own1 (ownAt_some w3)
              rw [ha0] at ha'
              cases ha'
              obtain ⟨g3, r3⟩ := fin (vs.set n v) (ds.set n d) (ra.set (p1.mono g2.g) n)
              exact ⟨a, vs, j, n, rfl, p2.inv_int, hh, by rw [ra.length]; exact w4, q σ G2 _ ((g1.trans g2).trans g3) r3⟩
        | _ => simp only [w2] at h; cases h
end
end Dn
namespace Dn
open PySem PySem.Spec PyProof.Rows L2
open Evl (Ex fresh_back)
def gLen : List D → Option D
  | [.list xs] => some (.int xs.length)
  | [.tuple xs] => some (.int xs.length)
  | _ => none
/-- a list of ints, of truths -/
def intsOf : List D → Option (List Int)
  | [] => some []
  | .int i :: ds => (intsOf ds).map (i :: ·)
  | _ :: _ => none
def blsOf : List D → Option (List Bool)
  | [] => some []
  | .bool i :: ds => (blsOf ds).map (i :: ·)
  | _ :: _ => none
theorem intsOf_some : ∀ {ds : List D} {ns : List Int}, intsOf ds = some ns → ds = ns.map PyData.int
  | [], ns, h => by cases h; rfl
  | d :: ds, ns, h => by
    cases d with
    | int i =>
      simp only [intsOf] at h
      cases w : intsOf ds with
      | none => rw [w] at h; cases h
      | some ms =>
        rw [w] at h
        cases h
        rw [intsOf_some w]
        rfl
    | _ => simp only [intsOf] at h; cases h
theorem blsOf_some : ∀ {ds : List D} {ns : List Bool}, blsOf ds = some ns → ds = ns.map PyData.bool
  | [], ns, h => by cases h; rfl
  | d :: ds, ns, h => by
    cases d with
    | bool i =>
      simp only [blsOf] at h
      cases w : blsOf ds with
      | none => rw [w] at h; cases h
      | some ms =>
        rw [w] at h
        cases h
        rw [blsOf_some w]
        rfl
    | _ => simp only [blsOf] at h; cases h
theorem RpAll.ints {G : Hp} : ∀ {ns : List Int} {vs : List V}, RpAll G vs (ns.map PyData.int) → vs = ns.map V.int
  | [], vs, h => by cases h; rfl
  | n :: ns, vs, h => by
    cases h with
    | cons a r => rw [a.inv_int, RpAll.ints r]; rfl
theorem RpAll.ofInts {G : Hp} : ∀ (ns : List Int), RpAll G (ns.map V.int) (ns.map PyData.int)
  | [] => .nil
  | n :: ns => .cons (.int n) (RpAll.ofInts ns)
theorem RpAll.bls {G : Hp} : ∀ {ns : List Bool} {vs : List V}, RpAll G vs (ns.map PyData.bool) → vs = ns.map V.bl
  | [], vs, h => by cases h; rfl
  | n :: ns, vs, h => by
    cases h with
    | cons a r => rw [a.inv_bl, RpAll.bls r]; rfl
def gAll : List D → Option D
  | [.list xs] => (blsOf xs).map fun bs => .bool (bs.all id)
  | _ => none
def gTuple : List D → Option D
  | [.list xs] => some (.tuple xs)
  | [.tuple xs] => some (.tuple xs)
  | _ => none
def gList : List D → Option D
  | [.list xs] => some (.list xs)
  | [.tuple xs] => some (.list xs)
  | _ => none
/-- insertion -/
def ins (x : Int) : List Int → List Int
  | [] => [x]
  | y :: ys => if x ≤ y then x :: y :: ys else y :: ins x ys
section
variable {X : Cx}
theorem callD_len : CallD X (.builtin "len") gLen := by
  refine ⟨_, call_len_seq, fun G H vs ds z s r hg Q q => ?_⟩
  unfold gLen at hg
  split at hg
  · cases hg
    obtain ⟨v, rfl, h⟩ := r.inv1
    obtain ⟨a, ws, rfl, ha, ra⟩ := h.inv_list
    exact ⟨a, ws, rfl, .inl (.of (s _ _ ha)), by rw [ra.length]; exact q _ G H (Pu.refl s) (.int _)⟩
  · cases hg
    obtain ⟨v, rfl, h⟩ := r.inv1
    obtain ⟨a, ws, rfl, ha, ra⟩ := h.inv_tup
    exact ⟨a, ws, rfl, .inr (ha.sq s), by rw [ra.length]; exact q _ G H (Pu.refl s) (.int _)⟩
  · cases hg
theorem bls_in {G H : Hp} {vs : List V} {xs : List D} {ns : List Bool} (s : Ex G H) (r : RpAll G vs [.list xs]) (h : blsOf xs = some ns) : ∃ a, vs = [.ref a] ∧ H a = some (.lst (ns.map V.bl)) := by
  obtain ⟨v, rfl, h1⟩ := r.inv1
  obtain ⟨a, ws, rfl, ha, ra⟩ := h1.inv_list
  have := blsOf_some h
  subst this
  have := ra.bls
  subst this
  exact ⟨a, rfl, s _ _ ha⟩
theorem callD_all (hc : X.calm = true) : CallD X (.builtin "all") gAll := by
  refine ⟨_, cr_all hc, fun G H vs ds z s r hg Q q => ?_⟩
  unfold gAll at hg
  split at hg
  · rename_i xs
    cases w : blsOf xs with
    | none => rw [w] at hg; cases hg
    | some ns =>
      rw [w] at hg
      cases hg
      obtain ⟨a, rfl, ha⟩ := bls_in s r w
      exact ⟨a, ns, rfl, .of ha, q _ G H (Pu.refl s) (.bl _)⟩
  · cases hg
theorem callD_list : CallD X (.type "list") gList := by
  refine ⟨_, call_list_of, fun G H vs ds z s r hg Q q => ?_⟩
  unfold gList at hg
  split at hg
  · cases hg
    obtain ⟨v, rfl, h⟩ := r.inv1
    obtain ⟨a, ws, rfl, ha, ra⟩ := h.inv_list
    exact ⟨a, ws, rfl, .inl (.of (s _ _ ha)), fun p hp => fin_new s q hp fun ex => .lst upd_same (ra.mono ex)⟩
  · cases hg
    obtain ⟨v, rfl, h⟩ := r.inv1
    obtain ⟨a, ws, rfl, ha, ra⟩ := h.inv_tup
    exact ⟨a, ws, rfl, .inr (ha.sq s), fun p hp => fin_new s q hp fun ex => .lst upd_same (ra.mono ex)⟩
  · cases hg
theorem callD_tuple : CallD X (.type "tuple") gTuple := by
  refine ⟨_, call_tupleS, fun G H vs ds z s r hg Q q => ?_⟩
  unfold gTuple at hg
  split at hg
  · cases hg
    obtain ⟨v, rfl, h⟩ := r.inv1
    obtain ⟨a, ws, rfl, ha, ra⟩ := h.inv_list
    exact ⟨a, ws, rfl, .inl ⟨.of (s _ _ ha), fun p o hp ho => fin_new s q hp fun ex => .tup (.new ho) (ra.mono ex)⟩⟩
  · cases hg
    obtain ⟨v, rfl, h⟩ := r.inv1
    obtain ⟨a, ws, rfl, ha, ra⟩ := h.inv_tup
    exact ⟨a, ws, rfl, .inr ⟨ha.sq s, q _ G H (Pu.refl s) (.tup ha ra)⟩⟩
  · cases hg
end
end Dn
namespace Dn
open PySem PySem.Spec PyProof.Rows L2
open Evl (Ex fresh_back)
/-- a list or a tuple walked -/
def gSeq : D → Option (List D)
  | .list xs => some xs
  | .tuple xs => some xs
  | _ => none
/-- x op= e -/
def sAug (i : Nat) (g : D → D → Option D) (m : Mo D) : So := fun env =>
  match env[i]? with
  | some (some (SV.fz x)) =>
    (match m env with
    | some (y, e1) => (match g x y with | some z => some (.nx (e1.set i (some (.fz z)))) | none => none)
    | none => none)
  | _ => none
section
variable {X : Cx} {a b e tg iter elt : Expr} {pos : Pos} {x : Str}
theorem deni_seq {F : Mo D} (h : DenE X e F) : DenI X tg e (mMap gSeq F) := by
  obtain ⟨t, h1, h2⟩ := h
  have hl := pi_list (tg := tg) h1
  have ht := pi_tup (tg := tg) h1
  refine ⟨fun σ H R => iList X.K t σ H R ∨ iTup X.K t σ H R, ⟨fun pins s σ H R I hw => hw.elim (hl.run pins s σ H R I) (ht.run pins s σ H R I)⟩, fun P b σ env G H ds env' rr h R q => ?_⟩
  obtain ⟨z, hk, hz⟩ := mMap_some h
  cases z with
  | list xs =>
    cases hz
    obtain ⟨_, _, k⟩ := deni_list (tg := tg) ⟨t, h1, h2⟩
    left
    refine h2 P b σ env G H _ env' rr hk _ fun v G' H' g r p => ?_
    obtain ⟨a, vs, rfl, ha, ra⟩ := p.inv_list
    refine ⟨a, rfl, ⟨vs, .of (r.sub _ _ ha)⟩, q _ G' H' g r fun i G1 H1 e1 e2 => ⟨fun hi => ⟨vs, .of (e2 _ _ (e1 _ _ ha)), by rw [ra.length]; exact hi⟩, fun d hd => ?_⟩⟩
    obtain ⟨v, hv, rv⟩ := ra.get hd
    refine ⟨⟨vs, v, .of (e2 _ _ (e1 _ _ ha)), hv⟩, fun x H' y => ?_⟩
    obtain ⟨rfl, y⟩ := y
    have := y vs (.of (e2 _ _ (e1 _ _ ha)))
    rw [hv] at this
    cases this
    exact ⟨G1, Pu.refl e2, .of (rv.mono e1)⟩
  | tuple xs =>
    cases hz
    right
    refine h2 P b σ env G H _ env' rr hk _ fun v G' H' g r p => ?_
    obtain ⟨a, vs, rfl, ha, ra⟩ := p.inv_tup
    refine ⟨a, rfl, ⟨vs, ha.sq r.sub⟩, q _ G' H' g r fun i G1 H1 e1 e2 => ⟨fun hi => ⟨vs, (ha.mono e1).sq e2, by rw [ra.length]; exact hi⟩, fun d hd => ?_⟩⟩
    obtain ⟨v, hv, rv⟩ := ra.get hd
    refine ⟨⟨vs, v, (ha.mono e1).sq e2, hv⟩, fun x H' y => ?_⟩
    obtain ⟨rfl, y⟩ := y
    have := y vs ((ha.mono e1).sq e2)
    rw [hv] at this
    cases this
    exact ⟨G1, Pu.refl e2, .of (rv.mono e1)⟩
  | _ => cases hz
theorem dens_setLc (i : Nat) {y : Str} {py spos : Pos} {ifs : List Expr} {scope : Scope} (own : List (Str × Nat)) {ts vs : List Nat} {Fi : Mo (List D)} {B : D → DEnv → Option DEnv} {Ft : Mo Bool} {Fe : Mo D} (hc : X.calm = true) (hN : X.N.Nodup) (hy : X.N[i]? = some y) (hyl : X.env.scope.names.lookup y = some .local)
    (hsw : swapsWith (.ListComp elt [⟨tg, iter, ifs, 0⟩] scope pos) (some (.Name y py)) spos.line X.env = pure true) (hi : DenI X tg iter Fi) (ok : BlkOk X.N X.env.scope scope own)
    (hg : ∀ (s : Shared) (H : Hp) (C : Addr) (cl : List (Str × Addr)) (fp : List Addr), DenG (X.blk s H scope (compEnvC scope cl C X.env) fp) tg ts B)
    (ht : ∀ (s : Shared) (H : Hp) (C : Addr) (cl : List (Str × Addr)) (fp : List Addr), DenTs (X.blk s H scope (compEnvC scope cl C X.env) fp) ifs Ft)
    (he : ∀ (s : Shared) (H : Hp) (C : Addr) (cl : List (Str × Addr)) (fp : List Addr), DenE (X.blk s H scope (compEnvC scope cl C X.env) fp) elt Fe)
    (hvs : own.map (·.2) = vs := by rfl) (hts : ∀ j ∈ ts, j ∈ vs := by decide) (hs : ∀ x, foldedSetIterable iter X.env x = pure x := by intro _; rfl) :
    DenS X (.Assign [.Name y py] (.ListComp elt [⟨tg, iter, ifs, 0⟩] scope pos) spos) (sSet i (mMap (fun ds => some (.list ds)) (mLc Fi B Ft Fe vs))) := by
  obtain ⟨wi, i1, i2⟩ := hi
  subst hvs
  have base := ps_setLc hc hN hy hyl hsw i1 ok (fun s H C cl fp => (hg s H C cl fp).pe) (fun s H C cl fp => (ht s H C cl fp).pe) (fun s H C cl fp => (he s H C cl fp).pe) hs
  refine ⟨_, base, fun P b σ env G H r rr h Dd q => ?_⟩
  unfold sSet at h
  split at h
  · rename_i d e1 hd
    cases h
    obtain ⟨ds, hds, hz⟩ := mMap_some hd
    cases hz
    refine lc_run i2 (fun P b σ env G H v d env' r rv hB Q q => cG_run r rv hB Q q) (fun P b σ env G H d env' r hF Q q => cTs_run r hF Q q) (fun P b σ env G H d env' r hF Q q => cE_run r hF Q q) hts rr hds _ fun p vs G' H' g r hP hg hh ra => ?_
    obtain ⟨G2, e1, e2, n, rv, r2⟩ := Rep.know (N := fun a => a = p) r (Tree.one hP hg hh ra)
    exact q _ G2 H' ⟨g.g.trans e1, g.h, fun a ha hn => n a ha (g.n a ha hn)⟩ (r2.set rv)
  · cases h
/-- t < u, tuples of ints -/
def gLtT : D → D → Option D
  | .tuple xs, .tuple ys => (intsOf xs).bind fun ns => (intsOf ys).map fun ms => .bool (HT.lexLt ns ms)
  | _, _ => none
theorem tup_ints {G H : Hp} {v : V} {xs : List D} {ns : List Int} (s : Ex G H) (r : Rp G v (.tuple xs)) (h : intsOf xs = some ns) : ∃ a, v = .ref a ∧ TupS H a (ns.map V.int) := by
  obtain ⟨a, ws, rfl, ha, ra⟩ := r.inv_tup
  have := intsOf_some h
  subst this
  have := ra.ints
  subst this
  exact ⟨a, rfl, ha.mono s⟩
theorem opD_ltT (hu : X.A.units < cLine) : OpD X (compareOp .Lt) gLtT := by
  refine ⟨_, op_ltT hu, fun G H x y d e z s rx ry hg Q q => ?_⟩
  unfold gLtT at hg
  split at hg
  · rename_i xs ys
    cases w : intsOf xs with
    | none => rw [w] at hg; cases hg
    | some ns =>
      cases w2 : intsOf ys with
      | none => rw [w, w2] at hg; cases hg
      | some ms =>
        rw [w, w2] at hg
        cases hg
        obtain ⟨a, rfl, ha⟩ := tup_ints s rx w
        obtain ⟨b, rfl, hb⟩ := tup_ints s ry w2
        exact ⟨a, b, ns, ms, rfl, rfl, ha.sq (Ex.refl H), hb.sq (Ex.refl H), q _ G H (Pu.refl s) (.bl _)⟩
  · cases hg
def gLt : D → D → Option D := fun d e => match gCmp (fun i j => decide (i < j)) d e with | some z => some z | none => gLtT d e
theorem opD_lt (hu : X.A.units < cLine) : OpD X (compareOp .Lt) gLt := (opD_cmp op_lt).or (opD_ltT hu)
def eqF : D → D → Bool
  | .none, .none => true
  | .bool a, .bool b => a == b
  | .bool a, .int b => (if a then 1 else 0) == b
  | .int a, .bool b => a == (if b then 1 else 0)
  | .int a, .int b => a == b
  | .str a, .str b => a == b
  | _, _ => false
theorem Rp.eqF {G : Hp} {v w : V} {d e : D} (h : Rp G v d) (k : Rp G w e) (f : flatD d = true) (f' : flatD e = true) : eqV v w = eqF d e := by
  cases h <;> cases k <;> first | rfl | cases f | cases f'
def gIn (neg : Bool) : D → D → Option D := fun x y =>
  match gSeq y with
  | some ys => if flatD x && ys.all flatD then some (.bool (if neg then !(ys.any fun y => eqF y x) else ys.any fun y => eqF y x)) else none
  | none => none
theorem dene_isN {F : Mo D} {j : Nat} {p' : Pos} (h : DenE X a F) : DenE X (.Compare a [.Is] [.Constant .none j p'] pos) (mMap gIsN F) := (den_isN h).1
theorem dent_chain {op op' : CmpOp} {c : Expr} {g g' : D → D → Option D} {F F' F'' : Mo D} (ho : OpD X (compareOp op) g) (ho' : OpD X (compareOp op') g') (ha : DenE X a F) (hb : DenE X b F') (hc : DenE X c F'')
    (hm : lastMarks [op, op'] [b, c] = false := by with_unfolding_all rfl) : DenT X (.Compare a [op, op'] [b, c] pos) (mChain g g' F F' F'') := (den_chain ho ho' ha hb hc hm).2
theorem dene_chain {op op' : CmpOp} {c : Expr} {g g' : D → D → Option D} {F F' F'' : Mo D} (ho : OpD X (compareOp op) g) (ho' : OpD X (compareOp op') g') (ha : DenE X a F) (hb : DenE X b F') (hc : DenE X c F'')
    (hm : lastMarks [op, op'] [b, c] = false := by with_unfolding_all rfl) : DenE X (.Compare a [op, op'] [b, c] pos) (mMap (fun k => some (.bool k)) (mChain g g' F F' F'')) := (den_chain ho ho' ha hb hc hm).1
end
end Dn
namespace Dn
open PySem PySem.Spec PyProof.Rows L2
open Evl (Ex fresh_back)
theorem Rep.rep' {P : Addr → Prop} {bs : Bs} {G H : Hp} {σ : L2.St} {env : DEnv} (r : Rep P bs G H σ env) :
    ∃ L : Lab, (∀ a p, L a = some p → P a ∧ G a = none ∧ H a ≠ none) ∧ ∀ (i : Nat) (s : SV), env[i]? = some (some s) → ∃ v, σ[i]? = some (some v) ∧ SRep bs L G H i v s := by
  classical
  obtain ⟨L, hL, hr⟩ := r.rep
  refine ⟨fun a => if H a = none then none else L a, fun a p h => ?_, fun i s h => ?_⟩
  · by_cases ha : H a = none
    · simp [ha] at h
    · simp [ha] at h
      exact ⟨(hL a p h).1, (hL a p h).2, ha⟩
  · obtain ⟨v, hv, hs⟩ := hr i s h
    refine ⟨v, hv, ?_⟩
    cases s with
    | fz d => exact hs
    | ow io k d =>
      refine ⟨?_, hs.2⟩
      have aux : ∀ (k : Nat) {p : List Nat} {v : V} {d : D}, OwnR L G H k p v d → OwnR (fun a => if H a = none then none else L a) G H k p v d := by
        intro k
        induction k with
        | zero => intro p v d h; exact h
        | succ k ih =>
          intro p v d h
          cases d with
          | list ds =>
            unfold OwnR at h ⊢
            obtain ⟨a, vs, rfl, ha, hl, hn, h⟩ := h
            exact ⟨a, vs, rfl, ha, by simp [ha, hl], hn, fun j w e hw he => ih (h j w e hw he)⟩
          | dict kvs =>
            cases k with
            | zero =>
              obtain ⟨a, rfl, hl, h⟩ := h
              refine ⟨a, rfl, ?_, h⟩
              have : H a ≠ none := by
                obtain ⟨_, _, e, _⟩ := h
                exact some_ne e
              simp [this, hl]
            | succ k => cases k with
              | zero =>
                obtain ⟨a, rfl, hl, h⟩ := h
                refine ⟨a, rfl, ?_, h⟩
                have : H a ≠ none := by
                  obtain ⟨_, _, e, _⟩ := h
                  exact some_ne e
                simp [this, hl]
              | succ k => unfold OwnR at h; exact h.elim
          | _ => unfold OwnR at h; exact h.elim
      exact aux _ hs.1
inductive AR where
  | fz (d : D) | io (i : Nat)
def RpAR (σ : L2.St) (G : Hp) (v : V) : AR → Prop
  | .fz d => Rp G v d
  | .io i => σ[i]? = some (some v)
def RpARs (σ : L2.St) (G : Hp) : List V → List AR → Prop
  | [], [] => True
  | v :: vs, a :: as => RpAR σ G v a ∧ RpARs σ G vs as
  | _, _ => False
theorem RpARs.length {σ : L2.St} {G : Hp} : ∀ {vs : List V} {as : List AR}, RpARs σ G vs as → vs.length = as.length
  | [], [], _ => rfl
  | v :: vs, a :: as, h => congrArg (· + 1) (RpARs.length h.2)
theorem RpARs.get {σ : L2.St} {G : Hp} : ∀ {vs : List V} {as : List AR} {j : Nat} {a : AR}, RpARs σ G vs as → as[j]? = some a → ∃ v, vs[j]? = some v ∧ RpAR σ G v a
  | [], [], _, _, _, e => by simp at e
  | v :: vs, a :: as, 0, _, h, e => by simp at e; subst e; exact ⟨v, rfl, h.1⟩
  | v :: vs, a :: as, j + 1, _, h, e => RpARs.get (j := j) h.2 (by simpa using e)
def DenR (X : Cx) (es : List Expr) (F : Mo (List AR)) : Prop :=
  ∃ t : TA, PA X es t ∧ ∀ (P : Addr → Prop) (b : Bs) (σ : L2.St) (env : DEnv) (G H : Hp) (d : List AR) (env' : DEnv), Rep P b G H σ env → F env = some (d, env') →
    ∀ Q : List V → Hp → Prop, (∀ v G' H', Gr P G H G' H' → Rep P b G' H' σ env' → RpARs σ G' v d → Q v H') → t σ H Q
section
variable {X : Cx} {a b c e : Expr} {pos : Pos}
theorem denr_nil : DenR X [] (mRet []) := by
  refine ⟨_, pa_nil, fun P b σ env G H d env' r h Q q => ?_⟩
  obtain ⟨rfl, rfl⟩ := mRet_some h
  exact q [] G H Gr.refl r trivial
theorem RpAR.mono {σ : L2.St} {G G' : Hp} (e : Ex G G') {v : V} : ∀ {a : AR}, RpAR σ G v a → RpAR σ G' v a
  | .fz _, h => Rp.mono e h
  | .io _, h => h
theorem denr_cons {es : List Expr} {F : Mo D} {F' : Mo (List AR)} (ha : DenE X a F) (hr : DenR X es F') (hs : starEach (a :: es) X.env = (false, eval a X.env) :: starEach es X.env := by rfl) : DenR X (a :: es) (mCons (mMap (fun d => some (AR.fz d)) F) F') := by
  obtain ⟨t, h1, h2⟩ := ha
  obtain ⟨u, k1, k2⟩ := hr
  refine ⟨_, pa_cons h1 k1 hs, fun P b σ env G H d env' rr h Q q => ?_⟩
  obtain ⟨x, e1, hx, h⟩ := mBind_some h
  obtain ⟨y, e2, hy, h⟩ := mBind_some h
  obtain ⟨rfl, rfl⟩ := mRet_some h
  obtain ⟨x', hx', hz⟩ := mMap_some hx
  cases hz
  exact h2 P b σ env G H x' e1 rr hx' _ fun v G1 H1 g1 r1 p1 => k2 P b σ e1 G1 H1 y _ r1 hy _ fun w G2 H2 g2 r2 p2 => q _ G2 H2 (g1.trans g2) r2 ⟨Rp.mono g2.g p1, p2⟩
def mIo (i : Nat) (F' : Mo (List AR)) : Mo (List AR) := fun env => match env[i]? with | some (some (SV.ow _ _ _)) => mCons (mRet (AR.io i)) F' env | _ => none
theorem denr_io (i : Nat) {x : Str} {p1 : Pos} {es : List Expr} {F' : Mo (List AR)} (hi : X.N[i]? = some x) (hv : Vis X.env.scope x) (hr : DenR X es F') (hd : (x == ("__debug__" : Str)) = false := by decide) (hcd : (x == ("__classdict__" : Str)) = false := by decide)
    (hs : starEach (.Name x p1 :: es) X.env = (false, eval (.Name x p1) X.env) :: starEach es X.env := by rfl) : DenR X (.Name x p1 :: es) (mIo i F') := by
  obtain ⟨u, k1, k2⟩ := hr
  refine ⟨_, pa_cons (pe_var hi hv hd hcd) k1 hs, fun P b σ env G H d env' rr h Q q => ?_⟩
  unfold mIo at h
  split at h
  · rename_i io k dd w
    obtain ⟨x0, e1, hx, hA⟩ := mBind_some h
    obtain ⟨y, e2, hy, hB⟩ := mBind_some hA
    obtain ⟨rfl, rfl⟩ := mRet_some hx
    obtain ⟨rfl, rfl⟩ := mRet_some hB
    obtain ⟨v, hv, _⟩ := rr.own w
    exact ⟨v, hv, k2 P b σ _ G H y _ rr hy _ fun w G2 H2 g2 r2 p2 => q _ G2 H2 g2 r2 ⟨hv, p2⟩⟩
  · cases h
end
abbrev Ms := List (Option Nat)
def argEnv : Ms → List D → DEnv
  | none :: ms, d :: ds => some (.fz d) :: argEnv ms ds
  | some k :: ms, d :: ds => some (.ow true k d) :: argEnv ms ds
  | _, _ => []
def outEnv : Ms → List D → DEnv
  | none :: ms, outs => none :: outEnv ms outs
  | some k :: ms, o :: outs => some (.ow true k o) :: outEnv ms outs
  | some _ :: ms, [] => none :: outEnv ms []
  | [], _ => []
def outsOf : Ms → DEnv → Option (List D)
  | [], _ => some []
  | none :: ms, _ :: e => outsOf ms e
  | some k :: ms, some (.ow true k' d) :: e => if k' = k then (outsOf ms e).map (d :: ·) else none
  | _, _ => none
theorem outsOf_get : ∀ {ms : Ms} {e : DEnv} {outs : List D}, outsOf ms e = some outs → ∀ {i : Nat} {s : SV}, (outEnv ms outs)[i]? = some (some s) → e[i]? = some (some s) ∧ ∃ k o, s = .ow true k o
  | [], _, _, _, i, s, h => by simp [outEnv] at h
  | none :: ms, [], _, he, i, s, h => by simp [outsOf] at he
  | none :: ms, x :: e, outs, he, 0, s, h => by simp [outEnv] at h
  | none :: ms, x :: e, outs, he, i + 1, s, h => outsOf_get (ms := ms) (e := e) (i := i) he h
  | some k :: ms, e, outs, he, i, s, h => by
    unfold outsOf at he
    split at he
    · rename_i h1; cases h1
    · rename_i h1; cases h1
    · rename_i k0 ms0 k' d e0 h1
      cases h1
      split at he
      · rename_i hk
        subst hk
        cases w : outsOf ms e0 with
        | none => rw [w] at he; cases he
        | some os =>
          rw [w] at he
          cases he
          cases i with
          | zero =>
            simp [outEnv] at h
            subst h
            exact ⟨rfl, _, _, rfl⟩
          | succ i => exact outsOf_get (ms := ms) (e := e0) w (i := i) h
      · cases he
    · cases he
theorem outEnv_len : ∀ (ms : Ms) (outs : List D), (outEnv ms outs).length = ms.length
  | [], _ => rfl
  | none :: ms, outs => congrArg (· + 1) (outEnv_len ms outs)
  | some k :: ms, o :: outs => congrArg (· + 1) (outEnv_len ms outs)
  | some k :: ms, [] => congrArg (· + 1) (outEnv_len ms [])
theorem argEnv_len : ∀ {ms : Ms} {ds : List D}, ds.length = ms.length → (argEnv ms ds).length = ms.length
  | [], _, _ => by simp [argEnv]
  | none :: ms, d :: ds, h => congrArg (· + 1) (argEnv_len (by simpa using h))
  | some k :: ms, d :: ds, h => congrArg (· + 1) (argEnv_len (by simpa using h))
  | none :: ms, [], h => by cases h
  | some k :: ms, [], h => by cases h
/-- a def that changes what it is handed -/
def spIO (ms : Ms) (F : List D → Option (D × List D)) : Sp := fun vs H Q _ => ∃ (P : Addr → Prop) (bs : Bs) (G : Hp) (ds : List D) (d : D) (outs : List D),
  Rep P bs G H (vs.map some) (argEnv ms ds) ∧ ds.length = ms.length ∧ F ds = some (d, outs) ∧ ∀ v G' H', Gr P G H G' H' → Rep P bs G' H' (vs.map some) (outEnv ms outs) → Rp G' v d → Q v H'
structure FdIO (P : Program) (w : World) (K : PySem.W.Frag) (mg : Str → Option Value) (base : Heap) (x : Str) (k : Nat) (ms : Ms) (F : List D → Option (D × List D)) : Prop where
  ex : ∃ (f : Addr) (fd : FuncData) (ps : List Str), mg x = some (.ref f) ∧ PySem.W.keepIn K (.ref f) = true ∧ Binds K fd ps [] ∧ ps.length = ms.length ∧ FnOk P w K mg base CX0 k f fd ps (spIO ms F)
def envIO (N : List Str) (ms : Ms) (ds : List D) : DEnv := argEnv ms ds ++ List.replicate (N.length - ds.length) none
def outIO (ms : Ms) : Option Fl → Option (D × List D)
  | some (.rt d e) => (outsOf ms e).map fun o => (d, o)
  | some (.nx e) => (outsOf ms e).map fun o => (.none, o)
  | _ => none
section
variable {P : Program} {w : World} {K : PySem.W.Frag} {mg : Str → Option Value} {base : Heap}
theorem Rep.ext {P : Addr → Prop} {bs : Bs} {G H : Hp} {σ : L2.St} {env : DEnv} (r : Rep P bs G H σ env) (n : Nat) : Rep P bs G H (σ ++ List.replicate n none) (env ++ List.replicate n none) := by
  obtain ⟨L, hL, hr⟩ := r.rep
  refine ⟨by simp [r.len], r.sub, r.fresh, L, hL, fun i s h => ?_⟩
  by_cases hi : i < env.length
  · rw [List.getElem?_append_left hi] at h
    obtain ⟨v, hv, hs⟩ := hr i s h
    exact ⟨v, by rw [List.getElem?_append_left (by rw [r.len]; exact hi)]; exact hv, hs⟩
  · rw [List.getElem?_append_right (by omega)] at h
    obtain ⟨h1, h2⟩ := List.getElem?_eq_some_iff.mp h
    rw [List.getElem_replicate] at h2
    cases h2
theorem FdIO.mk' {x qual : Str} {st : Stmt} {f : Addr} {fd : FuncData} {N ps : List Str} {k : Nat} {ms : Ms} {B : So} (F : Fun K x qual st f fd) (S : FnScope N ps (defScope st)) (hg : mg x = some (.ref f)) (hb : Binds K fd ps []) (hl : ps.length = ms.length)
    (body : ∀ (cdv : Value) (A : Around) (outer : List Env) (s : Shared) (H : Hp) (E : XK), Room k (A.deeper (envOfC qual (defScope st) s.heap.objs.size f cdv)) → DenSs (cxOf CX0 P w K mg base N qual (defScope st) f cdv A outer s H E).nox (defBody st) B) :
    FdIO P w K mg base x (k + 1) ms (fun ds => outIO ms (B (envIO N ms ds))) := by
  refine ⟨f, fd, ps, hg, F.kp, hb, hl, F.ok S (fun vs H Q E h => ?_) fun cdv A outer s H vs Q E hr h => ?_⟩
  · obtain ⟨P0, bs, G, ds, d, outs, r, hd, _, _⟩ := h
    have := r.len
    rw [List.length_map, argEnv_len hd] at this
    rw [this, hl]
  · obtain ⟨P0, bs, G, ds, d, outs, r, hd, hF, q⟩ := h
    obtain ⟨t, h1, h2⟩ := body cdv A outer s H E hr
    refine ⟨t, h1, ?_⟩
    have hvl : vs.length = ds.length := by
      have := r.len
      rw [List.length_map, argEnv_len hd] at this
      rw [this, hd]
    have rep : Rep P0 bs G H (L2.start N vs) (envIO N ms ds) := by
      unfold L2.start envIO
      rw [hvl]
      exact r.ext _
    have fin : ∀ {σ' : L2.St} {env' : DEnv} {G' H' : Hp} {v : V} {d' : D}, Gr P0 G H G' H' → Rep P0 bs G' H' σ' env' → Rp G' v d' → (outsOf ms env').map (fun o => (d', o)) = some (d, outs) → Q v H' := fun {σ' env' G' H' v d'} g r' p he => by
      cases wo : outsOf ms env' with
      | none => rw [wo] at he; cases he
      | some o =>
        rw [wo] at he
        cases he
        refine q v G' H' g ?_ p
        obtain ⟨L, hL, hr'⟩ := r'.rep
        obtain ⟨_, _, hr0⟩ := r.rep
        refine ⟨by rw [List.length_map, outEnv_len, hvl, hd], r'.sub, r'.fresh, L, hL, fun i s hs => ?_⟩
        obtain ⟨he', kk, oo, rfl⟩ := outsOf_get wo hs
        obtain ⟨v', hv', hs'⟩ := hr' i _ he'
        have hv2 := hs'.2 rfl
        subst hv2
        refine ⟨_, ?_, hs'⟩
        -- the parameter held it from the first
        have hil : i < ms.length := by
          have := (List.getElem?_eq_some_iff.mp hs).1
          rwa [outEnv_len] at this
        have aux : ∀ (ms : Ms) (ds outs : List D) (i : Nat) (k : Nat) (o : D), ds.length = ms.length → (outEnv ms outs)[i]? = some (some (.ow true k o)) → ∃ d, (argEnv ms ds)[i]? = some (some (.ow true k d)) := by
          intro ms
          induction ms with
          | nil => intro ds outs i k o _ h; simp [outEnv] at h
          | cons m ms ih =>
            intro ds outs i k o hl h
            cases ds with
            | nil => cases hl
            | cons d ds =>
              have hl' : ds.length = ms.length := by simpa using hl
              cases m with
              | none =>
                cases i with
                | zero => simp [outEnv] at h
                | succ i => exact ih ds outs i k o hl' h
              | some k0 =>
                cases outs with
                | nil =>
                  cases i with
                  | zero => simp [outEnv] at h
                  | succ i => exact ih ds [] i k o hl' h
                | cons o0 outs =>
                  cases i with
                  | zero => simp [outEnv] at h; obtain ⟨rfl, _⟩ := h; exact ⟨d, rfl⟩
                  | succ i => exact ih ds outs i k o hl' h
        obtain ⟨d0, hd0⟩ := aux ms ds _ i kk oo hd hs
        obtain ⟨v0, hv0, hs0⟩ := hr0 i _ hd0
        have := hs0.2 rfl
        subst this
        exact hv0
    cases hB : B (envIO N ms ds) with
    | none => simp only [hB] at hF; cases hF
    | some r1 =>
      simp only [hB] at hF
      refine h2 _ bs _ _ G H r1 rep hB _ ?_
      cases r1 with
      | nx e1 => exact fun σ' G' H' g r' => fin g r' .non hF
      | rt d' e1 => exact fun v σ' G' H' g r' p => fin g r' p hF
      | bk e1 => cases hF
      | ct e1 => cases hF
theorem FdIO.imp {x : Str} {k : Nat} {ms : Ms} {F F' : List D → Option (D × List D)} (h : FdIO P w K mg base x k ms F) (hi : ∀ ds d, F' ds = some d → F ds = some d) : FdIO P w K mg base x k ms F' := by
  obtain ⟨f, fd, ps, h1, h2, h3, h4, h5⟩ := h.ex
  exact ⟨f, fd, ps, h1, h2, h3, h4, h5.imp fun vs H Q E ⟨P0, bs, G, ds, d, outs, a1, a2, a3, q⟩ => ⟨P0, bs, G, ds, d, outs, a1, a2, hi _ _ a3, q⟩⟩
theorem FdIO.mono {x : Str} {j k : Nat} {ms : Ms} {F : List D → Option (D × List D)} (h : FdIO P w K mg base x j ms F) (hk : j ≤ k) : FdIO P w K mg base x k ms F := by
  obtain ⟨f, fd, ps, h1, h2, h3, h4, h5⟩ := h.ex
  exact ⟨f, fd, ps, h1, h2, h3, h4, h5.mono hk⟩
end
def argsOf : Ms → List AR → DEnv → Option (List D)
  | [], [], _ => some []
  | none :: ms, .fz d :: as, e => (argsOf ms as e).map (d :: ·)
  | some k :: ms, .io i :: as, e => (match e[i]? with | some (some (SV.ow _ k' d)) => if k' = k then (argsOf ms as e).map (d :: ·) else none | _ => none)
  | _, _, _ => none
def putOuts : Ms → List AR → List D → DEnv → Option DEnv
  | [], [], [], e => some e
  | none :: ms, .fz _ :: as, outs, e => putOuts ms as outs e
  | some k :: ms, .io i :: as, o :: outs, e => (match e[i]? with | some (some (SV.ow io _ _)) => putOuts ms as outs (e.set i (some (.ow io k o))) | _ => none)
  | _, _, _, _ => none
def iosOf : List AR → List Nat
  | [] => []
  | .fz _ :: as => iosOf as
  | .io i :: as => i :: iosOf as
def mCallIO (ms : Ms) (F : List D → Option (D × List D)) (m : Mo (List AR)) : Mo D := fun env =>
  match m env with
  | none => none
  | some (ars, e1) =>
    if (iosOf ars).Nodup then
      match argsOf ms ars e1 with
      | none => none
      | some ds =>
        match F ds with
        | none => none
        | some (d, outs) => (putOuts ms ars outs e1).map fun e2 => (d, e2)
    else none
theorem mem_ios : ∀ {as : List AR} {i : Nat}, i ∈ iosOf as ↔ ∃ j : Nat, as[j]? = some (AR.io i)
  | [], i => by simp [iosOf]
  | .fz d :: as, i => by
    rw [iosOf, mem_ios]
    constructor
    · rintro ⟨j, h⟩; exact ⟨j + 1, h⟩
    · rintro ⟨j, h⟩
      cases j with
      | zero => simp at h
      | succ j => exact ⟨j, h⟩
  | .io k :: as, i => by
    rw [iosOf, List.mem_cons, mem_ios]
    constructor
    · rintro (rfl | ⟨j, h⟩)
      · exact ⟨0, rfl⟩
      · exact ⟨j + 1, h⟩
    · rintro ⟨j, h⟩
      cases j with
      | zero => simp at h; exact .inl h.symm
      | succ j => exact .inr ⟨j, h⟩
theorem ios_inj : ∀ {as : List AR} {i j k : Nat}, (iosOf as).Nodup → as[j]? = some (AR.io i) → as[k]? = some (AR.io i) → j = k
  | .fz d :: as, i, j, k, hn, h1, h2 => by
    cases j with
    | zero => simp at h1
    | succ j =>
      cases k with
      | zero => simp at h2
      | succ k => exact congrArg (· + 1) (ios_inj (as := as) hn h1 h2)
  | .io m :: as, i, j, k, hn, h1, h2 => by
    rw [iosOf, List.nodup_cons] at hn
    cases j with
    | zero =>
      simp at h1
      subst h1
      cases k with
      | zero => rfl
      | succ k => exact absurd (mem_ios.mpr ⟨k, h2⟩) hn.1
    | succ j =>
      cases k with
      | zero =>
        simp at h2
        subst h2
        exact absurd (mem_ios.mpr ⟨j, h1⟩) hn.1
      | succ k => exact congrArg (· + 1) (ios_inj (as := as) hn.2 h1 h2)
theorem argsOf_len : ∀ {ms : Ms} {as : List AR} {e : DEnv} {ds : List D}, argsOf ms as e = some ds → ds.length = ms.length ∧ as.length = ms.length
  | [], [], _, _, h => by cases h; exact ⟨rfl, rfl⟩
  | none :: ms, .fz d :: as, e, ds, h => by
    simp only [argsOf] at h
    cases w : argsOf ms as e with
    | none => rw [w] at h; cases h
    | some xs => rw [w] at h; cases h; obtain ⟨h1, h2⟩ := argsOf_len w; exact ⟨congrArg (· + 1) h1, congrArg (· + 1) h2⟩
  | some k :: ms, .io i :: as, e, ds, h => by
    simp only [argsOf] at h
    split at h
    · split at h
      · cases w : argsOf ms as e with
        | none => rw [w] at h; cases h
        | some xs => rw [w] at h; cases h; obtain ⟨h1, h2⟩ := argsOf_len w; exact ⟨congrArg (· + 1) h1, congrArg (· + 1) h2⟩
      · cases h
    · cases h
  | [], _ :: _, _, _, h => by simp [argsOf] at h
  | none :: ms, [], _, _, h => by simp [argsOf] at h
  | some k :: ms, [], _, _, h => by simp [argsOf] at h
  | none :: ms, .io _ :: as, _, _, h => by simp [argsOf] at h
  | some k :: ms, .fz _ :: as, _, _, h => by simp [argsOf] at h
theorem argsOf_get : ∀ {ms : Ms} {as : List AR} {e : DEnv} {ds : List D}, argsOf ms as e = some ds → ∀ {j : Nat} {s : SV}, (argEnv ms ds)[j]? = some (some s) →
    (∃ d, s = .fz d ∧ as[j]? = some (.fz d)) ∨ (∃ k d i io, s = .ow true k d ∧ as[j]? = some (AR.io i) ∧ e[i]? = some (some (.ow io k d)))
  | [], [], _, _, h, j, s, hj => by cases h; simp [argEnv] at hj
  | none :: ms, .fz d :: as, e, ds, h, j, s, hj => by
    simp only [argsOf] at h
    cases w : argsOf ms as e with
    | none => rw [w] at h; cases h
    | some xs =>
      rw [w] at h
      cases h
      cases j with
      | zero => simp [argEnv] at hj; exact .inl ⟨d, hj.symm, rfl⟩
      | succ j => exact argsOf_get w (j := j) hj
  | some k :: ms, .io i :: as, e, ds, h, j, s, hj => by
    simp only [argsOf] at h
    split at h
    · rename_i io k' d' he
      split at h
      · rename_i hk
        subst hk
        cases w : argsOf ms as e with
        | none => rw [w] at h; cases h
        | some xs =>
          rw [w] at h
          cases h
          cases j with
          | zero => simp [argEnv] at hj; exact .inr ⟨_, _, i, io, hj.symm, rfl, he⟩
          | succ j => exact argsOf_get w (j := j) hj
      · cases h
    · cases h
  | [], _ :: _, _, _, h, _, _, _ => by simp [argsOf] at h
  | none :: ms, [], _, _, h, _, _, _ => by simp [argsOf] at h
  | some k :: ms, [], _, _, h, _, _, _ => by simp [argsOf] at h
  | none :: ms, .io _ :: as, _, _, h, _, _, _ => by simp [argsOf] at h
  | some k :: ms, .fz _ :: as, _, _, h, _, _, _ => by simp [argsOf] at h
theorem putOuts_get : ∀ {ms : Ms} {as : List AR} {outs : List D} {e e' : DEnv}, (iosOf as).Nodup → putOuts ms as outs e = some e' → e'.length = e.length ∧ ∀ {i : Nat} {s : SV}, e'[i]? = some (some s) →
    (∃ (j k : Nat) (o : D) (io : Bool) (d : SV), as[j]? = some (AR.io i) ∧ s = SV.ow io k o ∧ (outEnv ms outs)[j]? = some (some (SV.ow true k o)) ∧ e[i]? = some (some d) ∧ ∃ (k' : Nat) (d' : D), d = SV.ow io k' d') ∨ (i ∉ iosOf as ∧ e[i]? = some (some s))
  | [], [], [], e, e', _, h => by cases h; exact ⟨rfl, fun h => .inr ⟨by simp [iosOf], h⟩⟩
  | none :: ms, .fz d :: as, outs, e, e', hn, h => by
    obtain ⟨h1, h2⟩ := putOuts_get (ms := ms) (as := as) hn (show putOuts ms as outs e = some e' from h)
    refine ⟨h1, fun hi => ?_⟩
    rcases h2 hi with ⟨j, k, o, io, d', a1, a2, a3, a4⟩ | h3
    · exact .inl ⟨j + 1, k, o, io, d', a1, a2, a3, a4⟩
    · exact .inr h3
  | some k :: ms, .io m :: as, o :: outs, e, e', hn, h => by
    rw [iosOf, List.nodup_cons] at hn
    simp only [putOuts] at h
    split at h
    · rename_i io k' d' he
      obtain ⟨h1, h2⟩ := putOuts_get (ms := ms) (as := as) hn.2 h
      refine ⟨by rw [h1, List.length_set], fun {i s} hi => ?_⟩
      rcases h2 hi with ⟨j, k2, o2, io2, d2, a1, a2, a3, a4, a5⟩ | ⟨h3, h4⟩
      · have him : i ≠ m := fun z => hn.1 (by rw [← z]; exact mem_ios.mpr ⟨j, a1⟩)
        rw [List.getElem?_set_ne (Ne.symm him)] at a4
        exact .inl ⟨j + 1, k2, o2, io2, d2, a1, a2, a3, a4, a5⟩
      · by_cases him : i = m
        · subst him
          have hl : i < e.length := (List.getElem?_eq_some_iff.mp he).1
          rw [List.getElem?_set_self hl] at h4
          cases h4
          exact .inl ⟨0, k, o, io, _, rfl, rfl, rfl, he, _, _, rfl⟩
        · rw [List.getElem?_set_ne (Ne.symm him)] at h4
          exact .inr ⟨by rw [iosOf, List.mem_cons, not_or]; exact ⟨him, h3⟩, h4⟩
    · cases h
  | [], [], _ :: _, _, _, _, h => by simp [putOuts] at h
  | [], _ :: _, _, _, _, _, h => by simp [putOuts] at h
  | none :: ms, [], _, _, _, _, h => by simp [putOuts] at h
  | none :: ms, .io _ :: as, _, _, _, _, h => by simp [putOuts] at h
  | some k :: ms, [], _, _, _, _, h => by simp [putOuts] at h
  | some k :: ms, .fz _ :: as, _, _, _, _, h => by simp [putOuts] at h
  | some k :: ms, .io _ :: as, [], _, _, _, h => by simp [putOuts] at h
section
variable {X : Cx} {e : Expr} {pos : Pos}
open Classical in
theorem den_callIO {x : Str} {k : Nat} {ms : Ms} {p : Pos} {es : List Expr} {F : List D → Option (D × List D)} {m : Mo (List AR)} (h : FdIO X.prog X.w X.K X.mg X.base x k ms F) (hr : Room k X.A) (hg : Gl X x) (ha : DenR X (e :: es) m) (hdb : (x == ("__debug__" : Str)) = false := by decide)
    (he : starEach (e :: es) X.env = (false, eval e X.env) :: starEach es X.env := by rfl) (hpl : (backTo pos (starEach es X.env)).any (·.1) = false := by rfl) : DenE X (.Call (.Name x p) (e :: es) [] pos) (mCallIO ms F m) := by
  obtain ⟨f, fd, ps, h1, h2, h3, h4, h5⟩ := h.ex
  obtain ⟨t, a1, a2⟩ := ha
  refine ⟨_, pe_call h5 hr hg h1 h2 h3 .nil pass0 a1 hdb he hpl, fun P b σ env G H d env' rr h Q q => ?_⟩
  unfold mCallIO at h
  cases w1 : m env with
  | none => simp only [w1] at h; cases h
  | some pr1 =>
    obtain ⟨ars, e1⟩ := pr1
    simp only [w1] at h
    split at h
    · rename_i hnd
      cases w2 : argsOf ms ars e1 with
      | none => simp only [w2] at h; cases h
      | some ds =>
        simp only [w2] at h
        cases w3 : F ds with
        | none => simp only [w3] at h; cases h
        | some pr3 =>
          obtain ⟨d3, outs⟩ := pr3
          simp only [w3] at h
          cases w4 : putOuts ms ars outs e1 with
          | none => rw [w4] at h; cases h
          | some e2 =>
            rw [w4] at h
            cases h
            refine a2 P b σ env G H _ _ rr w1 _ fun vs G1 H1 g r p => ?_
            show spIO ms F (vs ++ []) H1 Q _
            rw [List.append_nil]
            obtain ⟨hdl, hal⟩ := argsOf_len w2
            obtain ⟨L, hL, hrp⟩ := r.rep'
            obtain ⟨hel, hpo⟩ := putOuts_get hnd w4
            -- the nodes handed over
            let N : Addr → Prop := fun a => ∃ i q, L a = some (i :: q) ∧ i ∈ iosOf ars
            have hN : ∀ a, N a → P a ∧ G1 a = none ∧ H1 a ≠ none := fun a ⟨i, q, hq, _⟩ => hL a _ hq
            let P0 : Addr → Prop := fun a => H1 a = none ∨ N a
            let L0 : Lab := fun a => match L a with | some (i :: q) => if h : ∃ j : Nat, ars[j]? = some (AR.io i) then some (h.choose :: q) else none | _ => none
            have hL0 : ∀ {a : Addr} {i j : Nat} {q : List Nat}, L a = some (i :: q) → ars[j]? = some (AR.io i) → L0 a = some (j :: q) := fun {a i j q} hq hj => by
              have hex : ∃ j : Nat, ars[j]? = some (AR.io i) := ⟨j, hj⟩
              have : hex.choose = j := ios_inj hnd hex.choose_spec hj
              show (match L a with | some (i :: q) => if h : ∃ j : Nat, ars[j]? = some (AR.io i) then some (h.choose :: q) else none | _ => none) = _
              rw [hq]
              simp [hex, this]
            have args : Rep P0 (fun j => match vs[j]? with | some (.ref a) => a | _ => 0) G1 H1 (vs.map some) (argEnv ms ds) := by
              refine ⟨by rw [List.length_map, p.length, argEnv_len hdl, hal], r.sub, fun a h => .inl h, L0, fun a q hq => ?_, fun j s hj => ?_⟩
              · have : ∃ i q', L a = some (i :: q') ∧ i ∈ iosOf ars := by
                  have hq : (match L a with | some (i :: q) => if h : ∃ j : Nat, ars[j]? = some (AR.io i) then some (h.choose :: q) else none | _ => none) = some q := hq
                  split at hq
                  · rename_i i q' hl
                    split at hq
                    · rename_i hex
                      exact ⟨i, q', hl, mem_ios.mpr hex⟩
                    · cases hq
                  · cases hq
                exact ⟨.inr this, (hN a this).2.1⟩
              · rcases argsOf_get w2 hj with ⟨d, rfl, has⟩ | ⟨kk, d, i, io, rfl, has, hei⟩
                · obtain ⟨v, hv, rv⟩ := p.get has
                  exact ⟨v, by rw [List.getElem?_map, hv]; rfl, rv⟩
                · obtain ⟨v, hv, rv⟩ := p.get has
                  obtain ⟨v', hv', hs'⟩ := hrp i _ hei
                  have rv : σ[i]? = some (some v) := rv
                  rw [rv] at hv'
                  cases hv'
                  refine ⟨v, by rw [List.getElem?_map, hv]; rfl, hs'.1.keep (Ex.refl G1) _ fun a q hq => ⟨hL0 (by simpa using hq) has, fun _ e => e⟩, fun _ => ?_⟩
                  have hrf : ∃ a, v = .ref a := by
                    have := hs'.1
                    cases d with
                    | list _ => unfold OwnR at this; obtain ⟨a, _, e, _⟩ := this; exact ⟨a, e⟩
                    | dict _ =>
                      cases kk with
                      | zero => obtain ⟨a, e, _⟩ := this; exact ⟨a, e⟩
                      | succ k' => cases k' with
                        | zero => obtain ⟨a, e, _⟩ := this; exact ⟨a, e⟩
                        | succ _ => unfold OwnR at this; exact this.elim
                    | _ => unfold OwnR at this; exact this.elim
                  obtain ⟨a, rfl⟩ := hrf
                  simp [hv]
            refine ⟨P0, _, G1, ds, _, outs, args, hdl, w3, fun v G2 H2 g2 r2 rv => ?_⟩
            have hP0 : ∀ a, P0 a → P a := fun a h => h.elim (r.fresh a) fun n => (hN a n).1
            refine q v G2 H2 (g.trans (g2.wk hP0)) ?_ rv
            obtain ⟨L2, hL2, hr2⟩ := r2.rep'
            refine ⟨by rw [r.len, hel], r2.sub, fun a h => hP0 a (r2.fresh a h), fun a => match L2 a with | some (j :: q) => (match ars[j]? with | some (AR.io i) => some (i :: q) | _ => none) | _ => if N a then none else L a, fun a q hq => ?_, fun i s hi => ?_⟩
            · simp only [] at hq
              split at hq
              · rename_i j q' hl2
                obtain ⟨z1, z2, z3⟩ := hL2 a _ hl2
                exact ⟨hP0 a z1, z2⟩
              · split at hq
                · cases hq
                · rename_i hn
                  obtain ⟨z1, z2, z3⟩ := hL a _ hq
                  exact ⟨z1, g2.n a (fun z => z.elim z3 hn) z2⟩
            · rcases hpo hi with ⟨j, kk, o, io, dd, b1, rfl, b3, b4, k', d', rfl⟩ | ⟨hni, hi⟩
              · obtain ⟨v2, hv2, hs2⟩ := hr2 j _ b3
                obtain ⟨v1, hv1, rv1⟩ := p.get b1
                have e12 : v1 = v2 := by
                  rw [List.getElem?_map, hv1] at hv2
                  simpa using hv2
                subst e12
                obtain ⟨v3, hv3, hs3⟩ := hrp i _ b4
                have rv1 : σ[i]? = some (some v1) := rv1
                have e13 : v1 = v3 := by
                  rw [rv1] at hv3
                  simpa using hv3
                subst e13
                refine ⟨v1, rv1, hs2.1.keep (Ex.refl G2) _ fun a q hq => ⟨?_, fun _ e => e⟩, hs3.2⟩
                have hq : L2 a = some (j :: q) := by simpa using hq
                simp [hq, b1]
              · obtain ⟨v3, hv3, hs3⟩ := hrp i _ hi
                refine ⟨v3, hv3, ?_⟩
                cases s with
                | fz d => exact Rp.mono g2.g hs3
                | ow io kk dd =>
                  refine ⟨hs3.1.keep g2.g _ fun a q hq => ?_, hs3.2⟩
                  have hna : ¬ N a := fun ⟨i', q', hq', hm⟩ => by
                    rw [hq] at hq'
                    cases hq'
                    exact hni hm
                  obtain ⟨z1, z2, z3⟩ := hL a _ hq
                  have hnp : ¬ P0 a := fun z => z.elim z3 hna
                  refine ⟨?_, fun o ho => g2.h a o ho hnp⟩
                  have : L2 a = none := by
                    cases wl : L2 a with
                    | none => rfl
                    | some q2 => exact absurd (hL2 a _ wl).1 hnp
                  simp [this, hna, hq]
    · cases h
end
end Dn
namespace Dn
open PySem PySem.Spec PyProof.Rows L2
open Evl (Ex fresh_back)
section
variable {P : Addr → Prop} {bs : Bs} {G H G' H' : Hp} {σ : L2.St} {env : DEnv} {N : Addr → Prop}
theorem Tree.same {a : Addr} {o : HO} (hN : N a) (ha : H a = some o) (g : Gr (fun a => P a ∧ ¬ N a) G H G' H') : H' a = some o := g.h a o ha fun z => z.2 hN
end
section
variable {X : Cx} {e k : Expr} {pos : Pos} {x : Str}
end
end Dn
namespace Dn
open PySem PySem.Spec PyProof.Rows L2
open Evl (Ex fresh_back)
/-- data and new things of one's own, side by side -/
def Items (P : Addr → Prop) (G H : Hp) : (Addr → Prop) → List V → List (Option Nat × D) → Prop
  | N, [], [] => ∀ a, ¬ N a
  | N, v :: vs, (none, d) :: is => Rp G v d ∧ Items P G H N vs is
  | N, v :: vs, (some k, d) :: is => ∃ N1 N2 : Addr → Prop, (∀ a, N a ↔ N1 a ∨ N2 a) ∧ (∀ a, N1 a → ¬ N2 a) ∧ Tree P G H N1 (k + 1) v d ∧ Items P G H N2 vs is
  | _, _, _ => False
theorem Items.length {P : Addr → Prop} {G H : Hp} : ∀ {N : Addr → Prop} {vs : List V} {is : List (Option Nat × D)}, Items P G H N vs is → vs.length = is.length
  | _, [], [], _ => rfl
  | _, v :: vs, (none, d) :: is, h => congrArg (· + 1) (Items.length h.2)
  | _, v :: vs, (some k, d) :: is, ⟨_, _, _, _, _, h⟩ => congrArg (· + 1) (Items.length h)
theorem Items.there {P : Addr → Prop} {G H : Hp} : ∀ {N : Addr → Prop} {vs : List V} {is : List (Option Nat × D)}, Items P G H N vs is → ∀ a, N a → P a ∧ G a = none ∧ H a ≠ none
  | _, [], [], h, a, n => absurd n (h a)
  | _, v :: vs, (none, d) :: is, h, a, n => Items.there h.2 a n
  | _, v :: vs, (some k, d) :: is, ⟨N1, N2, e, _, t, h⟩, a, n => ((e a).mp n).elim (t.n a) (Items.there h a)
theorem Items.keep {P : Addr → Prop} {G H G' H' : Hp} : ∀ {N M : Addr → Prop} {vs : List V} {is : List (Option Nat × D)}, Items P G H N vs is → (∀ a, N a → M a) → Gr (fun a => P a ∧ ¬ M a) G H G' H' → Items P G' H' N vs is
  | _, _, [], [], h, _, _ => h
  | _, _, v :: vs, (none, d) :: is, h, m, g => ⟨h.1.mono g.g, Items.keep h.2 m g⟩
  | _, M, v :: vs, (some k, d) :: is, ⟨N1, N2, e, dis, t, h⟩, m, g =>
    ⟨N1, N2, e, dis, t.keep (g.wk fun a z => ⟨z.1, fun n => z.2 (m a ((e a).mpr (.inl n)))⟩), Items.keep h (fun a n => m a ((e a).mpr (.inr n))) g⟩
theorem Items.wk {P P' : Addr → Prop} {G H : Hp} (w : ∀ a, P a → P' a) : ∀ {N : Addr → Prop} {vs : List V} {is : List (Option Nat × D)}, Items P G H N vs is → Items P' G H N vs is
  | _, [], [], h => h
  | _, v :: vs, (none, d) :: is, h => ⟨h.1, Items.wk w h.2⟩
  | _, v :: vs, (some k, d) :: is, ⟨N1, N2, e, dis, t, h⟩ => ⟨N1, N2, e, dis, t.wk w, Items.wk w h⟩
section
variable {X : Cx} {a b c e : Expr} {pos : Pos}
end
/-- names set one after another -/
def setσ : List Nat → List V → L2.St → L2.St
  | i :: is, v :: vs, σ => setσ is vs (σ.set i (some v))
  | _, _, σ => σ
def setE : List Nat → List (Option Nat × D) → DEnv → DEnv
  | i :: is, (none, d) :: ds, e => setE is ds (e.set i (some (.fz d)))
  | i :: is, (some k, d) :: ds, e => setE is ds (e.set i (some (.ow false k d)))
  | _, _, e => e
theorem Rep.items {P : Addr → Prop} {bs : Bs} {G H : Hp} : ∀ {is : List Nat} {vs : List V} {its : List (Option Nat × D)} {N : Addr → Prop} {σ : L2.St} {env : DEnv}, Rep (fun a => P a ∧ ¬ N a) bs G H σ env → Items P G H N vs its → is.length = its.length → Rep P bs G H (setσ is vs σ) (setE is its env)
  | [], [], [], N, σ, env, r, h, _ => r.wkP fun a z => z.1
  | i :: is, v :: vs, (none, d) :: its, N, σ, env, r, h, hl => Rep.items (is := is) (vs := vs) (its := its) (r.set h.1) h.2 (by simpa using hl)
  | i :: is, v :: vs, (some k, d) :: its, N, σ, env, r, ⟨N1, N2, e, dis, t, h⟩, hl => by
    have r1 : Rep (fun a => (P a ∧ ¬ N2 a) ∧ ¬ N1 a) bs G H σ env := r.wkP fun a z => ⟨⟨z.1, fun n => z.2 ((e a).mpr (.inr n))⟩, fun n => z.2 ((e a).mpr (.inl n))⟩
    have t1 : Tree (fun a => P a ∧ ¬ N2 a) G H N1 (k + 1) v d := ⟨fun a n => ⟨⟨(t.n a n).1, dis a n⟩, (t.n a n).2⟩, t.r⟩
    exact Rep.items (is := is) (vs := vs) (its := its) (r1.ownNew t1 i) h (by simpa using hl)
  | [], v :: vs, d :: its, N, σ, env, r, h, hl => by cases hl
  | i :: is, [], [], N, σ, env, r, h, hl => by cases hl
/-- x, y, .. = a, b, .. -/
def sPars (is : List Nat) (m : Mo (List (Option Nat × D))) : So := fun env =>
  match m env with
  | some (its, e1) => if is.length = its.length then some (.nx (setE is its e1)) else none
  | none => none
section
variable {X : Cx} {a b c e : Expr} {pos : Pos} {x y z : Str}
end
end Dn
namespace Dn
open PySem PySem.Spec PyProof.Rows L2
open Evl (Ex fresh_back)
section
variable {X : Cx} {tg e iter elt : Expr} {pos : Pos} {ifs : List Expr} {scope : Scope}
theorem lcN_run {ts vs : List Nat} {Fi : Mo (List D)} {B : D → DEnv → Option DEnv} {Ft : Mo Bool} {Fe : Mo D} {wi : TI} {g : TG} {tt : TT} {te : TE}
    (i2 : ∀ (P : Addr → Prop) (b : Bs) (σ : L2.St) (env : DEnv) (G H : Hp) (ds : List D) (env' : DEnv), Rep P b G H σ env → Fi env = some (ds, env') →
      ∀ R : It → Hp → Prop, (∀ J G' H', Gr P G H G' H' → Rep P b G' H' σ env' → Yields tg J G' ds → R J H') → wi σ H R)
    (g2 : ∀ (P : Addr → Prop) (b : Bs) (σ : L2.St) (env : DEnv) (G H : Hp) (v : V) (d : D) (env' : DEnv), Rep P b G H σ env → RpT tg G v d → B d env = some env' →
      ∀ Q : L2.St → Hp → Prop, (∀ σ' : L2.St, Rep P b G H σ' env' → σ'.length = σ.length → (∀ j : Nat, j ∉ ts → σ'[j]? = σ[j]?) → Q σ' H) → g v σ H Q)
    (t2 : ∀ (P : Addr → Prop) (b : Bs) (σ : L2.St) (env : DEnv) (G H : Hp) (d : Bool) (env' : DEnv), Rep P b G H σ env → Ft env = some (d, env') →
      ∀ Q : Bool → Hp → Prop, (∀ G' H', Gr P G H G' H' → Rep P b G' H' σ env' → Q d H') → tt σ H Q)
    (e2 : ∀ (P : Addr → Prop) (b : Bs) (σ : L2.St) (env : DEnv) (G H : Hp) (d : D) (env' : DEnv), Rep P b G H σ env → Fe env = some (d, env') →
      ∀ Q : VK, (∀ v G' H' N, Gr P G H G' H' → Rep (fun a => P a ∧ ¬ N a) b G' H' σ env' → Tree P G' H' N 1 v d → Q v H') → te σ H Q)
    (hts : ∀ j ∈ ts, j ∈ vs) {P : Addr → Prop} {b : Bs} {σ : L2.St} {env : DEnv} {G H : Hp} {out : List D} {env' : DEnv} (rr : Rep P b G H σ env) (h : mLc Fi B Ft Fe vs env = some (out, env')) (Q : VK)
    (q : ∀ p G' H' N, Gr P G H G' H' → Rep (fun a => P a ∧ ¬ N a) b G' H' σ env' → Tree P G' H' N 2 (.ref p) (.list out) → Q (.ref p) H') : tLc wi g tt te vs σ H Q := by
  unfold mLc at h
  cases w : Fi env with
  | none => rw [w] at h; cases h
  | some pr =>
    obtain ⟨ds, e1⟩ := pr
    simp only [w] at h
    split at h
    · rename_i hc
      rw [Bool.and_eq_true, decide_eq_true_eq] at hc
      obtain ⟨hlen, hok⟩ := hc
      cases w2 : lcGo B Ft Fe vs ds (wipeD e1 vs) with
      | none => simp only [w2] at h; cases h
      | some pr2 =>
        obtain ⟨ys, ef⟩ := pr2
        simp only [w2] at h
        cases h
        refine i2 P b σ env G H ds e1 rr w _ fun J G1 H1 gr1 r1 hy Dl hD => ?_
        have hPD : P Dl := r1.fresh Dl hD
        have hGD : G1 Dl = none := fresh_back r1.sub hD
        have start0 : Rep (fun a => P a ∧ ¬ a = Dl) b G1 (upd H1 Dl (.lst [])) (wipe σ vs) (wipeD e1 vs) := (r1.wipe vs).newH hD
        have gr0 : Gr P G1 H1 G1 (upd H1 Dl (.lst [])) := ⟨Ex.refl _, fun a o ha n => by
          rw [upd_ne (ne_of_none ha hD)]
          exact ha, fun _ _ n => n⟩
        refine ⟨fun i m H' => m = ds.length - i ∧ i ≤ ds.length ∧ ∃ e G' N accd zs, Gr P G1 H1 G' H' ∧ Rep (fun a => P a ∧ ¬ N a) b G' H' (wipe σ vs) e ∧ Tree P G' H' N 2 (.ref Dl) (.list accd) ∧ accd.length ≤ i ∧
          lcGo B Ft Fe vs (ds.drop i) e = some (zs, ef) ∧ accd ++ zs = out, ⟨_, rfl, Nat.zero_le _, _, G1, fun a => a = Dl, [], out, gr0, start0, Tree.nil2 hPD hGD upd_same, Nat.zero_le _, by rw [List.drop_zero]; exact w2, rfl⟩, ?_⟩
        rintro i m H' ⟨rfl, hi, e, G', N, accd, zs, gr, r', tr, hal, hf, hout⟩
        by_cases hlt : i < ds.length
        · have hdi : ds[i]? = some ds[i] := List.getElem?_eq_getElem hlt
          obtain ⟨go, yl⟩ := (hy i G' H' gr.g r'.sub).2 _ hdi
          refine .inr ⟨go, fun H2 => i + 1 ≤ ds.length ∧ ∃ e G' N accd zs, Gr P G1 H1 G' H2 ∧ Rep (fun a => P a ∧ ¬ N a) b G' H2 (wipe σ vs) e ∧ Tree P G' H2 N 2 (.ref Dl) (.list accd) ∧ accd.length ≤ i + 1 ∧
            lcGo B Ft Fe vs (ds.drop (i + 1)) e = some (zs, ef) ∧ accd ++ zs = out, fun H2 h2 => ⟨ds.length - (i + 1), by omega, rfl, h2⟩, fun x H2 y => ?_⟩
          obtain ⟨G2, pu, rx⟩ := yl x H2 y
          rw [List.drop_eq_getElem_cons hlt] at hf
          unfold lcGo at hf
          have r2 := r'.pu pu
          have wk : ∀ {Ga Ha Gb Hb : Hp}, Gr (fun a => P a ∧ ¬ N a) Ga Ha Gb Hb → Gr P Ga Ha Gb Hb := fun g => g.wk fun x h => h.1
          have gA := pu.gr r'.fresh
          have grA : Gr P G1 H1 G2 H2 := gr.trans (wk gA)
          have trA := tr.keep gA
          cases w3 : B ds[i] e with
          | none => simp only [w3] at hf; cases hf
          | some eb =>
            simp only [w3] at hf
            refine g2 _ b (wipe σ vs) e G2 H2 x _ eb r2 rx w3 _ fun σ2 r3 l3 o3 => ⟨wipe_eq l3 o3 hts, ?_⟩
            have ew : wipe σ2 vs = wipe σ vs := wipe_eq l3 o3 hts
            cases w4 : Ft eb with
            | none => simp only [w4] at hf; cases hf
            | some pr4 =>
              obtain ⟨k, et⟩ := pr4
              simp only [w4] at hf
              refine t2 _ b σ2 eb G2 H2 k et r3 w4 _ fun G3 H3 g3 r4 => ?_
              have trB := trA.keep g3
              cases k with
              | false =>
                simp only [if_neg (show ¬ (false = true) by decide)] at hf ⊢
                refine ⟨hlt, wipeD et vs, G3, N, accd, zs, grA.trans (wk g3), ?_, trB, Nat.le_succ_of_le hal, hf, hout⟩
                rw [← ew]
                exact r4.wipe vs
              | true =>
                simp only [if_pos (show true = true from rfl)] at hf ⊢
                cases w5 : Fe et with
                | none => simp only [w5] at hf; cases hf
                | some pr5 =>
                  obtain ⟨yd, ee⟩ := pr5
                  simp only [w5] at hf
                  cases w6 : lcGo B Ft Fe vs (ds.drop (i + 1)) (wipeD ee vs) with
                  | none => simp only [w6] at hf; cases hf
                  | some pr6 =>
                    obtain ⟨ys6, e6⟩ := pr6
                    simp only [w6] at hf
                    cases hf
                    refine e2 _ b σ2 et G3 H3 yd ee r4 w5 _ fun v G4 H4 N4 g4 r5 t4 => ?_
                    have trC := trB.keep g4
                    obtain ⟨a, acc, ea, hNa, hPa, hGa, hacc, hln, _⟩ := trC.list2 rfl
                    cases ea
                    have t4' : Tree P G4 H4 N4 1 v yd := t4.wk fun a z => z.1
                    have dis : ∀ c, N c → ¬ N4 c := fun c hc hc4 => (t4.n c hc4).1.2 hc
                    have tr5 := Tree.app2 trC t4' dis hacc
                    refine ⟨acc, hacc, line_lt (by omega), hlt, wipeD ee vs, G4, fun c => N c ∨ N4 c, accd ++ [yd], ys6, ?_, ?_, tr5, by rw [List.length_append]; simpa using hal, w6, by rw [List.append_assoc]; exact hout⟩
                    · have gg := (grA.trans (wk g3)).trans (wk g4)
                      exact ⟨gg.g, fun a o ha n => by
                        rw [upd_ne (show a ≠ Dl from fun z => n (by rw [z]; exact hPD))]
                        exact gg.h a o ha n, gg.n⟩
                    · rw [← ew]
                      have := (r5.wipe vs).updH (o := .lst (acc ++ [v])) (p := Dl) (fun z => z.1.2 hNa) hGa
                      exact this.wkP fun c z => ⟨z.1.1, fun n => n.elim z.1.2 z.2⟩
        · have e0 : i = ds.length := by omega
          subst e0
          rw [List.drop_length] at hf
          cases hf
          rw [List.append_nil] at hout
          subst hout
          exact .inl ⟨(hy _ G' H' gr.g r'.sub).1 (Nat.le_refl _), q Dl G' H' N (gr1.trans gr) (r1.back r' gr.g hok) tr⟩
    · cases h
def cN (F : Mo D) : TE := fun σ H Q => ∃ (P : Addr → Prop) (b : Bs) (env : DEnv) (G : Hp) (d : D) (env' : DEnv), Rep P b G H σ env ∧ F env = some (d, env') ∧ ∀ v G' H' N, Gr P G H G' H' → Rep (fun a => P a ∧ ¬ N a) b G' H' σ env' → Tree P G' H' N 1 v d → Q v H'
theorem DenN.pe {X : Cx} {e : Expr} {F : Mo D} (h : DenN X e 1 F) : PE X e (cN F) := by
  obtain ⟨t, h1, h2⟩ := h
  exact ⟨fun pins s σ H Q I ⟨P, b, env, G, d, env', r, hF, q⟩ => h1.run pins s σ H Q I (h2 P b σ env G H d env' r hF Q q)⟩
/-- a list of new lists -/
theorem denn_lc2 (own : List (Str × Nat)) {ts vs : List Nat} {Fi : Mo (List D)} {B : D → DEnv → Option DEnv} {Ft : Mo Bool} {Fe : Mo D} (hc : X.calm = true) (hN : X.N.Nodup) (hi : DenI X tg iter Fi) (ok : BlkOk X.N X.env.scope scope own)
    (hg : ∀ (s : Shared) (H : Hp) (C : Addr) (cl : List (Str × Addr)) (fp : List Addr), DenG (X.blk s H scope (compEnvC scope cl C X.env) fp) tg ts B)
    (ht : ∀ (s : Shared) (H : Hp) (C : Addr) (cl : List (Str × Addr)) (fp : List Addr), DenTs (X.blk s H scope (compEnvC scope cl C X.env) fp) ifs Ft)
    (he : ∀ (s : Shared) (H : Hp) (C : Addr) (cl : List (Str × Addr)) (fp : List Addr), DenN (X.blk s H scope (compEnvC scope cl C X.env) fp) elt 1 Fe)
    (hvs : own.map (·.2) = vs := by rfl) (hts : ∀ j ∈ ts, j ∈ vs := by decide) (hs : ∀ x, foldedSetIterable iter X.env x = pure x := by intro _; rfl) :
    DenN X (.ListComp elt [⟨tg, iter, ifs, 0⟩] scope pos) 2 (mMap (fun ds => some (.list ds)) (mLc Fi B Ft Fe vs)) := by
  obtain ⟨wi, i1, i2⟩ := hi
  subst hvs
  exact ⟨_, pe_lc hc hN i1 ok (fun s H C cl fp => (hg s H C cl fp).pe) (fun s H C cl fp => (ht s H C cl fp).pe) (fun s H C cl fp => (he s H C cl fp).pe) hs, fun P b σ env G H out env' rr h Q q => by
    obtain ⟨ds, hd, hz⟩ := mMap_some h
    cases hz
    exact lcN_run i2 (fun P b σ env G H v d env' r rv hB Q q => cG_run r rv hB Q q) (fun P b σ env G H d env' r hF Q q => cTs_run r hF Q q) (fun P b σ env G H d env' r hF Q q => ⟨P, b, env, G, d, env', r, hF, q⟩) hts rr hd Q fun p G' H' N g r t => q _ G' H' N g r t⟩
end
end Dn
namespace Dn
open PySem PySem.Spec PyProof.Rows L2
open Evl (Ex fresh_back)
/-- the built-ins' names are the built-ins' -/
structure Blt (mg : Str → Option Value) : Prop where
  len_ : mg "len" = none
  sum_ : mg "sum" = none
  all_ : mg "all" = none
  any_ : mg "any" = none
  tuple_ : mg "tuple" = none
  list_ : mg "list" = none
  sorted_ : mg "sorted" = none
  max_ : mg "max" = none
  min_ : mg "min" = none
  range_ : mg "range" = none
  zip_ : mg "zip" = none
  enumerate_ : mg "enumerate" = none
  reversed_ : mg "reversed" = none
  set_ : mg "set" = none
  isinstance_ : mg "isinstance" = none
  int_ : mg "int" = none
  bool_ : mg "bool" = none
  str_ : mg "str" = none
/-- a def as it stands behind the top -/
structure Df (K : PySem.W.Frag) (mg : Str → Option Value) (x : Str) (st : Stmt) (ps : List Str) : Prop where
  ex : ∃ (f : Addr) (fd : FuncData), mg x = some (.ref f) ∧ Fun K x x st f fd ∧ Binds K fd ps []
section
variable {P : Program} {w : World} {K : PySem.W.Frag} {mg : Str → Option Value} {base : Heap}
theorem Fd.of {x : Str} {st : Stmt} {N ps : List Str} {k n : Nat} {B : So} (d : Df K mg x st ps) (S : FnScope N ps (defScope st)) (hn : ps.length = n)
    (body : ∀ (f : Addr) (cdv : Value) (A : Around) (outer : List Env) (s : Shared) (H : Hp) (E : XK), Room k (A.deeper (envOfC x (defScope st) s.heap.objs.size f cdv)) → DenSs (cxOf CX0 P w K mg base N x (defScope st) f cdv A outer s H E).nox (defBody st) B) :
    Fd P w K mg base x (k + 1) n (fun ds => outF (B (envOf N ds))) := by
  obtain ⟨f, fd, h1, h2, h3⟩ := d.ex
  subst hn
  exact Fd.mk' h2 S h1 h3 (body f)
theorem FdIO.of {x : Str} {st : Stmt} {N ps : List Str} {k : Nat} {ms : Ms} {B : So} (d : Df K mg x st ps) (S : FnScope N ps (defScope st)) (hn : ps.length = ms.length)
    (body : ∀ (f : Addr) (cdv : Value) (A : Around) (outer : List Env) (s : Shared) (H : Hp) (E : XK), Room k (A.deeper (envOfC x (defScope st) s.heap.objs.size f cdv)) → DenSs (cxOf CX0 P w K mg base N x (defScope st) f cdv A outer s H E).nox (defBody st) B) :
    FdIO P w K mg base x (k + 1) ms (fun ds => outIO ms (B (envIO N ms ds))) := by
  obtain ⟨f, fd, h1, h2, h3⟩ := d.ex
  exact FdIO.mk' h2 S h1 h3 hn (body f)
end
section
variable {X : Cx} {x : Str} {pos : Pos}
theorem dv (i : Nat) (hN : X.N[i]? = some x := by rfl) (hv : Vis X.env.scope x := by first | exact Or.inl rfl | exact Or.inr (Or.inl rfl) | exact Or.inr (Or.inr rfl)) (hd : (x == ("__debug__" : Str)) = false := by decide) (hcd : (x == ("__classdict__" : Str)) = false := by decide) :
    DenE X (.Name x pos) (mVar i) := den_var i hN hv hd hcd
theorem den_glob {u : Value} {i : Int} (hm : ∃ t, X.mg x = some (.int i t)) (hg : Gl X x) (hd : (x == ("__debug__" : Str)) = false := by decide) : DenE X (.Name x pos) (mRet (.int i)) := by
  obtain ⟨t, hm⟩ := hm
  exact den_const (v := .int i) (pe_glob hg hm ⟨t, rfl⟩ hd) fun _ => .int i
end
end Dn
namespace Dn
open PySem PySem.Spec PyProof.Rows L2
open Evl (Ex fresh_back)
/-- a list or a tuple: what is tracked, its iterator -/
def HoS (H : Hp) (a : Addr) (kd : Bool) (xs : List V) : Prop := if kd then H a = some (.lst xs) else TupS H a xs
theorem HoS.mono {G H : Hp} (e : Ex G H) {a : Addr} {kd : Bool} {xs : List V} (h : HoS G a kd xs) : HoS H a kd xs := by
  cases kd with
  | true => exact e _ _ h
  | false => exact TupS.mono e h
def itO (kd : Bool) (a : Addr) : Obj := { cls := .type (if kd then "list_iterator" else "tuple_iterator"), data := .fields #[.ref a, .int 0 0] }
def ItAt (kd : Bool) (h : Heap) (it a : Addr) (i : Nat) : Prop := if kd then h.IsListIter it a i else h.IsTupleIter it a i
def SqAt (kd : Bool) (h : Heap) (a : Addr) (items : Array Value) : Prop := if kd then h.IsList a items else h.IsTuple a items
theorem ItAt.at {kd : Bool} {h h' : Heap} {it a : Addr} {i : Nat} (x : ItAt kd h it a i) (k : ∀ o, h.get? it = some o → h'.get? it = some o) : ItAt kd h' it a i := by
  cases kd with
  | true => exact Heap.IsListIter.at x k
  | false => exact Heap.IsTupleIter.at x k
theorem ItAt.live {kd : Bool} {h : Heap} {it a : Addr} {i : Nat} (x : ItAt kd h it a i) : ∃ o, h.get? it = some o ∧ ∀ v, o.data ≠ .cell v := by
  cases kd with
  | true => obtain ⟨o, e, _, d⟩ := x; exact ⟨o, e, fun v q => by rw [d] at q; cases q⟩
  | false => obtain ⟨o, e, _, d⟩ := x; exact ⟨o, e, fun v q => by rw [d] at q; cases q⟩
theorem draws_of {prog : Program} {w : World} {A : Around} (kd : Bool) (hh : A.handled = none) (it a : Addr) (hne : a ≠ it) (items : Array Value) :
    Draws prog w A it [it, a] items.size (fun i v => items[i]? = some v) fun i h => ItAt kd h it a i ∧ SqAt kd h a items := by
  cases kd with
  | true => exact Draws.list hh it a hne items
  | false => exact Draws.tuple hh it a hne items
theorem begins_of (kd : Bool) (a : Addr) (items : Array Value) : Begins (.ref a) (itO kd a) fun h => SqAt kd h a items := by
  cases kd with
  | true => exact begins_list a items
  | false => exact begins_tuple a items
theorem itO_at {kd : Bool} {h : Heap} {it a : Addr} (e : h.get? it = some (itO kd a)) : ItAt kd h it a 0 := by
  cases kd with
  | true => exact ⟨_, e, rfl, rfl⟩
  | false => exact ⟨_, e, rfl, rfl⟩
section
variable {X : Cx} {pins : List (Addr × Obj)} {σ : L2.St} {H : Hp} {s : Shared}
theorem src_at {kd : Bool} {a : Addr} {xs : List V} (I : Inv X pins σ H s) (h : HoS H a kd xs) : ∃ its : List Value, Vals xs its ∧ SqAt kd s.heap a its.toArray ∧ a < s.heap.objs.size := by
  cases kd with
  | true =>
    obtain ⟨its, r, p, _⟩ := I.list (.of (show H a = some (.lst xs) from h))
    exact ⟨its, r, p.isList, p.lt⟩
  | false =>
    obtain ⟨its, r, p, _⟩ := I.tuple (TupS.sq (show TupS H a xs from h) (Ex.refl H))
    obtain ⟨o, ho, _⟩ := id p
    exact ⟨its, r, p, Heap.lt_size ho⟩
end
/-- an iterator of new tuples, over things that stand -/
theorem turn_gen {P : Program} {w : World} {K : PySem.W.Frag} {tg : Expr} {I : Addr} {cells wr : List Addr} {n : Nat} {Xs : Nat → List V} {C : Nat → Heap → Prop} {SH : Hp → Prop}
    (hI : I ∈ cells) (hobj : ∀ i h, C i h → ∀ b ∈ cells, ∃ o, h.get? b = some o ∧ ∀ v, o.data ≠ .cell v)
    (hkeep : ∀ i h h', C i h → (∀ b ∈ cells, ∀ o, h.get? b = some o → h'.get? b = some o) → C i h') (hle : ∀ i h, C i h → i ≤ n) (hwr : ∀ b ∈ wr, b ∈ cells) (hsz : ∀ i, (Xs i).length ≤ 3)
    (hgo : ∀ (X : Cx), X.prog = P → X.w = w → X.K = K → X.calm = true → ∀ (i : Nat) (pins : List (Addr × Obj)) (σ : L2.St) (H : Hp) (s : Shared), Inv X pins σ H s → (∀ b ∈ cells, FpOk X pins H b) → C i s.heap → SH H →
      ∃ (fp : List Addr) (Y : Nat → Heap → Value → Heap → Prop) (St : Nat → Heap → Prop), GoesN P w X.A tg I fp wr n Y St ∧ St i s.heap ∧ (∀ i h, i ≤ n → St i h → C i h) ∧ ∀ v h, Y i s.heap v h → ∃ (T : Addr) (us : List Value), v = .ref T ∧ s.heap.objs.size ≤ T ∧ h.IsTuple T us.toArray ∧ Vals (Xs i) us)
    (hself : ∀ (A : Around) (i : Nat) (s : Shared) (Q E : Value → Shared → Prop), C i s.heap → Q (.ref I) s → wpAny (model P w) A (pyIter (.ref I)) Q E s) :
    Turn P w K tg ⟨fun i H => SH H ∧ i < n, fun i H v H' => ∃ T, v = .ref T ∧ H T = none ∧ H' = upd H T (.tup (Xs i)), fun i H => SH H ∧ n ≤ i⟩ cells I C where
  mem := hI
  obj := hobj
  keep := hkeep
  item := by
    intro X hP hw hK hc i pins s σ H E I0 hf st hg
    obtain ⟨fp, Y, St, gn, st0, back, hy⟩ := hgo X hP hw hK hc i pins σ H s I0 hf st hg.1
    subst hP hw hK
    refine wpAny_mono (gn.goes i s (fun v s2 => ∃ x H', Inv X pins σ H' s2 ∧ RelV x v ∧ (∃ T, x = V.ref T ∧ H T = none ∧ H' = upd H T (.tup (Xs i))) ∧ C (i + 1) s2.heap ∧ ∀ b ∈ cells, H' b = none) E hg.2 st0 fun v h' tk hY st1 hk _ => ?_) (fun r s1 ⟨v, e, h⟩ => ⟨v, e, wpAny_mono h (fun _ _ q => q) fun _ _ z => z⟩) fun _ _ z => z
    obtain ⟨T, us, rfl, hT, ht, hv⟩ := hy v h' hY
    have new : ObjOk X.prog X.w (upd H T (.tup (Xs i))) h' T (.tup (Xs i)) := ⟨Nat.le_trans (hsz i) (by decide), us, hv, ht⟩
    have I1 : Inv X pins σ (upd H T (.tup (Xs i))) { s with heap := h', toks := tk } := I0.turnedNew (ch := cells) (fun b o hb e => hk b o (fun z => hb (hwr b z)) e) hf hT new
    refine ⟨.ref T, _, I1, rfl, ⟨T, rfl, I0.hok.fresh hT, rfl⟩, back _ _ hg.2 st1, fun b hb => ?_⟩
    obtain ⟨o, ho, _⟩ := hobj i s.heap st b hb
    rw [upd_ne (Nat.ne_of_lt (Nat.lt_of_lt_of_le (Heap.lt_size ho) hT))]
    exact (hf b hb).1
  done := by
    intro X hP hw hK hc i pins s σ H E I0 hf st hg
    obtain ⟨fp, Y, St, gn, st0, back, hy⟩ := hgo X hP hw hK hc i pins σ H s I0 hf st hg.1
    subst hP hw hK
    have e : i = n := Nat.le_antisymm (hle i _ st) hg.2
    subst e
    exact gn.stops s _ E st0 fun h' tk hk _ => I0.turnedL (t' := tk) (ch := cells) (fun b o hb e => hk b o (fun z => hb (hwr b z)) e) hf
  self := hself
def pairsD : List D → List D → List D
  | x :: xs, y :: ys => .tuple [x, y] :: pairsD xs ys
  | _, _ => []
theorem pairsD_len : ∀ (xs ys : List D), (pairsD xs ys).length = min xs.length ys.length
  | [], ys => by simp [pairsD]
  | x :: xs, [] => by simp [pairsD]
  | x :: xs, y :: ys => by
    simp only [pairsD, List.length_cons, pairsD_len xs ys]
    omega
theorem pairsD_get : ∀ (xs ys : List D) (i : Nat) (d : D), (pairsD xs ys)[i]? = some d → ∃ x y, xs[i]? = some x ∧ ys[i]? = some y ∧ d = .tuple [x, y]
  | x :: xs, y :: ys, 0, d, h => by cases h; exact ⟨x, y, rfl, rfl, rfl⟩
  | x :: xs, y :: ys, i + 1, d, h => pairsD_get xs ys i d h
  | [], ys, i, d, h => by simp [pairsD] at h
  | x :: xs, [], i, d, h => by simp [pairsD] at h
/-- the items of a list or a tuple, by what it is -/
theorem Rp.seq {G : Hp} {v : V} {d : D} {ds : List D} (r : Rp G v d) (h : gSeq d = some ds) : ∃ (kd : Bool) (a : Addr) (vs : List V), v = .ref a ∧ HoS G a kd vs ∧ RpAll G vs ds := by
  cases r with
  | lst ha ra => cases h; exact ⟨true, _, _, rfl, ha, ra⟩
  | tup ha ra => cases h; exact ⟨false, _, _, rfl, ha, ra⟩
  | _ => cases h
def zipJ2 (a b : Addr) (kd ke : Bool) (xs ys : List V) : It :=
  ⟨fun i H => (HoS H a kd xs ∧ HoS H b ke ys) ∧ i < min xs.length ys.length, fun i H v H' => ∃ T, v = .ref T ∧ H T = none ∧ H' = upd H T (.tup [xs.getD i .non, ys.getD i .non]), fun i H => (HoS H a kd xs ∧ HoS H b ke ys) ∧ min xs.length ys.length ≤ i⟩
theorem vals_getD {xs : List V} {its : List Value} (r : Vals xs its) {i : Nat} {u : Value} (h : its.toArray[i]? = some u) : RelV (xs.getD i .non) u := by
  have h' : its[i]? = some u := by simpa using h
  have hl : i < xs.length := by
    rw [r.length]
    exact (List.getElem?_eq_some_iff.mp h').1
  obtain ⟨u', hu, ru⟩ := r.get (List.getElem?_eq_getElem hl)
  rw [h'] at hu
  cases hu
  rw [List.getD_eq_getElem?_getD, List.getElem?_eq_getElem hl]
  exact ru
theorem turn_zip2 {P : Program} {w : World} {K : PySem.W.Frag} {elts : List Expr} {kk : Nat} {tpos : Pos} {a b N : Addr} {kd ke : Bool} {xs ys : List V} (ha : a < N) (hb : b < N) :
    Turn P w K (.Tuple elts kk tpos) (zipJ2 a b kd ke xs ys) [N + 4, N + 2, N + 3, N, N + 1] (N + 4)
      (fun i h => i ≤ min xs.length ys.length ∧ IsZip h (N + 4) (N + 2) (N + 3) .none ∧ IsTupOf2 h (N + 2) (.ref N) (.ref (N + 1)) ∧ (∃ x y, IsTupOf2 h (N + 3) x y) ∧ ItAt kd h N a i ∧ ItAt ke h (N + 1) b i) := by
  refine turn_gen (wr := [N + 4, N + 3, N, N + 1]) (by simp) (fun i h st c hc => ?_) (fun i h h' st k => ?_) (fun i h st => st.1) (fun c hc => ?_) (fun i => by simp) (fun X hP hw hK hc i pins σ H s I hf st sh => ?_) (fun A i s Q E st h => wpAny_pyIter_zip st.2.1 h)
  · obtain ⟨_, hz, hTI, ⟨x, y, hTO⟩, h1, h2⟩ := st
    have e' : c = N + 4 ∨ c = N + 2 ∨ c = N + 3 ∨ c = N ∨ c = N + 1 := by simpa using hc
    rcases e' with q | q | q | q | q
    · rw [q]; exact ⟨_, hz, fun v q => nomatch q⟩
    · rw [q]; exact ⟨_, hTI, fun v q => nomatch q⟩
    · rw [q]; exact ⟨_, hTO, fun v q => nomatch q⟩
    · rw [q]; exact h1.live
    · rw [q]; exact h2.live
  · obtain ⟨hi, hz, hTI, ⟨x, y, hTO⟩, h1, h2⟩ := st
    exact ⟨hi, k _ (by simp) _ hz, k _ (by simp) _ hTI, ⟨x, y, k _ (by simp) _ hTO⟩, h1.at fun o q => k _ (by simp) o q, h2.at fun o q => k _ (by simp) o q⟩
  · simp at hc ⊢
    rcases hc with q | q | q | q <;> simp [q]
  · subst hP hw hK
    obtain ⟨its, r1, p1, l1⟩ := src_at I sh.1
    obtain ⟨its2, r2, p2, l2⟩ := src_at I sh.2
    obtain ⟨hi, hz, hTI, hTO, h1, h2⟩ := st
    have sep : ZipSep2 (N + 4) (N + 2) (N + 3) N (N + 1) (N :: [a]) ((N + 1) :: [b]) := zip_sep2 (fun c hc => by simp at hc; rw [hc]; exact ha) (fun c hc => by simp at hc; rw [hc]; exact hb)
    have G := GoesN.zip2 (prog := X.prog) (w := X.w) (A := X.A) (elts := elts) (x1 := kk) (pos := tpos) sep (draws_of (A := X.A.in1) kd (show X.A.in1.handled = none from I.ok.hd hc) N a (Nat.ne_of_lt ha) its.toArray) (draws_of (A := X.A.in1) ke (show X.A.in1.handled = none from I.ok.hd hc) (N + 1) b (Nat.ne_of_lt (Nat.lt_succ_of_lt hb)) its2.toArray)
    have en : min its.toArray.size its2.toArray.size = min xs.length ys.length := by simp [r1.length, r2.length]
    rw [en] at G
    refine ⟨_, _, _, G, ⟨hz, hTI, hTO, ⟨h1, p1⟩, h2, p2⟩, fun j h hj st => ⟨hj, st.1, st.2.1, st.2.2.1, st.2.2.2.1.1, st.2.2.2.2.1⟩, fun v h hY => ?_⟩
    obtain ⟨T, x, y, rfl, hT, hx, hy, ht⟩ := hY
    exact ⟨T, [x, y], rfl, hT, ht, .cons (vals_getD r1 hx) (.cons (vals_getD r2 hy) .nil)⟩
theorem getD_rp {G : Hp} {vs : List V} {ds : List D} {i : Nat} {d : D} (r : RpAll G vs ds) (h : ds[i]? = some d) : Rp G (vs.getD i .non) d := by
  obtain ⟨v, hv, rv⟩ := r.get h
  rw [List.getD_eq_getElem?_getD, hv]
  exact rv
def gZip2 : List D → Option (List D)
  | [x, y] => (gSeq x).bind fun xs => (gSeq y).map fun ys => pairsD xs ys
  | _ => none
section
variable {X : Cx} {pos : Pos}
theorem deni_zip2 {e e2 : Expr} {p tpos : Pos} {elts : List Expr} {kk : Nat} {F : Mo (List D)} (hg : Gl X "zip") (hm : X.mg "zip" = none) (ha : DenA X [e, e2] F)
    (hs : starEach [e, e2] X.env = (false, eval e X.env) :: starEach [e2] X.env := by rfl) (hpl : (backTo pos (starEach [e2] X.env)).any (·.1) = false := by rfl) :
    DenI X (.Tuple elts kk tpos) (.Call (.Name "zip" p) [e, e2] [] pos) (mMap gZip2 F) := by
  obtain ⟨t, h1, h2⟩ := ha
  refine ⟨fun σ H R => t σ H fun vs H1 => ∃ a b kd ke xs ys, vs = [.ref a, .ref b] ∧ HoS H1 a kd xs ∧ HoS H1 b ke ys ∧ R (zipJ2 a b kd ke xs ys) H1, ⟨fun pins s σ H R I h => ?_⟩, fun P b σ env G H ds env' rr h R q => ?_⟩
  · refine Call_ (ld_blt I hg hm PyProof.Rows.boot_zip (PyProof.Rows.callWith_type1 (thn (h1.run pos pins s σ H _ I h) fun us s1 ⟨vs, H1, I1, r1, q1⟩ => ?_) hs hpl))
    obtain ⟨a, b, kd, ke, xs, ys, ex, hx, hy, q1⟩ := q1
    subst ex
    cases r1 with
    | cons r rr =>
      cases rr with
      | cons r' rr =>
        cases rr
        cases r
        cases r'
        obtain ⟨its, rv, p1, l1⟩ := src_at I1 hx
        obtain ⟨its2, rv2, p2, l2⟩ := src_at I1 hy
        refine zip_begins2 (begins_of kd a its.toArray) (begins_of ke b its2.toArray) p1 p2 fun h' hz hTI hTO o1 o2 hsz hk => wpAny_pyIter_zip hz ?_
        have I2 : Inv X pins σ H1 { s1 with heap := h' } := I1.kept (t' := s1.toks) hk
        have fresh5 : ∀ c, c ∈ [s1.heap.objs.size + 4, s1.heap.objs.size + 2, s1.heap.objs.size + 3, s1.heap.objs.size, s1.heap.objs.size + 1] → FpOk X pins H1 c := fun c hcm => by
          have e' : c = s1.heap.objs.size + 4 ∨ c = s1.heap.objs.size + 2 ∨ c = s1.heap.objs.size + 3 ∨ c = s1.heap.objs.size ∨ c = s1.heap.objs.size + 1 := by simpa using hcm
          have hle : s1.heap.objs.size ≤ c := by
            rcases e' with z | z | z | z | z
            · rw [z]; exact Nat.le_add_right _ _
            · rw [z]; exact Nat.le_add_right _ _
            · rw [z]; exact Nat.le_add_right _ _
            · rw [z]; exact Nat.le_refl _
            · rw [z]; exact Nat.le_add_right _ _
          exact I1.fpOk hle (I1.hok.fresh hle)
        exact ⟨_, _, _, _, H1, rfl, I2, turn_zip2 l1 l2, ⟨Nat.zero_le _, hz, hTI, ⟨_, _, hTO⟩, itO_at o1, itO_at o2⟩, fresh5, q1⟩
  · obtain ⟨z, hk, hz⟩ := mMap_some h
    refine h2 P b σ env G H z env' rr hk _ fun v G' H' g r pr => ?_
    unfold gZip2 at hz
    split at hz
    · rename_i dx dy
      cases w1 : gSeq dx with
      | none => rw [w1] at hz; cases hz
      | some xs =>
        cases w2 : gSeq dy with
        | none => rw [w1, w2] at hz; cases hz
        | some ys =>
          rw [w1, w2] at hz
          cases hz
          obtain ⟨v1, v2, rfl, p1, p2⟩ := pr.inv2
          obtain ⟨kd, a, vs, rfl, hx, rx⟩ := p1.seq w1
          obtain ⟨ke, c, ws, rfl, hy, ry⟩ := p2.seq w2
          refine ⟨a, c, kd, ke, vs, ws, rfl, hx.mono r.sub, hy.mono r.sub, q _ G' H' g r fun i G1 H1 e1 e2 => ⟨fun hi => ?_, fun d hd => ?_⟩⟩
          · rw [pairsD_len] at hi
            exact ⟨⟨(hx.mono e1).mono e2, (hy.mono e1).mono e2⟩, by rw [rx.length, ry.length]; exact hi⟩
          · obtain ⟨x, y, hx', hy', rfl⟩ := pairsD_get xs ys i d hd
            have l1 : i < xs.length := (List.getElem?_eq_some_iff.mp hx').1
            have l2 : i < ys.length := (List.getElem?_eq_some_iff.mp hy').1
            refine ⟨⟨⟨(hx.mono e1).mono e2, (hy.mono e1).mono e2⟩, by rw [rx.length, ry.length]; omega⟩, fun x' H' yl => ?_⟩
            obtain ⟨T, rfl, hT, rfl⟩ := yl
            have pu := Pu.new (o := .tup [vs.getD i .non, ws.getD i .non]) e2 hT
            exact ⟨_, pu, .inr ⟨rfl, _, _, _, rfl, rfl, upd_same, .cons (((getD_rp rx hx').mono e1).mono pu.g) (.cons (((getD_rp ry hy').mono e1).mono pu.g) .nil)⟩⟩
    · cases hz
end
end Dn
namespace PySem
open Sem (wp)
set_option maxHeartbeats 2000000 in
theorem meets_enumerate_one {v : Value} {o : Obj} {H : Heap → Prop} (B : Begins v o H) :
    Meets (Builtin.«enumerate.__new__» ⟨[.type "enumerate", v], []⟩) (fun _ R s => H s.heap ∧
      R (.ok (.ret (.ref (s.heap.push o).objs.size))) { s with heap := (s.heap.push o).push { cls := .type "enumerate", data := .fields #[.none, .bool false, .ref s.heap.objs.size, rawInt 0, .none, .none] } }) :=
  .of_wp fun prog w A R s h => by
    obtain ⟨hp, g, d, tk, os⟩ := s; obtain ⟨h1, h⟩ := h
    have hsub := sub_enumerate
    have q1 : ∀ {A' : Around} {E : Value → Shared → Prop} {Q : Value → Shared → Prop}, Q (.ref hp.objs.size) ⟨hp.push o, g, d, tk, os⟩ → wpAny (model prog w) A' (pyIter v) Q E ⟨hp, g, d, tk, os⟩ :=
      fun q => B.iter prog w _ _ ⟨hp, g, d, tk, os⟩ _ h1 q
    wp_walk using q1
    refine wpAny_stack_any fun st => wpAny_pure ?_
    split
    · rename_i c _ _ _ _ _
      cases (c == Value.type "enumerate")
      · wp_walk using q1
        exact ⟨_, rfl, h⟩
      · wp_walk using q1
        exact ⟨_, rfl, h⟩
    · wp_walk using q1
      exact ⟨_, rfl, h⟩
theorem enum_begins_one {prog : Program} {w : World} {A : Around} {E : Value → Shared → Prop} {s : Shared} {v : Value} {o : Obj} {H : Heap → Prop} {Q : Value → Shared → Prop} (B : Begins v o H) (h1 : H s.heap)
    (h : ∀ h', IsEnum h' (s.heap.objs.size + 1) s.heap.objs.size 0 .none → h'.get? s.heap.objs.size = some o → h'.objs.size = s.heap.objs.size + 2 →
      (∀ b o, s.heap.get? b = some o → h'.get? b = some o) → Q (.ref (s.heap.objs.size + 1)) { s with heap := h' }) :
    wpAny (model prog w) A (call (.type "enumerate") [v]) Q E s := by
  refine callType_new F.called_enumerate (by decide) (F.typeCall_enumerate_1 _) (F.newCall_enumerate_1 _) (fun obj => F.args_object_init_2 obj _) F.entry_enumerate_new
    (meets_enumerate_one B) ⟨h1, ?_⟩
  have hz : (s.heap.push o).objs.size = s.heap.objs.size + 1 := Heap.size_push ..
  show _ ∧ _
  rw [hz]
  have he : IsEnum ((s.heap.push o).push { cls := .type "enumerate", data := .fields #[.none, .bool false, .ref s.heap.objs.size, rawInt 0, .none, .none] }) (s.heap.objs.size + 1) s.heap.objs.size 0 .none := by
    have := Heap.get?_push_size (s.heap.push o) (o := { cls := .type "enumerate", data := .fields #[.none, .bool false, .ref s.heap.objs.size, rawInt 0, .none, .none] }) rfl
    rw [hz] at this; exact this
  refine ⟨⟨_, he, rfl⟩, h _ he (Heap.get?_push_of_some _ (Heap.get?_push_size _ B.free)) (by rw [Heap.size_push, hz]) fun b o x => Heap.get?_push_of_some _ (Heap.get?_push_of_some _ x)⟩
end PySem
namespace Dn
open PySem PySem.Spec PyProof.Rows L2
open Evl (Ex fresh_back)
def enumD (k : Nat) : List D → List D
  | [] => []
  | x :: xs => .tuple [.int k, x] :: enumD (k + 1) xs
theorem enumD_len : ∀ (k : Nat) (xs : List D), (enumD k xs).length = xs.length
  | _, [] => rfl
  | k, x :: xs => by simp [enumD, enumD_len (k + 1) xs]
theorem enumD_get : ∀ (k : Nat) (xs : List D) (i : Nat) (d : D), (enumD k xs)[i]? = some d → ∃ x, xs[i]? = some x ∧ d = .tuple [.int ((k + i : Nat) : Int), x]
  | k, x :: xs, 0, d, h => by cases h; exact ⟨x, rfl, rfl⟩
  | k, x :: xs, i + 1, d, h => by
    obtain ⟨y, h1, h2⟩ := enumD_get (k + 1) xs i d h
    exact ⟨y, h1, by rw [h2, show k + 1 + i = k + (i + 1) by omega]⟩
  | k, [], i, d, h => by simp [enumD] at h
def enumJ (a : Addr) (kd : Bool) (xs : List V) : It :=
  ⟨fun i H => (HoS H a kd xs) ∧ i < xs.length, fun i H v H' => ∃ T, v = .ref T ∧ H T = none ∧ H' = upd H T (.tup [.int (i : Nat), xs.getD i .non]), fun i H => (HoS H a kd xs) ∧ xs.length ≤ i⟩
theorem turn_enumA {P : Program} {w : World} {K : PySem.W.Frag} {elts : List Expr} {kk : Nat} {tpos : Pos} {a N : Addr} {kd : Bool} {xs : List V} (ha : a < N) :
    Turn P w K (.Tuple elts kk tpos) (enumJ a kd xs) [N + 1, N] (N + 1) (fun i h => i ≤ xs.length ∧ (∃ old, IsEnum h (N + 1) N ((0 : Int) + (i : Int)) old) ∧ ItAt kd h N a i) := by
  refine turn_gen (wr := [N + 1, N]) (Xs := fun i => [.int (i : Nat), xs.getD i .non]) (by simp) (fun i h st c hc => ?_) (fun i h h' st k => ?_) (fun i h st => st.1) (fun c hc => hc) (fun i => by simp) (fun X hP hw hK hc i pins σ H s I hf st sh => ?_) (fun A i s Q E st h => ?_)
  · obtain ⟨_, ⟨old, he⟩, h1⟩ := st
    have e' : c = N + 1 ∨ c = N := by simpa using hc
    rcases e' with q | q
    · rw [q]; exact ⟨_, he, fun v q => nomatch q⟩
    · rw [q]; exact h1.live
  · obtain ⟨hi, ⟨old, he⟩, h1⟩ := st
    exact ⟨hi, ⟨old, k _ (by simp) _ he⟩, h1.at fun o q => k _ (by simp) o q⟩
  · subst hP hw hK
    obtain ⟨its, r1, p1, l1⟩ := src_at I sh
    obtain ⟨hi, he, h1⟩ := st
    have G := GoesN.enumFrom (prog := X.prog) (w := X.w) (A := X.A) (elts := elts) (x1 := kk) (pos := tpos) 0 (draws_of (A := X.A.in1) kd (show X.A.in1.handled = none from I.ok.hd hc) N a (Nat.ne_of_lt ha) its.toArray) (N + 1) (Nat.succ_ne_self N)
      (fun hm => by
        have hm : N + 1 = a := by simpa using hm
        exact absurd ha (by rw [← hm]; exact Nat.not_lt.mpr (Nat.le_succ N))) (by simp)
    have en : its.toArray.size = xs.length := by simp [r1.length]
    rw [en] at G
    refine ⟨_, _, _, G, ⟨he, h1, p1⟩, fun j h hj st => ⟨hj, st.1, st.2.1⟩, fun v h hY => ?_⟩
    obtain ⟨T, t, x, rfl, hT, hx, ht⟩ := hY
    exact ⟨T, [.int (0 + (i : Int)) t, x], rfl, hT, ht, .cons ⟨t, by rw [Int.zero_add]⟩ (.cons (vals_getD r1 hx) .nil)⟩
  · obtain ⟨_, ⟨old, he⟩, _⟩ := st
    exact wpAny_pyIter_enum he h
def gEnum : List D → Option (List D)
  | [x] => (gSeq x).map fun xs => enumD 0 xs
  | _ => none
section
variable {X : Cx} {pos : Pos}
theorem deni_enum {e : Expr} {p tpos : Pos} {elts : List Expr} {kk : Nat} {F : Mo (List D)} (hg : Gl X "enumerate") (hm : X.mg "enumerate" = none) (ha : DenA X [e] F) (hs : starEach [e] X.env = (false, eval e X.env) :: starEach [] X.env := by rfl) :
    DenI X (.Tuple elts kk tpos) (.Call (.Name "enumerate" p) [e] [] pos) (mMap gEnum F) := by
  obtain ⟨t, h1, h2⟩ := ha
  refine ⟨fun σ H R => t σ H fun vs H1 => ∃ a kd xs, vs = [.ref a] ∧ HoS H1 a kd xs ∧ R (enumJ a kd xs) H1, ⟨fun pins s σ H R I h => ?_⟩, fun P b σ env G H ds env' rr h R q => ?_⟩
  · refine Call_ (ld_blt I hg hm PyProof.Rows.boot_enumerate (PyProof.Rows.callWith_type1 (thn (h1.run pos pins s σ H _ I h) fun us s1 ⟨vs, H1, I1, r1, q1⟩ => ?_) hs rfl))
    obtain ⟨a, kd, xs, ex, hx, q1⟩ := q1
    subst ex
    cases r1 with
    | cons r rr =>
      cases rr
      cases r
      obtain ⟨its, rv, p1, l1⟩ := src_at I1 hx
      refine enum_begins_one (begins_of kd a its.toArray) p1 fun h' he o1 hsz hk => wpAny_pyIter_enum he ?_
      have I2 : Inv X pins σ H1 { s1 with heap := h' } := I1.kept (t' := s1.toks) hk
      have fresh2 : ∀ c, c ∈ [s1.heap.objs.size + 1, s1.heap.objs.size] → FpOk X pins H1 c := fun c hcm => by
        have e' : c = s1.heap.objs.size + 1 ∨ c = s1.heap.objs.size := by simpa using hcm
        have hle : s1.heap.objs.size ≤ c := by
          rcases e' with z | z
          · rw [z]; exact Nat.le_add_right _ _
          · rw [z]; exact Nat.le_refl _
        exact I1.fpOk hle (I1.hok.fresh hle)
      exact ⟨_, _, _, _, H1, rfl, I2, turn_enumA l1, ⟨Nat.zero_le _, ⟨_, by simpa using he⟩, itO_at o1⟩, fresh2, q1⟩
  · obtain ⟨z, hk, hz⟩ := mMap_some h
    refine h2 P b σ env G H z env' rr hk _ fun v G' H' g r pr => ?_
    unfold gEnum at hz
    split at hz
    · rename_i dx
      cases w1 : gSeq dx with
      | none => rw [w1] at hz; cases hz
      | some xs =>
        rw [w1] at hz
        cases hz
        obtain ⟨v1, rfl, p1⟩ := pr.inv1
        obtain ⟨kd, a, vs, rfl, hx, rx⟩ := p1.seq w1
        refine ⟨a, kd, vs, rfl, hx.mono r.sub, q _ G' H' g r fun i G1 H1 e1 e2 => ⟨fun hi => ?_, fun d hd => ?_⟩⟩
        · rw [enumD_len] at hi
          exact ⟨(hx.mono e1).mono e2, by rw [rx.length]; exact hi⟩
        · obtain ⟨x, hx', rfl⟩ := enumD_get 0 xs i d hd
          have l1 : i < xs.length := (List.getElem?_eq_some_iff.mp hx').1
          refine ⟨⟨(hx.mono e1).mono e2, by rw [rx.length]; exact l1⟩, fun x' H' yl => ?_⟩
          obtain ⟨T, rfl, hT, rfl⟩ := yl
          have pu := Pu.new (o := .tup [.int (i : Nat), vs.getD i .non]) e2 hT
          refine ⟨_, pu, .inr ⟨rfl, _, _, _, rfl, rfl, upd_same, .cons ?_ (.cons (((getD_rp rx hx').mono e1).mono pu.g) .nil)⟩⟩
          rw [Nat.zero_add]
          exact .int _
    · cases hz
end
end Dn
namespace Dn
open PySem PySem.Spec PyProof.Rows L2
open Evl (Ex fresh_back)
/-- what is walked: a list or a tuple, where it stands, what is in it -/
structure Src where
  kd : Bool
  a : Nat
  its : Array Value
theorem SqAt.keep {kd : Bool} {h h' : Heap} {a : Addr} {its : Array Value} (x : SqAt kd h a its) (k : ∀ b o, h.get? b = some o → h'.get? b = some o) : SqAt kd h' a its := by
  cases kd with
  | true => exact Heap.IsList.at x fun o e => k a o e
  | false => exact Heap.IsTuple.at x fun o e => k a o e
def itRefs (n : Nat) : List Src → List Value
  | [] => []
  | _ :: r => .ref n :: itRefs (n + 1) r
section
variable {prog : Program} {w : World} {A : Around} {E : Value → Shared → Prop} {s : Shared}
end
end Dn
namespace Dn
open PySem PySem.Spec PyProof.Rows L2
open Evl (Ex fresh_back)
/-- the i-th of each -/
def colAt (r : List Src) (i : Nat) : List Value := r.map fun S => S.its.getD i .none
/-- the iterators stand at i -/
def ItsAt (h : Heap) (n : Nat) (r : List Src) (i : Nat) : Prop := ∀ (j : Nat) (S : Src), r[j]? = some S → ItAt S.kd h (n + j) S.a i ∧ SqAt S.kd h S.a S.its
theorem SqAt.at {kd : Bool} {h h' : Heap} {a : Addr} {its : Array Value} (x : SqAt kd h a its) (k : ∀ o, h.get? a = some o → h'.get? a = some o) : SqAt kd h' a its := by
  cases kd with
  | true => exact Heap.IsList.at x fun o e => k o e
  | false => exact Heap.IsTuple.at x fun o e => k o e
theorem SqAt.lt {kd : Bool} {h : Heap} {a : Addr} {its : Array Value} (x : SqAt kd h a its) : a < h.objs.size := by
  cases kd with
  | true => obtain ⟨o, e, _⟩ := id x; exact Heap.lt_size e
  | false => obtain ⟨o, e, _⟩ := id x; exact Heap.lt_size e
theorem ItsAt.at {h h' : Heap} {n : Nat} {r : List Src} {i : Nat} (x : ItsAt h n r i) (lo : ∀ S ∈ r, S.a < n) (k : ∀ c o, (c < n ∨ (n ≤ c ∧ c < n + r.length)) → h.get? c = some o → h'.get? c = some o) : ItsAt h' n r i := fun j S e => by
  obtain ⟨h1, h2⟩ := x j S e
  have hj : j < r.length := (List.getElem?_eq_some_iff.mp e).1
  exact ⟨h1.at fun o q => k _ o (.inr ⟨by omega, by omega⟩) q, h2.at fun o q => k _ o (.inl (lo S (List.mem_of_getElem? e))) q⟩
section
variable {prog : Program} {w : World} {A : Around} {E : Value → Shared → Prop} {s : Shared}
end
end Dn
namespace Dn
open PySem PySem.Spec PyProof.Rows L2
open Evl (Ex fresh_back)
section
variable {prog : Program} {w : World} {A : Around} {E : Value → Shared → Prop} {s : Shared}
def IsTupA (h : Heap) (a : Addr) (vs : Array Value) : Prop := h.get? a = some { cls := .type "tuple", data := .seq vs }
end
end Dn
namespace Dn
open PySem PySem.Spec PyProof.Rows L2
open Evl (Ex fresh_back)
section
variable {prog : Program} {w : World} {A : Around} {E : Value → Shared → Prop} {s : Shared}
/-- a zip at work: its cells from N on; i items given out -/
structure ZAt (h : Heap) (N : Nat) (r : List Src) (i : Nat) : Prop where
  z : (i = 0 ∧ IsZip h (N + r.length + 2) (N + r.length) (N + r.length + 1) .none) ∨ ∃ (T : Nat) (f : Bool) (oT : Obj), IsZipHeld h (N + r.length + 2) (N + r.length) (N + r.length + 1) T f ∧ h.get? T = some oT ∧ N + r.length + 2 < T
  ti : IsTupA h (N + r.length) (itRefs N r).toArray
  to : ∃ vs, IsTupA h (N + r.length + 1) vs ∧ vs.size = r.length
  its : ItsAt h N r i
theorem ZAt.at {h h' : Heap} {N : Nat} {r : List Src} {i : Nat} (x : ZAt h N r i) (lo : ∀ S ∈ r, S.a < N) (k : ∀ (c : Nat) o, c < N + r.length + 3 → h.get? c = some o → h'.get? c = some o) (kT : ∀ (T : Nat) oT, N + r.length + 2 < T → h.get? T = some oT → ∃ o, h'.get? T = some o) : ZAt h' N r i where
  z := by
    rcases x.z with ⟨h0, hz⟩ | ⟨T, f, oT, hz, hT, hN⟩
    · exact .inl ⟨h0, k _ _ (by omega) hz⟩
    · obtain ⟨o, ho⟩ := kT T oT hN hT
      exact .inr ⟨T, f, o, k _ _ (by omega) hz, ho, hN⟩
  ti := k _ _ (by omega) x.ti
  to := let ⟨vs, h1, h2⟩ := x.to; ⟨vs, k _ _ (by omega) h1, h2⟩
  its := x.its.at lo fun c o hc e => k c o (by omega) e
end
end Dn
namespace Dn
open PySem PySem.Spec PyProof.Rows L2
open Evl (Ex fresh_back)
section
variable {prog : Program} {w : World} {A : Around} {s : Shared} {R : Result → Shared → Prop}
end
end Dn
namespace Dn
open PySem PySem.Spec PyProof.Rows L2
open Evl (Ex fresh_back)
section
variable {M : Model} {A : Around} {E : Value → Shared → Prop} {s : Shared} {env : Env} {pos p : Pos} {e : Expr}
end
section
variable {prog : Program} {w : World} {A : Around} {E : Value → Shared → Prop} {s : Shared}
/-- the tuples given so far -/
structure ZG (r : List Src) (lo : Addr) (h : Heap) (as : List Addr) : Prop where
  rise : as.Pairwise (· < ·)
  above : ∀ a ∈ as, lo < a
  tup : ∀ (j : Nat) (a : Addr), as[j]? = some a → IsTupA h a (colAt r j).toArray
theorem ZG.at {r : List Src} {lo : Addr} {h h' : Heap} {as : List Addr} (g : ZG r lo h as) (k : ∀ (b : Nat) o, lo < b → h.get? b = some o → h'.get? b = some o) : ZG r lo h' as :=
  ⟨g.rise, g.above, fun j a e => k _ _ (g.above a (List.mem_of_getElem? e)) (g.tup j a e)⟩
theorem ZG.there {r : List Src} {lo : Addr} {h : Heap} {as : List Addr} (g : ZG r lo h as) {a : Addr} (ha : a ∈ as) : a < h.objs.size := by
  obtain ⟨j, hj⟩ := List.mem_iff_getElem?.mp ha
  exact Heap.lt_size (g.tup j a hj)
end
end Dn
namespace Dn
open PySem PySem.Spec PyProof.Rows L2
open Evl (Ex fresh_back)
section
variable {X : Cx} {e : Expr} {te : TE} {p p2 sp_ cpos pos : Pos}
/-- kind, place, items of each -/
abbrev Seqs := List (Bool × Addr × List V)
end
end Dn
namespace Dn
open PySem PySem.Spec PyProof.Rows L2
open Evl (Ex fresh_back)
open CpRep (StopE)
end Dn
set_option maxHeartbeats 1000000
namespace Dn
open PySem PySem.Spec PyProof.Rows L2
open Evl (Ex fresh_back)
open CpRep (StopE)
section
variable {prog : Program} {w : World} {A : Around} {E : Value → Shared → Prop} {s : Shared}
end
end Dn
namespace Dn
open PySem PySem.Spec PyProof.Rows L2
open Evl (Ex fresh_back)
open CpRep (StopE)
end Dn
set_option maxHeartbeats 1000000
namespace Dn
open PySem PySem.Spec PyProof.Rows L2
open Evl (Ex fresh_back)
section
variable {prog : Program} {w : World} {A : Around} {E : Value → Shared → Prop} {s : Shared}
end
end Dn
set_option maxHeartbeats 1000000
namespace Dn
open PySem PySem.Spec PyProof.Rows L2
open Evl (Ex fresh_back)
section
variable {prog : Program} {w : World} {A : Around} {E : Value → Shared → Prop} {s : Shared}
end
section
variable {X : Cx} {e : Expr} {te : TE} {p p2 sp_ cpos pos : Pos}
end
end Dn
set_option maxHeartbeats 1000000
namespace Dn
open PySem PySem.Spec PyProof.Rows L2
open Evl (Ex fresh_back)
section
variable {X : Cx} {e : Expr} {p p2 sp_ cpos pos : Pos}
def seqsOf : List D → Option (List (List D))
  | [] => some []
  | d :: ds => match gSeq d, seqsOf ds with
    | some r, some rs => some (r :: rs)
    | _, _ => none
def colD (rs : List (List D)) (m : Nat) : List D := (List.range m).map fun j => .tuple (rs.map fun r => r.getD j .none)
def gZipS (x : D) : Option D :=
  match gSeq x with
  | none => none
  | some ds => match seqsOf ds with
    | some (r :: rs) => if 1 ≤ r.length ∧ rs.length < 1000 ∧ (rs.all fun q => q.length == r.length) = true then some (.list (colD (r :: rs) r.length)) else none
    | _ => none
end
end Dn
set_option maxHeartbeats 1000000
namespace Dn
open PySem PySem.Spec PyProof.Rows L2
open Evl (Ex fresh_back)
section
variable {X : Cx} {e : Expr} {p p2 sp_ cpos pos : Pos}
def mStar (m : Mo D) (n : Mo (List D)) : Mo (List D) := mBind (mMap gSeq m) fun x => mBind n fun xs => mRet (x ++ xs)
def tyD : D → Option String
  | .none => some "NoneType"
  | .bool _ => some "bool"
  | .int _ => some "int"
  | .str _ => some "str"
  | .list _ => some "list"
  | .tuple _ => some "tuple"
  | _ => none
theorem Rp.tyX {K : PySem.W.Frag} {G H : Hp} {v : V} {d : D} {T : String} (s : Ex G H) (r : Rp G v d) (h : tyD d = some T) : TyX K H v (.type T) := by
  cases r with
  | non => cases h; exact .base .non
  | bl b => cases h; exact .base (.bl b)
  | int i => cases h; exact .base (.int i)
  | str x => cases h; exact .base (.str x)
  | lst ha ra => cases h; exact .base (.lst (s _ _ ha))
  | tup ha ra => cases h; obtain ⟨o, _, ha⟩ := ha; exact .fTuple (s _ _ ha)
  | dK ha hl ra => cases h
  | dT ha hl ra => cases h
  | dP ha hl ra => cases h
  | scr ha ra => cases h
  | rng ha => cases h
  | dN ha hl ra => cases h
  | dQ ha hl ra => cases h
theorem Rp.tyB {K : PySem.W.Frag} {G H : Hp} {v : V} {d : D} {T : String} (s : Ex G H) (r : Rp G v d) (h : tyD d = some T) : TyB K H v T := by
  cases r with
  | non => cases h; exact .non
  | bl b => cases h; exact .bl b
  | int i => cases h; exact .int i
  | str x => cases h; exact .str x
  | lst ha ra => cases h; exact .lst (.of (s _ _ ha))
  | tup ha ra => cases h; exact .tup (ha.sq s)
  | dK ha hl ra => cases h
  | dT ha hl ra => cases h
  | dP ha hl ra => cases h
  | scr ha ra => cases h
  | rng ha => cases h
  | dN ha hl ra => cases h
  | dQ ha hl ra => cases h
/-- isinstance(x, T) -/
structure IsiD (T : String) (g : D → Option D) : Prop where
  r : ∀ d z, g d = some z → ∃ U b, tyD d = some U ∧ z = .bool b ∧ kitB U T = some b
  name : (T : Str) ≠ "__name__"
  dbg : ((T : Str) == ("__debug__" : Str)) = false
def gIsInt : D → Option D
  | .int _ => some (.bool true)
  | .bool _ => some (.bool true)
  | .none => some (.bool false)
  | .str _ => some (.bool false)
  | .list _ => some (.bool false)
  | .tuple _ => some (.bool false)
  | _ => none
def gIsBool : D → Option D
  | .bool _ => some (.bool true)
  | .int _ => some (.bool false)
  | .none => some (.bool false)
  | .str _ => some (.bool false)
  | .list _ => some (.bool false)
  | .tuple _ => some (.bool false)
  | _ => none
def gIsTuple : D → Option D
  | .tuple _ => some (.bool true)
  | .int _ => some (.bool false)
  | .bool _ => some (.bool false)
  | .none => some (.bool false)
  | .str _ => some (.bool false)
  | .list _ => some (.bool false)
  | _ => none
theorem isi_int : IsiD "int" gIsInt := ⟨fun d z h => by
  cases d <;> cases h <;> exact ⟨_, _, rfl, rfl, by decide +kernel⟩, by decide, by decide⟩
theorem isi_bool : IsiD "bool" gIsBool := ⟨fun d z h => by
  cases d <;> cases h <;> exact ⟨_, _, rfl, rfl, by decide +kernel⟩, by decide, by decide⟩
theorem isi_tuple : IsiD "tuple" gIsTuple := ⟨fun d z h => by
  cases d <;> cases h <;> exact ⟨_, _, rfl, rfl, by decide +kernel⟩, by decide, by decide⟩
theorem den_isi {T : String} {g : D → Option D} {F : Mo D} (k : IsiD T g) (h : DenE X e F) (hg : Gl X "isinstance") (hm : X.mg "isinstance" = none) (hgT : Gl X T) (hmT : X.mg T = none) (hvT : bootBuiltins T = some (.type T))
    (hs : starEach [e, .Name T p2] X.env = (false, eval e X.env) :: starEach [.Name T p2] X.env := by rfl) (hs2 : starEach [.Name T p2] X.env = (false, eval (.Name T p2) X.env) :: starEach [] X.env := by rfl)
    (hpl : (backTo pos (starEach [.Name T p2] X.env)).any (·.1) = false := by rfl) :
    DenE X (.Call (.Name "isinstance" p) [e, .Name T p2] [] pos) (mMap g F) := by
  obtain ⟨t, h1, h2⟩ := h
  refine ⟨_, pe_callB call_isi hg hm rfl (pa_cons h1 (pa_cons (pe_bltn (v := .ty T) hgT hmT hvT rfl k.name k.dbg) pa_nil hs2) hs) (by decide) (by decide) hs hpl, fun P b σ env G H d env' rr h Q q => ?_⟩
  obtain ⟨z, hk, hz⟩ := mMap_some h
  obtain ⟨U, bb, e1, e2, e3⟩ := k.r z d hz
  subst e2
  refine h2 P b σ env G H z env' rr hk _ fun v G1 H1 g1 r1 p1 => ?_
  exact ⟨v, .ty T, _, _, bb, rfl, .ty T, p1.tyX r1.sub e1, kit_ty e3, q _ G1 H1 g1 r1 (.bl bb)⟩
/-- type(x) is not int -/
def gTyNotInt : D → Option D := fun d => (tyD d).map fun T => .bool (!decide (T = "int"))
theorem tyNot {F : Mo D} (h : DenE X e F) (hg : Gl X "type") (hm : X.mg "type" = none) (hgT : Gl X "int") (hmT : X.mg "int" = none)
    (hs : starEach [e] X.env = (false, eval e X.env) :: starEach [] X.env := by rfl) :
    (∃ t : TE, PE X (.Call (.Name "type" p) [e] [] cpos) t ∧ ∀ (P : Addr → Prop) (b : Bs) (σ : L2.St) (env : DEnv) (G H : Hp) (T : String) (d : D) (env' : DEnv), Rep P b G H σ env → F env = some (d, env') → tyD d = some T →
      ∀ Q : VK, (∀ G' H', Gr P G H G' H' → Rep P b G' H' σ env' → Q (.ty T) H') → t σ H Q) := by
  obtain ⟨t, h1, h2⟩ := h
  refine ⟨_, pe_callTy call_type1 hg hm (by decide +kernel) (pa_cons h1 pa_nil hs) (by decide) (by decide) hs rfl, fun P b σ env G H T d env' rr hF hT Q q => ?_⟩
  exact h2 P b σ env G H d env' rr hF _ fun v G1 H1 g1 r1 p1 => ⟨v, T, rfl, p1.tyB r1.sub hT, q G1 H1 g1 r1⟩
theorem dent_tyNotInt {F : Mo D} (h : DenE X e F) (hg : Gl X "type") (hm : X.mg "type" = none) (hgT : Gl X "int") (hmT : X.mg "int" = none)
    (hs : starEach [e] X.env = (false, eval e X.env) :: starEach [] X.env := by rfl) (hmk : behindInMarks .IsNot (.Name "int" p2) = false := by rfl) :
    DenT X (.Compare (.Call (.Name "type" p) [e] [] cpos) [.IsNot] [.Name "int" p2] pos) (mMap gB (mMap gTyNotInt F)) := by
  obtain ⟨t, h1, h2⟩ := tyNot (p := p) (cpos := cpos) h hg hm hgT hmT hs
  refine ⟨_, pt_cmpR op_notTyB h1 (pe_bltn (v := .ty "int") hgT hmT rfl rfl (by decide) (by decide)) hmk, fun P b σ env G H d env' rr h Q q => ?_⟩
  obtain ⟨z0, h, hz0⟩ := mMap_some h
  obtain ⟨z, hk, hz⟩ := mMap_some h
  unfold gTyNotInt at hz
  cases hT : tyD z with
  | none => rw [hT] at hz; cases hz
  | some T =>
    rw [hT] at hz
    cases hz
    cases hz0
    exact h2 P b σ env G H T z env' rr hk hT _ fun G1 H1 g1 r1 => ⟨T, "int", rfl, rfl, _, rfl, q G1 H1 g1 r1⟩
end
end Dn
set_option maxHeartbeats 1000000
namespace Dn
open PySem PySem.Spec PyProof.Rows L2
open Evl (Ex fresh_back)
def keyOf : D → Option Key
  | .int i => some (.inl i)
  | .str x => some (.inr x)
  | _ => none
section
variable {X : Cx} {tg e iter kx vx : Expr} {pos : Pos} {ifs : List Expr} {scope : Scope}
end
section
variable {X : Cx}
end
end Dn
set_option maxHeartbeats 1000000
namespace Dn
open PySem PySem.Spec PyProof.Rows L2
open Evl (Ex fresh_back)
open Classical
section
variable {X : Cx} {e : Expr} {pos : Pos}
def gMulB : D → D → Option D := fun d e => match gInt (fun i j => if i.natAbs < 2 ^ 4000 ∧ j.natAbs < 2 ^ 4000 then some (i * j) else none) d e with | some z => some z | none => gRep d e
theorem opD_mulB : OpD X (binaryOp .Mult) gMulB := (opD_int op_mulW fun i j z h => by
  split at h
  · rename_i hc; cases h; exact ⟨wide_mul hc.1 hc.2 (by decide) (by decide) (by decide), rfl⟩
  · cases h).or opD_rep
abbrev Ro := DEnv → Option (D × DEnv)
def DenSsN (X : Cx) (st : List Stmt) (k : Nat) (F : Ro) : Prop :=
  ∃ t : TS, PSs X st t ∧ ∀ (P : Addr → Prop) (b : Bs) (σ : L2.St) (env : DEnv) (G H : Hp) (d : D) (env' : DEnv), Rep P b G H σ env → F env = some (d, env') →
    ∀ Dd : Ends, (∀ v σ' G' H' N, Gr P G H G' H' → Rep (fun a => P a ∧ ¬ N a) b G' H' σ' env' → Tree P G' H' N k v d → Dd.rt v H') → t Dd σ H
def rRet (m : Mo D) : Ro := m
def rIf (c : Mo Bool) (F F' : Ro) : Ro := fun env =>
  match c env with
  | some (k, e1) => if k = true then F e1 else F' e1
  | none => none
def rSeq (F : So) (F' : Ro) : Ro := fun env =>
  match F env with
  | some (.nx e1) => F' e1
  | _ => none
theorem denssN_ret {k : Nat} {F : Mo D} (h : DenN X e k F) : DenSsN X [.Return (some e) pos] k (rRet F) := by
  obtain ⟨t, h1, h2⟩ := h
  exact ⟨_, pss_one (ps_ret h1), fun P b σ env G H d env' rr hF Dd q => h2 P b σ env G H d env' rr hF _ fun v G' H' N g r t => q v σ G' H' N g r t⟩
theorem denssN_if {k : Nat} {c : Expr} {u rest : List Stmt} {Fc : Mo Bool} {F F' : Ro} (hc : DenT X c Fc) (h1 : DenSsN X u k F) (h2 : DenSsN X rest k F') : DenSsN X (.If c u [] pos :: rest) k (rIf Fc F F') := by
  obtain ⟨t, c1, c2⟩ := hc
  obtain ⟨t1, h1, h1'⟩ := h1
  obtain ⟨t2, h2, h2'⟩ := h2
  refine ⟨_, pss_cons (ps_if c1 h1 pss_nil) h2, fun P b σ env G H d env' rr h Dd q => ?_⟩
  unfold rIf at h
  split at h
  · rename_i kk e1 hk
    refine c2 P b σ env G H kk e1 rr hk _ fun G' H' g r' => ?_
    cases kk with
    | true =>
      rw [if_pos rfl] at h ⊢
      exact h1' P b σ e1 G' H' d env' r' h _ fun v σ' G2 H2 N g2 r2 t2 => q v σ' G2 H2 N (g.trans g2) r2 t2
    | false =>
      rw [if_neg (by decide)] at h ⊢
      exact h2' P b σ e1 G' H' d env' r' h Dd fun v σ' G2 H2 N g2 r2 t2 => q v σ' G2 H2 N (g.trans g2) r2 t2
  · cases h
def outN : Option (D × DEnv) → Option D := Option.map (·.1)
def spN (n k : Nat) (F : List D → Option D) : Sp := fun vs H Q _ => ∃ (G : Hp) (ds : List D) (d : D), Ex G H ∧ RpAll G vs ds ∧ ds.length = n ∧ F ds = some d ∧ ∀ v G' H' N, Pu G H G' H' → Tree (fun a => H a = none) G' H' N k v d → Q v H'
structure FdN (P : Program) (w : World) (K : PySem.W.Frag) (mg : Str → Option Value) (base : Heap) (x : Str) (j n k : Nat) (F : List D → Option D) : Prop where
  ex : ∃ (f : Addr) (fd : FuncData) (ps : List Str), mg x = some (.ref f) ∧ PySem.W.keepIn K (.ref f) = true ∧ Binds K fd ps [] ∧ ps.length = n ∧ FnOk P w K mg base CX0 j f fd ps (spN n k F)
end
section
variable {P : Program} {w : World} {K : PySem.W.Frag} {mg : Str → Option Value} {base : Heap}
theorem FdN.mk' {x qual : Str} {st : Stmt} {f : Addr} {fd : FuncData} {N ps : List Str} {j k : Nat} {B : Ro} (F : Fun K x qual st f fd) (S : FnScope N ps (defScope st)) (hg : mg x = some (.ref f)) (hb : Binds K fd ps [])
    (body : ∀ (cdv : Value) (A : Around) (outer : List Env) (s : Shared) (H : Hp) (E : XK), Room j (A.deeper (envOfC qual (defScope st) s.heap.objs.size f cdv)) → DenSsN (cxOf CX0 P w K mg base N qual (defScope st) f cdv A outer s H E).nox (defBody st) k B) :
    FdN P w K mg base x (j + 1) ps.length k (fun ds => outN (B (envOf N ds))) := by
  refine ⟨f, fd, ps, hg, F.kp, hb, rfl, F.ok S (fun vs H Q E h => ?_) fun cdv A outer s H vs Q E hr h => ?_⟩
  · obtain ⟨G, ds, d, _, r, hl, _⟩ := h
    rw [r.length, hl]
  · obtain ⟨G, ds, d, hs, r, hl, hF, q⟩ := h
    obtain ⟨t, h1, h2⟩ := body cdv A outer s H E hr
    refine ⟨t, h1, ?_⟩
    have rep : Rep (fun a => H a = none) (fun _ => 0) G H (L2.start N vs) (envOf N ds) := start_rep hs (fun _ h => h) r
    cases hB : B (envOf N ds) with
    | none => simp only [hB] at hF; cases hF
    | some r1 =>
      obtain ⟨d', e1⟩ := r1
      simp only [hB, outN, Option.map_some] at hF
      cases hF
      refine h2 _ (fun _ => 0) _ _ G H _ e1 rep hB _ fun v σ' G' H' N g r' t => q v G' H' N ⟨g.g, fun a o e => g.h a o e (some_ne e), r'.sub, fun a h n => g.n a h n⟩ t
theorem FdN.of {x : Str} {st : Stmt} {N ps : List Str} {j n k : Nat} {B : Ro} (d : Df K mg x st ps) (S : FnScope N ps (defScope st)) (hn : ps.length = n)
    (body : ∀ (f : Addr) (cdv : Value) (A : Around) (outer : List Env) (s : Shared) (H : Hp) (E : XK), Room j (A.deeper (envOfC x (defScope st) s.heap.objs.size f cdv)) → DenSsN (cxOf CX0 P w K mg base N x (defScope st) f cdv A outer s H E).nox (defBody st) k B) :
    FdN P w K mg base x (j + 1) n k (fun ds => outN (B (envOf N ds))) := by
  obtain ⟨f, fd, h1, h2, h3⟩ := d.ex
  subst hn
  exact FdN.mk' h2 S h1 h3 (body f)
theorem FdN.mono {x : Str} {i j n k : Nat} {F : List D → Option D} (h : FdN P w K mg base x i n k F) (hk : i ≤ j) : FdN P w K mg base x j n k F := by
  obtain ⟨f, fd, ps, h1, h2, h3, h4, h5⟩ := h.ex
  exact ⟨f, fd, ps, h1, h2, h3, h4, h5.mono hk⟩
end
section
variable {X : Cx} {e : Expr} {pos : Pos}
theorem denn_call {x : Str} {j n k : Nat} {p : Pos} {es : List Expr} {F : List D → Option D} {m : Mo (List D)} (h : FdN X.prog X.w X.K X.mg X.base x j n k F) (hr : Room j X.A) (hg : Gl X x) (ha : DenA X (e :: es) m) (hdb : (x == ("__debug__" : Str)) = false := by decide)
    (he : starEach (e :: es) X.env = (false, eval e X.env) :: starEach es X.env := by rfl) (hpl : (backTo pos (starEach es X.env)).any (·.1) = false := by rfl) : DenN X (.Call (.Name x p) (e :: es) [] pos) k (mMap (lenIs n F) m) := by
  obtain ⟨f, fd, ps, h1, h2, h3, h4, h5⟩ := h.ex
  obtain ⟨t, a1, a2⟩ := ha
  refine ⟨_, pe_call h5 hr hg h1 h2 h3 .nil pass0 a1 hdb he hpl, fun P b σ env G H d env' rr h Q q => ?_⟩
  obtain ⟨ds, hds, hF⟩ := mMap_some h
  unfold lenIs at hF
  split at hF
  · rename_i hl
    refine a2 P b σ env G H _ _ rr hds _ fun vs G' H' g r p => ?_
    show spN n k F (vs ++ []) H' Q _
    rw [List.append_nil]
    refine ⟨G', ds, d, r.sub, p, hl, hF, fun v G2 H2 N pu t => ?_⟩
    have tP : Tree P G2 H2 N k v d := ⟨fun a ha => ⟨r.fresh a (t.n a ha).1, (t.n a ha).2⟩, t.r⟩
    refine q v G2 H2 N (g.trans (pu.gr r.fresh)) ?_ tP
    refine r.keep pu.g pu.s (fun a ha => ⟨r.fresh a (fresh_back pu.h ha), fun z => (t.n a z).2.2 ha⟩) fun a h1 h2 h3 => ⟨⟨h1, fun z => h3 (t.n a z).1⟩, pu.n a h3 h2, fun o e => pu.h a o e⟩
  · cases hF
def forOwnGo (i : Nat) (body : So) : List D → DEnv → Option Fl
  | [], e => some (.nx e)
  | d :: ds, e =>
    match body (e.set i (some (SV.ow false 0 d))) with
    | none => none
    | some (.nx e2) => forOwnGo i body ds e2
    | some (.ct e2) => forOwnGo i body ds e2
    | some (.bk e2) => some (.nx e2)
    | some (.rt d e2) => some (.rt d e2)
def sForOwn (i : Nat) (m : Mo D) (body : So) : So := fun env =>
  match m env with
  | some (.list ds, e1) => forOwnGo i body ds e1
  | _ => none
end
end Dn
set_option maxHeartbeats 1000000
namespace Dn
open PySem PySem.Spec PyProof.Rows L2
open Evl (Ex fresh_back)
abbrev gLe : D → D → Option D := gCmp fun i j => decide (i ≤ j)
abbrev gGt : D → D → Option D := gCmp fun i j => decide (j < i)
abbrev gGe : D → D → Option D := gCmp fun i j => decide (j ≤ i)
section
variable {X : Cx} {a b e : Expr} {pos : Pos}
/-- tuple(range(n)) -/
def gTupRg : D → Option D
  | .int j => if -(2 ^ 62) ≤ j ∧ j < 1000 then some (.tuple (rangeD 0 j.toNat)) else none
  | _ => none
theorem rgV_rp {G : Hp} (j : Int) : RpAll G (rgV 0 j) (rangeD 0 j.toNat) := by
  unfold rgV rangeD
  rw [Int.sub_zero]
  induction List.range j.toNat with
  | nil => exact .nil
  | cons n ns ih => exact .cons (.int _) ih
theorem den_tupRange {a : Expr} {p p2 pos2 : Pos} {F : Mo D} (hg : Gl X "tuple") (hm : X.mg "tuple" = none) (hg2 : Gl X "range") (hm2 : X.mg "range" = none) (hc : X.calm = true) (ha : DenE X a F)
    (na : starEach [a] X.env = (false, eval a X.env) :: starEach [] X.env := by rfl) (hs : starEach [.Call (.Name "range" p) [a] [] pos2] X.env = (false, eval (.Call (.Name "range" p) [a] [] pos2) X.env) :: starEach [] X.env := by rfl) :
    DenE X (.Call (.Name "tuple" p2) [.Call (.Name "range" p) [a] [] pos2] [] pos) (mMap gTupRg F) := by
  obtain ⟨t, h1, h2⟩ := ha
  refine ⟨_, pe_tupRgS hc hg hm (prg_1 hg2 hm2 h1 na) hs, fun P b σ env G H ds env' rr h Q q => ?_⟩
  obtain ⟨z, hk, hz⟩ := mMap_some h
  refine h2 P b σ env G H z env' rr hk _ fun v G' H' g r pr => ?_
  unfold gTupRg at hz
  split at hz
  · rename_i j
    split at hz
    · rename_i hj
      cases hz
      refine ⟨j, pr.inv_int, ?_, fun y o hy ho => ?_⟩
      · have hz : sizeLine = 16777216 := sizeLine_eq
        unfold RgOk
        omega
      · have pu := Pu.new (o := .frz o (.tup (rgV 0 j))) r.sub hy
        exact q _ _ _ (g.trans (pu.gr r.fresh)) (r.pu pu) (.tup (.new ho) (rgV_rp j))
    · cases hz
  · cases hz
end
end Dn
namespace L2
open PySem PySem.Spec PyProof.Rows
end L2
namespace Dn
open PySem PySem.Spec PyProof.Rows L2
structure Blt2 (mg : Str → Option Value) : Prop extends Blt mg where
  type_ : mg "type" = none
structure Imps (mg : Str → Option Value) : Prop where
  acc : mg "accumulate" = some (.type "itertools.accumulate")
abbrev gIAdd : D → D → Option D := gInt fun i j => some (i + j)
end Dn
namespace Dn
open PySem PySem.Spec PyProof.Rows L2
theorem den_glb {X : Cx} {x : Str} {pos : Pos} {i : Int} (hm : ∃ t, X.mg x = some (.int i t)) (hg : Gl X x) (hd : (x == ("__debug__" : Str)) = false := by decide) : DenE X (.Name x pos) (mRet (.int i)) := den_glob (u := .none) hm hg hd
end Dn
set_option maxHeartbeats 1000000
namespace Dn
open PySem PySem.Spec PyProof.Rows L2
open Evl (Ex fresh_back)
section
variable {X : Cx}
end
end Dn
namespace Dn
open PySem PySem.Spec PyProof.Rows L2
open Evl (Ex fresh_back)
section
variable {P : Program} {w : World} {K : PySem.W.Frag} {mg : Str → Option Value} {base : Heap}
end
/-- a, b = .. -/
def sTup (m : Mo D) (t : D → DEnv → Option DEnv) : So := fun env => match m env with | some (d, e1) => (t d e1).map .nx | none => none
end Dn
set_option maxHeartbeats 1000000
namespace Dn
open PySem PySem.Spec PyProof.Rows L2
section
variable {X : Cx} {a b c e : Expr} {pos : Pos} {ta tb tc te : TE}
def mChain3 (g g' g2 : D → D → Option D) (m n l o : Mo D) : Mo D := mBind m fun x => mBind n fun y => mBind (mMap gB (mLift (g x y))) fun k => if k = true then mBind l fun z => mBind (mMap gB (mLift (g' y z))) fun k2 => if k2 = true then mBind o fun w => mMap (fun k => some (.bool k)) (mMap gB (mLift (g2 z w))) else mRet (.bool false) else mRet (.bool false)
end
end Dn
set_option maxHeartbeats 1000000
namespace Dn
open PySem PySem.Spec PyProof.Rows L2
/-- while, so many turns at most -/
def whileGo (c : Mo Bool) (body : So) : Nat → DEnv → Option Fl
  | 0, _ => none
  | n + 1, e =>
    match c e with
    | none => none
    | some (false, e1) => some (.nx e1)
    | some (true, e1) =>
      match body e1 with
      | none => none
      | some (.nx e2) => whileGo c body n e2
      | some (.ct e2) => whileGo c body n e2
      | some (.bk e2) => some (.nx e2)
      | some (.rt d e2) => some (.rt d e2)
def sWhile (c : Mo Bool) (body : So) : So := whileGo c body 1000000
section
variable {X : Cx} {c : Expr} {pos : Pos} {body : List Stmt}
def gDivB : D → D → Option D := gInt fun i j => if 0 < j ∧ j.natAbs < 2 ^ 4000 then some (i / j) else none
theorem opD_divB : OpD X (binaryOp .FloorDiv) gDivB := opD_int op_fdivW fun i j z h => by
  split at h
  · rename_i hc
    cases h
    refine ⟨⟨hc.1, ?_⟩, rfl⟩
    have hj : j.natAbs ≠ 0 := by omega
    have := (Nat.log2_lt hj).mpr hc.2
    omega
  · cases h
end
end Dn
set_option maxHeartbeats 4000000
namespace Dn
open PySem PySem.Spec PyProof.Rows L2 PySem.W PySem.Calls
open Evl (Ex fresh_back)
section
variable {X : Cx} {pins : List (Addr × Obj)} {σ : L2.St} {H : Hp} {s : Shared} {a : Addr} {A : Around} {E : Value → Shared → Prop}
end
end Dn
set_option maxHeartbeats 4000000
namespace Dn
open PySem PySem.Spec PyProof.Rows L2 PySem.W PySem.Calls
open Evl (Ex fresh_back)
section
variable {P : Addr → Prop} {bs : Bs} {G H : Hp} {σ : L2.St} {env : DEnv} {N : Addr → Prop}
end
section
variable {X : Cx} {x : Str} {e k o : Expr} {pos pos' : Pos} {td ty tv : TE}
end
end Dn
set_option maxHeartbeats 4000000
namespace Dn
open PySem PySem.Spec PyProof.Rows L2 PySem.W PySem.Calls
open Evl (Ex fresh_back)
section
variable {P : Program} {w : World} {A : Around} {s : Shared} {E : Value → Shared → Prop}
end
section
variable {X : Cx}
end
section
variable {X : Cx}
end
end Dn
set_option maxHeartbeats 4000000
namespace Dn
open PySem PySem.Spec PyProof.Rows L2
open Evl (Ex fresh_back)
section
variable {X : Cx} {o e : Expr} {apos cpos : Pos} {to : TE} {t : TA}
end
end Dn
set_option maxHeartbeats 4000000
namespace Dn
open PySem PySem.Spec PyProof.Rows L2 PySem.W PySem.Calls
open Evl (Ex fresh_back)
section
variable {P : Program} {w : World} {A : Around} {s : Shared} {E : Value → Shared → Prop}
end
section
variable {X : Cx}
end
end Dn
set_option maxHeartbeats 4000000
namespace Dn
open PySem PySem.Spec PyProof.Rows L2 PySem.W PySem.Calls
open Evl (Ex fresh_back)
section
variable {P : Program} {w : World} {A : Around} {s : Shared} {E : Value → Shared → Prop}
end
end Dn
set_option maxHeartbeats 4000000
namespace Dn
open PySem PySem.Spec PyProof.Rows L2 PySem.W PySem.Calls
open Evl (Ex fresh_back)
section
variable {X : Cx} {e : Expr}
end
end Dn
set_option maxHeartbeats 4000000
namespace Dn
open PySem PySem.Spec PyProof.Rows L2
open Evl (Ex fresh_back)
def gIsList : D → Option D
  | .list _ => some (.bool true)
  | .tuple _ => some (.bool false)
  | .int _ => some (.bool false)
  | .bool _ => some (.bool false)
  | .str _ => some (.bool false)
  | .none => some (.bool false)
  | _ => none
def gIsStr : D → Option D
  | .list _ => some (.bool false)
  | .tuple _ => some (.bool false)
  | .int _ => some (.bool false)
  | .bool _ => some (.bool false)
  | .str _ => some (.bool true)
  | .none => some (.bool false)
  | _ => none
theorem isi_list : IsiD "list" gIsList := ⟨fun d z h => by
  cases d <;> cases h <;> exact ⟨_, _, rfl, rfl, by decide +kernel⟩, by decide, by decide⟩
theorem isi_str : IsiD "str" gIsStr := ⟨fun d z h => by
  cases d <;> cases h <;> exact ⟨_, _, rfl, rfl, by decide +kernel⟩, by decide, by decide⟩
/-- isinstance(x, (bool, list, tuple)) -/
def gIsBLT : D → Option D
  | .bool _ => some (.bool true)
  | .list _ => some (.bool true)
  | .tuple _ => some (.bool true)
  | .none => some (.bool false)
  | .int _ => some (.bool false)
  | .str _ => some (.bool false)
  | _ => none
theorem kit_blt {K : PySem.W.Frag} {d z : D} (h : gIsBLT d = some z) : ∃ U b, tyD d = some U ∧ z = .bool b ∧ PySem.W.kitAny K (.type U) [.type "bool", .type "list", .type "tuple"] = some b := by
  cases d <;> cases h
  · exact ⟨_, _, rfl, rfl, kitAny_cons (b := false) (kit_ty (by decide +kernel)) (fun _ => kitAny_cons (b := false) (kit_ty (by decide +kernel)) (fun _ => kitAny_cons (b := false) (kit_ty (by decide +kernel)) (fun _ => kitAny_nil) (fun z => by cases z)) (fun z => by cases z)) (fun z => by cases z)⟩
  · exact ⟨_, _, rfl, rfl, kitAny_cons (b := true) (kit_ty (by decide +kernel)) (fun z => by cases z) (fun _ => rfl)⟩
  · exact ⟨_, _, rfl, rfl, kitAny_cons (b := false) (kit_ty (by decide +kernel)) (fun _ => kitAny_cons (b := false) (kit_ty (by decide +kernel)) (fun _ => kitAny_cons (b := false) (kit_ty (by decide +kernel)) (fun _ => kitAny_nil) (fun z => by cases z)) (fun z => by cases z)) (fun z => by cases z)⟩
  · exact ⟨_, _, rfl, rfl, kitAny_cons (b := false) (kit_ty (by decide +kernel)) (fun _ => kitAny_cons (b := false) (kit_ty (by decide +kernel)) (fun _ => kitAny_cons (b := false) (kit_ty (by decide +kernel)) (fun _ => kitAny_nil) (fun z => by cases z)) (fun z => by cases z)) (fun z => by cases z)⟩
  · exact ⟨_, _, rfl, rfl, kitAny_cons (b := false) (kit_ty (by decide +kernel)) (fun _ => kitAny_cons (b := true) (kit_ty (by decide +kernel)) (fun z => by cases z) (fun _ => rfl)) (fun z => by cases z)⟩
  · exact ⟨_, _, rfl, rfl, kitAny_cons (b := false) (kit_ty (by decide +kernel)) (fun _ => kitAny_cons (b := false) (kit_ty (by decide +kernel)) (fun _ => kitAny_cons (b := true) (kit_ty (by decide +kernel)) (fun z => by cases z) (fun _ => rfl)) (fun z => by cases z)) (fun z => by cases z)⟩
section
variable {X : Cx} {e : Expr} {p p1 p2 p3 tp pos : Pos}
theorem den_isi3 {F : Mo D} {kk : Nat} (h : DenE X e F) (hg : Gl X "isinstance") (hm : X.mg "isinstance" = none) (hg1 : Gl X "bool") (hm1 : X.mg "bool" = none) (hg2 : Gl X "list") (hm2 : X.mg "list" = none) (hg3 : Gl X "tuple") (hm3 : X.mg "tuple" = none)
    (hs : starEach [e, .Tuple [.Name "bool" p1, .Name "list" p2, .Name "tuple" p3] kk tp] X.env = (false, eval e X.env) :: starEach [.Tuple [.Name "bool" p1, .Name "list" p2, .Name "tuple" p3] kk tp] X.env := by rfl)
    (hs2 : starEach [.Tuple [.Name "bool" p1, .Name "list" p2, .Name "tuple" p3] kk tp] X.env = (false, eval (.Tuple [.Name "bool" p1, .Name "list" p2, .Name "tuple" p3] kk tp) X.env) :: starEach [] X.env := by rfl)
    (n1 : starEach [.Name "bool" p1, .Name "list" p2, .Name "tuple" p3] X.env = (false, eval (.Name "bool" p1) X.env) :: starEach [.Name "list" p2, .Name "tuple" p3] X.env := by rfl)
    (n2 : starEach [.Name "list" p2, .Name "tuple" p3] X.env = (false, eval (.Name "list" p2) X.env) :: starEach [.Name "tuple" p3] X.env := by rfl)
    (n3 : starEach [.Name "tuple" p3] X.env = (false, eval (.Name "tuple" p3) X.env) :: starEach [] X.env := by rfl)
    (hpl : (backTo pos (starEach [.Tuple [.Name "bool" p1, .Name "list" p2, .Name "tuple" p3] kk tp] X.env)).any (·.1) = false := by rfl) :
    DenE X (.Call (.Name "isinstance" p) [e, .Tuple [.Name "bool" p1, .Name "list" p2, .Name "tuple" p3] kk tp] [] pos) (mMap gIsBLT F) := by
  obtain ⟨t, h1, h2⟩ := h
  refine ⟨_, pe_callB call_isiT hg hm rfl (pa_cons h1 (pa_cons (pe_tup (pa_cons (pe_bltn (v := .ty "bool") hg1 hm1 rfl rfl (by decide) (by decide)) (pa_cons (pe_bltn (v := .ty "list") hg2 hm2 rfl rfl (by decide) (by decide)) (pa_cons (pe_bltn (v := .ty "tuple") hg3 hm3 rfl rfl (by decide) (by decide)) pa_nil n3) n2) n1)) pa_nil hs2) hs) (by decide) (by decide) hs hpl, fun P b σ env G H d env' rr h Q q => ?_⟩
  obtain ⟨z, hk, hz⟩ := mMap_some h
  obtain ⟨U, bb, e1, e2, e3⟩ := kit_blt (K := X.K) hz
  subst e2
  refine h2 P b σ env G H z env' rr hk _ fun v G1 H1 g1 r1 p1 => ?_
  refine ⟨Nat.le_trans (show 3 ≤ 100000 by decide) (by decide), fun c hc => ?_⟩
  have pu := Pu.newH (o := .tup [.ty "bool", .ty "list", .ty "tuple"]) r1.sub hc
  have r2 := r1.pu pu
  exact ⟨v, c, _, _, _, bb, rfl, upd_same, .cons (.ty "bool") (.cons (.ty "list") (.cons (.ty "tuple") .nil)), p1.tyX r2.sub e1, e3, q _ G1 _ (g1.trans (pu.gr r1.fresh)) r2 (.bl bb)⟩
end
section
variable {P : Program} {w : World} {K : PySem.W.Frag} {mg : Str → Option Value} {base : Heap}
/-- of a def nothing need be known where it isn't called -/
theorem Fd.zero {x : Str} {st : Stmt} {N ps : List Str} {n : Nat} (d : Df K mg x st ps) (S : FnScope N ps (defScope st)) (hn : ps.length = n) : Fd P w K mg base x 1 n (fun _ => none) := by
  obtain ⟨f, fd, h1, h2, h3⟩ := d.ex
  subst hn
  exact ⟨f, fd, ps, h1, h2.kp, h3, rfl, h2.ok (k := 0) S (fun vs H Q E h => by obtain ⟨G, ds, d, _, r, hl, hF, _⟩ := h; cases hF) fun cdv A outer s H vs Q E hr h => by
    obtain ⟨G, ds, d, _, r, hl, hF, _⟩ := h
    cases hF⟩
end
end Dn
set_option maxHeartbeats 1000000
namespace Dn
open PySem PySem.Spec PyProof.Rows L2
open Evl (Ex)
def gTuL (n : Nat) (Bs : List D → DEnv → Option DEnv) : D → DEnv → Option DEnv
  | .list ds, env => if ds.length = n then Bs ds env else none
  | _, _ => none
theorem ev_tuL {n : Nat} {Bs : List D → DEnv → Option DEnv} {ds : List D} {env e1 : DEnv} (h : ds.length = n) (h2 : Bs ds env = some e1) : gTuL n Bs (.list ds) env = some e1 := (if_pos h).trans h2
end Dn
set_option maxHeartbeats 1000000
namespace Dn
open PySem PySem.Spec PyProof.Rows L2
open Evl (Ex fresh_back)
section
variable {X : Cx} {pos : Pos} {e e2 : Expr} {p p2 cpos : Pos}
end
end Dn
set_option maxHeartbeats 4000000
namespace Dn
open PySem PySem.Spec PyProof.Rows L2 PySem.W PySem.Calls
open Evl (Ex fresh_back)
section
variable {P : Program} {w : World} {A : Around} {s : Shared} {E : Value → Shared → Prop}
end
end Dn
set_option maxHeartbeats 1000000
namespace Dn
open PySem PySem.Spec PyProof.Rows L2
open Evl (Ex fresh_back)
section
variable {X : Cx} {e : Expr}
end
end Dn
set_option maxHeartbeats 1000000
namespace Dn
open PySem PySem.Spec PyProof.Rows L2
open Evl (Ex fresh_back)
section
variable {X : Cx} {pos : Pos}
end
end Dn
set_option maxHeartbeats 1000000
namespace Dn
open PySem PySem.Spec PyProof.Rows L2
open Evl (Ex fresh_back)
end Dn
set_option maxHeartbeats 1000000
namespace Dn
open PySem PySem.Spec PyProof.Rows L2 PySem.W
open Evl (Ex fresh_back)
section
variable {X : Cx}
end
end Dn
set_option maxHeartbeats 1000000
namespace Dn
open PySem PySem.Spec PyProof.Rows L2
open Evl (Ex fresh_back)
def TreeO (P : Addr → Prop) (G H : Hp) (N : Addr → Prop) (k : Nat) (v : V) (d : D) : Prop := (d = .none ∧ v = .non ∧ ∀ a, ¬ N a) ∨ (d ≠ .none ∧ Tree P G H N k v d)
theorem TreeO.n {P : Addr → Prop} {G H : Hp} {N : Addr → Prop} {k : Nat} {v : V} {d : D} (t : TreeO P G H N k v d) : ∀ a, N a → P a ∧ G a = none ∧ H a ≠ none := fun a ha => t.elim (fun t => absurd ha (t.2.2 a)) fun t => t.2.n a ha
section
variable {X : Cx} {e a b c : Expr} {pos : Pos}
def DenSsO (X : Cx) (st : List Stmt) (k : Nat) (F : Ro) : Prop :=
  ∃ t : TS, PSs X st t ∧ ∀ (P : Addr → Prop) (b : Bs) (σ : L2.St) (env : DEnv) (G H : Hp) (d : D) (env' : DEnv), Rep P b G H σ env → F env = some (d, env') →
    ∀ Dd : Ends, (∀ v σ' G' H' N, Gr P G H G' H' → Rep (fun a => P a ∧ ¬ N a) b G' H' σ' env' → TreeO P G' H' N k v d → Dd.rt v H') → t Dd σ H
end
def spO (n k : Nat) (F : List D → Option D) : Sp := fun vs H Q _ => ∃ (G : Hp) (ds : List D) (d : D), Ex G H ∧ RpAll G vs ds ∧ ds.length = n ∧ F ds = some d ∧ ∀ v G' H' N, Pu G H G' H' → TreeO (fun a => H a = none) G' H' N k v d → Q v H'
structure FdO (P : Program) (w : World) (K : PySem.W.Frag) (mg : Str → Option Value) (base : Heap) (x : Str) (j n k : Nat) (F : List D → Option D) : Prop where
  ex : ∃ (f : Addr) (fd : FuncData) (ps : List Str), mg x = some (.ref f) ∧ PySem.W.keepIn K (.ref f) = true ∧ Binds K fd ps [] ∧ ps.length = n ∧ FnOk P w K mg base CX0 j f fd ps (spO n k F)
section
variable {P : Program} {w : World} {K : PySem.W.Frag} {mg : Str → Option Value} {base : Heap}
theorem FdO.mk' {x qual : Str} {st : Stmt} {f : Addr} {fd : FuncData} {N ps : List Str} {j k : Nat} {B : Ro} (F : Fun K x qual st f fd) (S : FnScope N ps (defScope st)) (hg : mg x = some (.ref f)) (hb : Binds K fd ps [])
    (body : ∀ (cdv : Value) (A : Around) (outer : List Env) (s : Shared) (H : Hp) (E : XK), Room j (A.deeper (envOfC qual (defScope st) s.heap.objs.size f cdv)) → DenSsO (cxOf CX0 P w K mg base N qual (defScope st) f cdv A outer s H E).nox (defBody st) k B) :
    FdO P w K mg base x (j + 1) ps.length k (fun ds => outN (B (envOf N ds))) := by
  refine ⟨f, fd, ps, hg, F.kp, hb, rfl, F.ok S (fun vs H Q E h => ?_) fun cdv A outer s H vs Q E hr h => ?_⟩
  · obtain ⟨G, ds, d, _, r, hl, _⟩ := h
    rw [r.length, hl]
  · obtain ⟨G, ds, d, hs, r, hl, hF, q⟩ := h
    obtain ⟨t, h1, h2⟩ := body cdv A outer s H E hr
    refine ⟨t, h1, ?_⟩
    have rep : Rep (fun a => H a = none) (fun _ => 0) G H (L2.start N vs) (envOf N ds) := start_rep hs (fun _ h => h) r
    cases hB : B (envOf N ds) with
    | none => simp only [hB] at hF; cases hF
    | some r1 =>
      obtain ⟨d', e1⟩ := r1
      simp only [hB, outN, Option.map_some] at hF
      cases hF
      refine h2 _ (fun _ => 0) _ _ G H _ e1 rep hB _ fun v σ' G' H' N g r' t => q v G' H' N ⟨g.g, fun a o e => g.h a o e (some_ne e), r'.sub, fun a h n => g.n a h n⟩ t
theorem FdO.of {x : Str} {st : Stmt} {N ps : List Str} {j n k : Nat} {B : Ro} (d : Df K mg x st ps) (S : FnScope N ps (defScope st)) (hn : ps.length = n)
    (body : ∀ (f : Addr) (cdv : Value) (A : Around) (outer : List Env) (s : Shared) (H : Hp) (E : XK), Room j (A.deeper (envOfC x (defScope st) s.heap.objs.size f cdv)) → DenSsO (cxOf CX0 P w K mg base N x (defScope st) f cdv A outer s H E).nox (defBody st) k B) :
    FdO P w K mg base x (j + 1) n k (fun ds => outN (B (envOf N ds))) := by
  obtain ⟨f, fd, h1, h2, h3⟩ := d.ex
  subst hn
  exact FdO.mk' h2 S h1 h3 (body f)
theorem FdO.mono {x : Str} {i j n k : Nat} {F : List D → Option D} (h : FdO P w K mg base x i n k F) (hk : i ≤ j) : FdO P w K mg base x j n k F := by
  obtain ⟨f, fd, ps, h1, h2, h3, h4, h5⟩ := h.ex
  exact ⟨f, fd, ps, h1, h2, h3, h4, h5.mono hk⟩
end
section
variable {X : Cx} {e a b c : Expr} {pos : Pos}
end
section
variable {X : Cx} {e a b c : Expr} {pos : Pos}
def rFrz (i : Nat) (F : Ro) : Ro := fun env =>
  match env[i]? with
  | some (some (SV.ow _ _ d)) => F (env.set i (some (.fz d)))
  | _ => none
end
theorem ev_rret {m : Mo D} {env e1 : DEnv} {d : D} (h : m env = some (d, e1)) : rRet m env = some (d, e1) := h
theorem ev_rseq {F : So} {F' : Ro} {env e1 : DEnv} {r : D × DEnv} (h : F env = some (.nx e1)) (h2 : F' e1 = some r) : rSeq F F' env = some r := by
  unfold rSeq
  simp only [h, h2]
theorem ev_rif {c : Mo Bool} {F F' : Ro} {env e1 : DEnv} {k : Bool} {r : D × DEnv} (h : c env = some (k, e1)) (h2 : (if k = true then F e1 else F' e1) = some r) : rIf c F F' env = some r := by
  unfold rIf
  simp only [h, h2]
theorem ev_rfrz {i k : Nat} {io : Bool} {d : D} {F : Ro} {env e1 : DEnv} {r : D × DEnv} (h : env[i]? = some (some (SV.ow io k d))) (h1 : env.set i (some (.fz d)) = e1) (h2 : F e1 = some r) : rFrz i F env = some r := by
  unfold rFrz
  simp only [h, h1, h2]
end Dn
set_option maxHeartbeats 1000000
namespace Dn
open PySem PySem.Spec PyProof.Rows L2
open Evl (Ex fresh_back)
section
variable {X : Cx} {a b : Expr} {pos : Pos}
end
end Dn
set_option maxHeartbeats 4000000
namespace Dn
open PySem PySem.Spec PyProof.Rows L2 PySem.W PySem.Calls
open Evl (Ex fresh_back)
section
variable {X : Cx} {pins : List (Addr × Obj)} {σ : L2.St} {H : Hp} {s : Shared} {a : Addr} {o : Obj} {rows : List XRow}
end
section
variable {X : Cx} {tg e : Expr} {td : TE}
end
end Dn
set_option maxHeartbeats 4000000
namespace Dn
open PySem PySem.Spec PyProof.Rows L2 PySem.W PySem.Calls
open Evl (Ex fresh_back)
def valX (rows : List XRow) (k : List Int) : Option V := (rows.find? fun r => decide (r.1 = k)).map (·.2.2)
section
variable {X : Cx} {pins : List (Addr × Obj)} {σ : L2.St} {H : Hp} {s : Shared} {a : Addr} {o : Obj} {rows : List XRow}
end
section
variable {X : Cx} {o i e f : Expr} {pos apos cpos : Pos} {td ty tx tk tv : TE}
end
end Dn
set_option maxHeartbeats 4000000
namespace Dn
open PySem PySem.Spec PyProof.Rows L2 PySem.W PySem.Calls
open Evl (Ex fresh_back)
section
variable {X : Cx} {e f a b k : Expr} {pos apos cpos p1 p2 : Pos} {x : Str}
end
section
variable {X : Cx}
end
end Dn
set_option maxHeartbeats 4000000
namespace Dn
open PySem PySem.Spec PyProof.Rows L2 PySem.W PySem.Calls
open Evl (Ex fresh_back)
theorem tuple_mul1 (l : Addr) (items : Array Value) (n : Nat) (dd : Option Addr) (sl : Array (Option Value)) (u : Tok) :
    Meets (Builtin.«tuple.__mul__» ⟨[.ref l, .int 1 u], []⟩) (fun _ R s => s.heap.get? l = some { cls := .type "tuple", dict := dd, data := .seq items n, slots := sl } ∧
      R (.ok (.ret (Value.ref l))) s) :=
  .of_wp fun prog w A R s h => by
    obtain ⟨hp, g, d, tk, os⟩ := s
    obtain ⟨hl, h⟩ := h
    have f1 := AutoSeq1.idx_int
    wp_walk using wpAny_loadPart' hl
    exact ⟨_, rfl, h⟩
def rRepTS (K : PySem.W.Frag) : R2 := fun x y H Q => ∃ l k xs, x = .ref l ∧ y = .int k ∧ SqT K H l xs ∧ xs ≠ [] ∧ 1 ≤ k ∧ k ≤ 1000 ∧ xs.length ≤ 1000 ∧ (k = 1 → Q (.ref l) H) ∧ (2 ≤ k → NewT Q H (List.replicate k.toNat xs).flatten)
section
variable {X : Cx}
theorem op_repTS : OpR X (binaryOp .Mult) (rRepTS X.K) := by
  intro pins s σ H x y v u Q I rx ry h
  obtain ⟨l, k, xs, rfl, rfl, hT, hne, h1, h2, hz, q1, q⟩ := h
  cases rx
  obtain ⟨t, rfl⟩ := ry
  obtain ⟨its, r, ⟨⟨cls, dd, data, sl⟩, ho, hc, n, hd⟩, hs⟩ := I.tuple hT
  simp only at hc hd
  subst hc hd
  have hle : its.length = xs.length := r.length.symm
  by_cases hk1 : k = 1
  · subst hk1
    refine wpAny_binaryOp_repeat_ref (T := "tuple") (U := "int") (by decide) ⟨_, ho, rfl⟩ (fun s' => typeIs_int s' 1 t) noFill_tuple_mul F.fills_int_mul F.slot_int_rmul repeat_tuple F.slot_int_index.lookup
      (call_meets F.slot_int_rmul (typeIs_int s 1 t) F.entry_int_rmul (F.args_int_rmul_2 _ _) (int_rmul_tuple 1 t l its.toArray n dd sl)
        ⟨ho, rfl, ⟨_, ho, rfl⟩, call_meets F.slot_tuple_mul ⟨_, ho, rfl⟩ F.entry_tuple_mul (F.args_tuple_mul_2 _ _) (tuple_mul1 l its.toArray n dd sl t) ⟨ho, ?_⟩⟩)
    exact ⟨.ref l, H, I, rfl, q1 rfl⟩
  have hn : its ≠ [] := fun e => hne (by
    rw [e] at hle
    exact List.eq_nil_of_length_eq_zero hle.symm)
  have hi : its.toArray.isEmpty = false := by
    cases its with
    | nil => exact absurd rfl hn
    | cons a b => rfl
  have hsz0 : its.toArray.size = xs.length := by rw [List.size_toArray, hle]
  have hm : ((its.toArray.size : Nat) : Int) * k ≤ 1000000 := by
    rw [hsz0]
    have a1 : ((xs.length : Nat) : Int) * k ≤ 1000 * k := Int.mul_le_mul_of_nonneg_right (by omega) (by omega)
    omega
  have flen : (List.replicate k.toNat its).flatten.length ≤ sizeLine := by
    rw [PyProof.Rows.lm_len_rep_flat, hle, sizeLine_eq]
    have a1 : k.toNat * xs.length ≤ 1000 * 1000 := Nat.mul_le_mul (by omega) hz
    omega
  have c0 : (decide (k < -(2 ^ 63)) || decide (k ≥ 2 ^ 63)) = false := by
    rw [decide_eq_false (by omega), decide_eq_false (by omega)] <;> rfl
  have c1 : (its.toArray.isEmpty || k == 1) = false := by
    rw [hi, Bool.false_or]
    exact beq_eq_false_iff_ne.mpr (by omega)
  have c2 : (decide (k ≤ 0) || its.toArray.isEmpty) = false := by
    rw [hi, Bool.or_false]
    exact decide_eq_false (by omega)
  have c4 : Builtin.Tuple.tupleTooMany (((its.toArray.size : Nat) : Int) * k) = false := by
    unfold Builtin.Tuple.tupleTooMany
    rw [sizeLine_eq]
    exact decide_eq_false (by omega)
  refine wpAny_binaryOp_repeat_ref (T := "tuple") (U := "int") (by decide) ⟨_, ho, rfl⟩ (fun s' => typeIs_int s' k t) noFill_tuple_mul F.fills_int_mul F.slot_int_rmul repeat_tuple F.slot_int_index.lookup
    (call_meets F.slot_int_rmul (typeIs_int s k t) F.entry_int_rmul (F.args_int_rmul_2 _ _) (int_rmul_tuple k t l its.toArray n dd sl)
      ⟨ho, rfl, ⟨_, ho, rfl⟩, call_meets F.slot_tuple_mul ⟨_, ho, rfl⟩ F.entry_tuple_mul (F.args_tuple_mul_2 _ _) (tuple_mulW l its.toArray n dd sl k t c0 c1 c2 (by omega) c4 (by rw [size_rep, List.size_toArray]; exact flen)) ⟨ho, ?_⟩⟩)
  rw [size_rep]
  exact fin_tupS I (r.rep k.toNat) (by rw [PyProof.Rows.lm_len_rep_flat, sizeLine_eq]; have a1 : k.toNat * xs.length ≤ 1000 * 1000 := Nat.mul_le_mul (by omega) hz; omega) (q (by omega))
/-- (x, ..) * n -/
def gRepT : D → D → Option D
  | .tuple ds, .int k => if ds ≠ [] ∧ 1 ≤ k ∧ k ≤ 1000 ∧ ds.length ≤ 1000 then some (.tuple (List.replicate k.toNat ds).flatten) else none
  | _, _ => none
theorem opD_repT : OpD X (binaryOp .Mult) gRepT := by
  refine ⟨_, op_repTS, fun G H x y d e z s rx ry hg Q q => ?_⟩
  unfold gRepT at hg
  split at hg
  · rename_i ds k
    split at hg
    · rename_i hl
      cases hg
      obtain ⟨a, vs, rfl, ha, ra⟩ := rx.inv_tup
      rw [ry.inv_int]
      refine ⟨a, k, vs, rfl, rfl, ha.sq s, fun e => hl.1 (List.eq_nil_of_length_eq_zero (by rw [← ra.length, e]; rfl)), hl.2.1, hl.2.2.1, by rw [ra.length]; exact hl.2.2.2, fun e => ?_, fun _ p o hp ho => fin_new s q hp fun ex => .tup (.new ho) ((ra.rep k.toNat).mono ex)⟩
      subst e
      have : (List.replicate (1 : Int).toNat ds).flatten = ds := by simp
      rw [this] at q
      exact q _ G H (Pu.refl s) (.tup ha ra)
    · cases hg
  · cases hg
end
end Dn
set_option maxHeartbeats 4000000
namespace Dn
open PySem PySem.Spec PyProof.Rows L2 PySem.W
open Evl (Ex fresh_back)
section
variable {X : Cx}
end
end Dn
set_option maxHeartbeats 4000000
namespace Dn
open PySem PySem.Spec PyProof.Rows L2 PySem.W PyProof
section
variable {P : Program} {w : World} {A : Around} {s : Shared} {E : Value → Shared → Prop}
end
section
variable {X : Cx}
end
end Dn
set_option maxHeartbeats 4000000
namespace Dn
open PySem PySem.Spec PyProof.Rows L2 PySem.W
open Evl (Ex fresh_back)
section
variable {X : Cx}
end
end Dn
set_option maxHeartbeats 4000000
namespace Dn
open PySem PySem.Spec PyProof.Rows L2 PySem.W PySem.Calls
open Evl (Ex fresh_back)
/-- the name's own thing, given away -/
def mGive (i k : Nat) : Mo D := fun env => match env[i]? with
  | some (some (SV.ow false j d)) => if j = k then some (d, env.set i none) else none
  | _ => none
section
variable {X : Cx} {pos : Pos}
end
section
variable {prog : Program} {w : World} {A : Around} {E : Value → Shared → Prop} {s : Shared}
end
section
variable {X : Cx} {e : Expr} {pos p : Pos}
end
/-- x[k], x a list of one's own -/
def mIxO (i : Nat) (k : Mo D) : Mo D := fun env =>
  match ownAt env i with
  | none => none
  | some _ =>
    match k env with
    | some (.int j, e1) => (match ownAt e1 i with | some (_, ds) => (atI ds j).map (fun d => (d, e1)) | none => none)
    | _ => none
section
variable {X : Cx} {k : Expr} {pos p : Pos}
end
theorem ev_give {i k : Nat} {env e1 : DEnv} {d : D} (h : env[i]? = some (some (SV.ow false k d))) (h2 : env.set i none = e1) : mGive i k env = some (d, e1) := by
  unfold mGive
  simp only [h, if_true, h2]
theorem ev_ixO {i : Nat} {k : Mo D} {env e1 : DEnv} {io : Bool} {ds : List D} {d : D} {j : Int} {p : Bool × List D} (h0 : ownAt env i = some p) (hk : k env = some (.int j, e1)) (h1 : ownAt e1 i = some (io, ds)) (h2 : atI ds j = some d) : mIxO i k env = some (d, e1) := by
  unfold mIxO
  simp only [h0, hk, h1, h2, Option.map_some]
end Dn
set_option maxHeartbeats 4000000
namespace Dn
open PySem PySem.Spec PyProof.Rows L2
open Evl (Ex fresh_back)
section
variable {X : Cx}
end
end Dn
set_option maxHeartbeats 4000000
namespace Dn
open PySem PySem.Spec PyProof.Rows L2
open Evl (Ex fresh_back)
def IsZipV (h : Heap) (z TI TO : Addr) (v : Value) (f : Bool) : Prop := h.get? z = some { cls := .type "zip", data := .fields #[v, .bool f, .bool false, .ref TI, .ref TO] }
section
variable {prog : Program} {w : World} {A : Around} {E : Value → Shared → Prop} {s : Shared}
/-- a zip at work, whatever became of the tuple that it gave last -/
structure ZAn (h : Heap) (N : Nat) (r : List Src) (i : Nat) : Prop where
  z : ∃ v f, IsZipV h (N + r.length + 2) (N + r.length) (N + r.length + 1) v f ∧ (v = .none ∨ ∃ T : Nat, v = rawInt T)
  ti : IsTupA h (N + r.length) (itRefs N r).toArray
  to : ∃ vs, IsTupA h (N + r.length + 1) vs ∧ vs.size = r.length
  its : ItsAt h N r i
theorem ZAn.at {h h' : Heap} {N : Nat} {r : List Src} {i : Nat} (x : ZAn h N r i) (lo : ∀ S ∈ r, S.a < N) (k : ∀ (c : Nat) o, c < N + r.length + 3 → h.get? c = some o → h'.get? c = some o) : ZAn h' N r i where
  z := let ⟨v, f, h1, h2⟩ := x.z; ⟨v, f, k _ _ (by omega) h1, h2⟩
  ti := k _ _ (by omega) x.ti
  to := let ⟨vs, h1, h2⟩ := x.to; ⟨vs, k _ _ (by omega) h1, h2⟩
  its := x.its.at lo fun c o hc e => k c o (by omega) e
end
end Dn
set_option maxHeartbeats 4000000
namespace Dn
open PySem PySem.Spec PyProof.Rows L2
open Evl (Ex fresh_back)
section
variable {prog : Program} {w : World} {A : Around} {E : Value → Shared → Prop} {s : Shared}
theorem ZAn.ty {N : Nat} {r : List Src} {i : Nat} (st : ZAn s.heap N r i) : s.TypeIs (.ref (N + r.length + 2)) "zip" := by
  obtain ⟨v, f, hz, _⟩ := st.z
  exact ⟨_, hz, rfl⟩
end
/-- the sources of a walk, without what they hold -/
def r0 (rs : Seqs) : List Src := rs.map fun q => ⟨q.1, q.2.1, #[]⟩
theorem itRefs_same : ∀ {r r' : List Src} (N : Nat), r.length = r'.length → itRefs N r = itRefs N r'
  | [], [], _, _ => rfl
  | [], _ :: _, _, h => by cases h
  | _ :: _, [], _, h => by cases h
  | _ :: r, _ :: r', N, h => by
    show Value.ref N :: itRefs (N + 1) r = Value.ref N :: itRefs (N + 1) r'
    rw [itRefs_same (r := r) (r' := r') (N + 1) (by simpa using h)]
/-- the cells of a zip at work -/
structure CZ (h : Heap) (N : Nat) (rs : Seqs) (i : Nat) : Prop where
  z : ∃ v f, IsZipV h (N + rs.length + 2) (N + rs.length) (N + rs.length + 1) v f ∧ (v = .none ∨ ∃ T : Nat, v = rawInt T)
  ti : IsTupA h (N + rs.length) (itRefs N (r0 rs)).toArray
  to : ∃ vs, IsTupA h (N + rs.length + 1) vs ∧ vs.size = rs.length
  its : ∀ (j : Nat) q, rs[j]? = some q → ItAt q.1 h (N + j) q.2.1 i
theorem CZ.an {h : Heap} {N : Nat} {rs : Seqs} {i : Nat} {r : List Src} (c : CZ h N rs i) (e0 : r.length = rs.length) (e2 : ∀ S ∈ r, SqAt S.kd h S.a S.its) (e3 : ∀ (j : Nat) S q, r[j]? = some S → rs[j]? = some q → S.kd = q.1 ∧ S.a = q.2.1) : ZAn h N r i := by
  refine ⟨by rw [e0]; exact c.z, by rw [e0, itRefs_same N (r' := r0 rs) (by rw [e0]; simp [r0])]; exact c.ti, by rw [e0]; exact c.to, fun j S hj => ?_⟩
  have hjl : j < rs.length := by rw [← e0]; exact (List.getElem?_eq_some_iff.mp hj).1
  have hq : rs[j]? = some rs[j] := List.getElem?_eq_getElem hjl
  obtain ⟨k1, k2⟩ := e3 j S _ hj hq
  rw [k1, k2]
  refine ⟨c.its j _ hq, ?_⟩
  have := e2 S (List.mem_of_getElem? hj)
  rw [k1, k2] at this
  exact this
theorem ZAn.cz {h : Heap} {N : Nat} {rs : Seqs} {i : Nat} {r : List Src} (c : ZAn h N r i) (e0 : r.length = rs.length) (e3 : ∀ (j : Nat) S q, r[j]? = some S → rs[j]? = some q → S.kd = q.1 ∧ S.a = q.2.1) : CZ h N rs i := by
  refine ⟨by rw [← e0]; exact c.z, by rw [← e0, itRefs_same N (r' := r) (by rw [e0]; simp [r0])]; exact c.ti, by rw [← e0]; exact c.to, fun j q hj => ?_⟩
  have hjl : j < r.length := by rw [e0]; exact (List.getElem?_eq_some_iff.mp hj).1
  have hS : r[j]? = some r[j] := List.getElem?_eq_getElem hjl
  obtain ⟨k1, k2⟩ := e3 j _ q hS hj
  have := (c.its j _ hS).1
  rw [k1, k2] at this
  exact this
def cellsZ (N n : Nat) : List Addr := (List.range (n + 3)).map fun j => N + j
theorem mem_cellsZ {N n c : Nat} : c ∈ cellsZ N n ↔ N ≤ c ∧ c < N + n + 3 := by
  unfold cellsZ
  rw [List.mem_map]
  constructor
  · rintro ⟨j, hj, rfl⟩
    have := List.mem_range.mp hj
    omega
  · intro h
    exact ⟨c - N, List.mem_range.mpr (by omega), by omega⟩
section
variable {X : Cx} {e : Expr} {p sp_ pos tp : Pos} {x : Str}
end
end Dn
namespace Dn
open PySem PySem.Spec PyProof.Rows L2
open Evl (Ex fresh_back)
section
variable {X : Cx} {tg tg1 e iter iter1 elt : Expr} {pos : Pos} {ifs ifs1 : List Expr} {scope : Scope}
end
end Dn
set_option maxHeartbeats 1000000
namespace Dn
open PySem PySem.Spec PyProof.Rows L2
open Evl (Ex fresh_back)
section
variable {X : Cx} {a b e tg : Expr} {p pos : Pos}
end
end Dn
set_option maxHeartbeats 1000000
namespace Dn
open PySem PySem.Spec PyProof.Rows L2
open Evl (Ex fresh_back)
abbrev PT := List Nat × List Nat
def p0 (n : Nat) : PT := (List.range n, (List.range n).map fun i => n - i)
section
variable {X : Cx} {tg e : Expr} {p pos : Pos} {te : TE}
end
end Dn
set_option maxHeartbeats 1000000
namespace Dn
open PySem PySem.Spec PyProof.Rows L2
open Evl (Ex fresh_back)
section
variable {X : Cx} {o e : Expr} {apos cpos : Pos} {to : TE} {t : TA}
end
structure ImpsP (mg : Str → Option Value) : Prop extends Imps mg where
  perm : mg "permutations" = some (.type "itertools.permutations")
end Dn
set_option maxHeartbeats 4000000
namespace Dn
open PySem PySem.Spec PyProof.Rows L2 PySem.W PySem.Calls
open Evl (Ex fresh_back)
/-- the value at b is the key -/
def KAt (H : Hp) (k : NestedKey) (b : Addr) : Prop := noT k = true ∧ k.depth ≤ 8 ∧ Rp H (.ref b) k.data
theorem KAt.mono {G H : Hp} (e : Ex G H) {k : NestedKey} {b : Addr} (h : KAt G k b) : KAt H k b := ⟨h.1, h.2.1, h.2.2.mono e⟩
section
variable {X : Cx} {pins : List (Addr × Obj)} {σ : L2.St} {H : Hp} {s : Shared} {a : Addr} {A : Around} {E : Value → Shared → Prop}
mutual
theorem nested_of (I : Inv X pins σ H s) : ∀ (k : NestedKey) {v : V} {u : Value}, noT k = true → Rp H v k.data → RelV v u → NestedIs s.heap k u
  | .none, v, u, _, r, q => by
    have r : Rp H v .none := r
    cases r
    obtain rfl : u = Value.none := q
    exact .none
  | .num i, v, u, _, r, q => by
    have e := Rp.inv_int r
    subst e
    obtain ⟨t, rfl⟩ := q
    exact .int i t
  | .text x, v, u, h, _, _ => by simp [noT] at h
  | .tup ks, v, u, h, r, q => by
    obtain ⟨p, vs, rfl, hp, ra⟩ := Rp.inv_tup r
    obtain rfl : u = Value.ref p := q
    obtain ⟨its, rv, pl, hz⟩ := I.tuple (hp.sq (Ex.refl H))
    obtain ⟨o, ho, hc, n, hd⟩ : ∃ o, s.heap.get? p = some o ∧ o.cls = .type "tuple" ∧ ∃ n, o.data = .seq its.toArray n := pl
    exact .tup ho hc hd (by simpa using nesteds_of I ks (by simpa [noT] using h) ra rv)
theorem nesteds_of (I : Inv X pins σ H s) : ∀ (ks : List NestedKey) {vs : List V} {us : List Value}, noTs ks = true → RpAll H vs (NestedKey.datas ks) → Vals vs us → NestedAll s.heap ks us
  | [], vs, us, _, r, q => by
    have r : RpAll H vs [] := r
    cases r
    cases q
    exact .nil
  | k :: ks, vs, us, h, r, q => by
    rw [noTs, Bool.and_eq_true] at h
    have r : RpAll H vs (k.data :: NestedKey.datas ks) := r
    cases r with
    | cons r1 r2 =>
      cases q with
      | cons q1 q2 => exact .cons (nested_of I k h.1 r1 q1) (nesteds_of I ks h.2 r2 q2)
end
theorem KAt.is (I : Inv X pins σ H s) {k : NestedKey} {b : Addr} (h : KAt H k b) : (nestedKind X.prog X.w).is s.heap k b := ⟨nested_of I k h.1 h.2.2 rfl, h.2.1⟩
end
section
variable {X : Cx} {pins : List (Addr × Obj)} {σ : L2.St} {H : Hp} {s : Shared} {a : Addr} {A : Around} {E : Value → Shared → Prop}
end
end Dn
set_option maxHeartbeats 4000000
namespace Dn
open PySem PySem.Spec PyProof.Rows L2 PySem.W PySem.Calls
open Evl (Ex fresh_back)
section
variable {P : Addr → Prop} {bs : Bs} {G H : Hp} {σ : L2.St} {env : DEnv} {N : Addr → Prop}
end
section
variable {X : Cx} {x : Str} {e k o i : Expr} {pos pos' : Pos} {td ty tv : TE}
end
end Dn
set_option maxHeartbeats 1000000
namespace Dn
open PySem PySem.Spec PyProof.Rows L2 PySem.W PySem.Calls
open Evl (Ex fresh_back)
section
variable {P : Program} {w : World} {A : Around} {s : Shared} {E : Value → Shared → Prop}
end
section
variable {X : Cx}
end
end Dn
set_option maxHeartbeats 1000000
namespace Dn
open PySem PySem.Spec PyProof.Rows L2
open Evl (Ex fresh_back)
section
variable {X : Cx}
end
section
variable {X : Cx} {x : Str} {e k : Expr} {pos tpos : Pos}
end
end Dn
namespace Dn
open PySem PySem.Spec PyProof.Rows L2
open Evl (Ex fresh_back)
section
variable {X : Cx}
end
end Dn
namespace Dn
open PySem PySem.Spec PyProof.Rows L2
open Evl (Ex fresh_back)
section
variable {X : Cx} {a b c e : Expr} {pos : Pos}
end
end Dn
set_option maxHeartbeats 4000000
namespace Dn
open PySem PySem.Spec PyProof.Rows L2
open Evl (Ex fresh_back)
section
variable {prog : Program} {w : World} {A : Around} {E : Value → Shared → Prop} {s : Shared}
structure ZZ (h : Heap) (N : Nat) (r : List Src) (M : Nat) (S : Src) (i : Nat) : Prop where
  inner : ZAn h N r i
  z : ∃ v f, IsZipV h (M + 3) (M + 1) (M + 2) v f ∧ (v = .none ∨ ∃ T : Nat, v = rawInt T)
  ti : IsTupA h (M + 1) #[.ref (N + r.length + 2), .ref M]
  to : ∃ vs, IsTupA h (M + 2) vs ∧ vs.size = 2
  it : ItAt S.kd h M S.a i ∧ SqAt S.kd h S.a S.its
end
end Dn
set_option maxHeartbeats 4000000
namespace Dn
open PySem PySem.Spec PyProof.Rows L2
open Evl (Ex fresh_back)
section
variable {prog : Program} {w : World} {A : Around} {E : Value → Shared → Prop} {s : Shared}
end
end Dn
set_option maxHeartbeats 4000000
namespace Dn
open PySem PySem.Spec PyProof.Rows L2
open Evl (Ex fresh_back)
section
variable {prog : Program} {w : World} {A : Around} {E : Value → Shared → Prop} {s : Shared}
def hI (h : Heap) (S : Src) : Heap := h.push (itO S.kd S.a)
def hTI (h : Heap) (S : Src) (z1 : Addr) : Heap := (hI h S).push { cls := .type "tuple", data := .seq #[.ref z1, .ref h.objs.size] }
def hTO (h : Heap) (S : Src) (z1 : Addr) : Heap := (hTI h S z1).push { cls := .type "tuple", data := .seq #[.none, .none] }
end
end Dn
set_option maxHeartbeats 4000000
namespace Dn
open PySem PySem.Spec PyProof.Rows L2
open Evl (Ex fresh_back)
section
variable {X : Cx} {pins : List (Addr × Obj)} {σ : L2.St} {H : Hp} {s : Shared} {h' : Heap}
end
section
variable {prog : Program} {w : World} {A : Around} {E : Value → Shared → Prop} {s : Shared}
end
/-- the cells of the two zips at work -/
structure CY (h : Heap) (N : Nat) (rs : Seqs) (M : Nat) (ke : Bool) (b : Addr) (i : Nat) : Prop where
  inner : CZ h N rs i
  z : ∃ v f, IsZipV h (M + 3) (M + 1) (M + 2) v f ∧ (v = .none ∨ ∃ T : Nat, v = rawInt T)
  ti : IsTupA h (M + 1) #[.ref (N + rs.length + 2), .ref M]
  to : ∃ vs, IsTupA h (M + 2) vs ∧ vs.size = 2
  it : ItAt ke h M b i
theorem CZ.keep {h h' : Heap} {N : Nat} {rs : Seqs} {i : Nat} (c : CZ h N rs i) (k : ∀ b, b ∈ cellsZ N rs.length → ∀ o, h.get? b = some o → h'.get? b = some o) : CZ h' N rs i := by
  refine ⟨?_, k _ (mem_cellsZ.mpr (by omega)) _ c.ti, ?_, fun j q hq => ?_⟩
  · obtain ⟨v, f, h1, h2⟩ := c.z
    exact ⟨v, f, k _ (mem_cellsZ.mpr (by omega)) _ h1, h2⟩
  · obtain ⟨vs, h1, h2⟩ := c.to
    exact ⟨vs, k _ (mem_cellsZ.mpr (by omega)) _ h1, h2⟩
  · have := (List.getElem?_eq_some_iff.mp hq).1
    exact (c.its j q hq).at fun o e => k _ (mem_cellsZ.mpr (by omega)) o e
theorem ZZ.cy {h : Heap} {N : Nat} {rs : Seqs} {M : Nat} {S : Src} {i : Nat} {r : List Src} (c : ZZ h N r M S i) (e0 : r.length = rs.length) (e3 : ∀ (j : Nat) S q, r[j]? = some S → rs[j]? = some q → S.kd = q.1 ∧ S.a = q.2.1) : CY h N rs M S.kd S.a i :=
  ⟨c.inner.cz e0 e3, c.z, by rw [← e0]; exact c.ti, c.to, c.it.1⟩
theorem HoS.some {H : Hp} {a : Addr} {kd : Bool} {xs : List V} (h : HoS H a kd xs) : ∃ u, H a = some u := by
  cases kd with
  | true => exact ⟨_, h⟩
  | false =>
    obtain ⟨o, _, e⟩ : TupS H a xs := h
    exact ⟨_, e⟩
end Dn
set_option maxHeartbeats 4000000
namespace Dn
open PySem PySem.Spec PyProof.Rows L2
open Evl (Ex fresh_back)
section
variable {X : Cx} {e e2 : Expr} {p p' sp_ pos pos' tpos : Pos} {elts : List Expr} {kk : Nat} {F : Mo D} {F2 : Mo (List D)}
end
end Dn
set_option maxHeartbeats 1000000
namespace HT
open PySem PySem.Spec PyProof.Rows L2
section
variable {prog : Program} {w : World} {A : Around} {E : Value → Shared → Prop} {s : Shared}
end
end HT
namespace Dn
open PySem PySem.Spec PyProof.Rows L2
section
variable {X : Cx}
end
end Dn
set_option maxHeartbeats 1000000
namespace Dn
open PySem PySem.Spec PyProof.Rows L2
open Evl (Ex fresh_back)
section
variable {X : Cx} {a b c : Expr} {pos : Pos}
end
end Dn
set_option maxHeartbeats 4000000
namespace Dn
open PySem PySem.Spec PyProof.Rows L2 PySem.W PySem.Calls
open Evl (Ex fresh_back)
section
variable {X : Cx} {o i e f : Expr} {pos apos cpos : Pos} {td ty tx tk tv : TE}
end
section
variable {X : Cx} {x : Str} {k f : Expr} {p1 apos cpos : Pos}
end
end Dn
set_option maxHeartbeats 4000000
namespace Dn
open PySem PySem.Spec PyProof.Rows L2 PySem.W PySem.Calls
open Evl (Ex fresh_back)
section
variable {X : Cx} {pins : List (Addr × Obj)} {σ : L2.St} {H : Hp} {s : Shared} {a : Addr} {o : Obj} {rows : List NRow}
end
section
variable {X : Cx} {tg e : Expr} {td : TE}
end
section
variable {X : Cx} {o i : Expr} {pos : Pos} {td ty : TE}
end
section
variable {X : Cx}
end
end Dn
set_option maxHeartbeats 4000000
namespace Dn
open PySem PySem.Spec PyProof.Rows L2 PySem.W PySem.Calls
abbrev mkD (m : List Int) : D := .tuple (m.map PyData.int)
/-- v is a pair whose first thing reads as marks -/
def MarkAt (h : Heap) (v : Value) (m : List Int) : Prop := ∃ (b : Addr) (o : Obj) (x y : Value) (n : Nat) (as : List Addr), v = .ref b ∧ h.get? b = some o ∧ o.cls = .type "tuple" ∧ o.data = .seq #[x, y] n ∧ Reads h x (mkD m) as
theorem alike_mk (m m' : List Int) : alike (mkD m) (mkD m') = true := by
  show alike (.tuple _) (.tuple _) = true
  rw [alike]
  exact alike_ints m m'
theorem mkD_inj {m m' : List Int} (h : mkD m = mkD m') : m = m' := by
  injection h with h
  exact (List.map_inj_right fun x y e => by injection e).mp h
theorem MarkAt.inj {h : Heap} {v : Value} {m m' : List Int} (a : MarkAt h v m) (b : MarkAt h v m') : m = m' := by
  obtain ⟨b1, o1, x1, y1, n1, as1, rfl, g1, _, d1, r1⟩ := a
  obtain ⟨b2, o2, x2, y2, n2, as2, e, g2, _, d2, r2⟩ := b
  cases e
  rw [g1] at g2
  cases g2
  rw [d1] at d2
  have e3 : (#[x1, y1] : Array Value) = #[x2, y2] := by injection d2
  have e4 : x1 = x2 := by
    have := congrArg (·[0]?) e3
    simpa using this
  subst e4
  exact mkD_inj (alike_unique _ _ _ _ _ (alike_mk m m') r1 r2)
theorem eqv_mk (m m' : List Int) : PyData.eqv (mkD m) (mkD m') = decide (m = m') := by
  show PyData.eqv (.tuple _) (.tuple _) = _
  rw [PyData.eqv]
  exact eqvAll_map (α := Int) m m'
theorem depth_mk (m : List Int) : (mkD m).depth ≤ 1 := by
  show PyData.depth (.tuple _) ≤ 1
  rw [PyData.depth, depth_ints]
  exact Nat.le_refl _
noncomputable def markKind (h : Heap) (vs : List Value) : PyProof.Rows.KeyKind where
  toKeyOrd := listOrd itemOrd
  keyOf v := open Classical in if q : ∃ m, v ∈ vs ∧ MarkAt h v m then some (keyToks (mkD q.choose)) else none
  dflt := ([] : List (Int ⊕ List Nat))
theorem markKind_some {h : Heap} {vs : List Value} {v : Value} {m : List Int} (hv : v ∈ vs) (r : MarkAt h v m) : (markKind h vs).keyOf v = some (keyToks (mkD m)) := by
  have q : ∃ m, v ∈ vs ∧ MarkAt h v m := ⟨m, hv, r⟩
  have e : (markKind h vs).keyOf v = some (keyToks (mkD q.choose)) := by
    show (open Classical in if q : ∃ m, v ∈ vs ∧ MarkAt h v m then some (keyToks (mkD q.choose)) else none) = _
    rw [dif_pos q]
  rw [e, q.choose_spec.2.inj r]
theorem markKind_inv {h : Heap} {vs : List Value} {v : Value} {k : List (Int ⊕ List Nat)} (e : (markKind h vs).keyOf v = some k) : ∃ m, v ∈ vs ∧ MarkAt h v m ∧ k = keyToks (mkD m) := by
  by_cases q : ∃ m, v ∈ vs ∧ MarkAt h v m
  · have e' : (markKind h vs).keyOf v = some (keyToks (mkD q.choose)) := by
      show (open Classical in if q : ∃ m, v ∈ vs ∧ MarkAt h v m then some (keyToks (mkD q.choose)) else none) = _
      rw [dif_pos q]
    rw [e'] at e
    exact ⟨_, q.choose_spec.1, q.choose_spec.2, (Option.some.inj e).symm⟩
  · have e' : (markKind h vs).keyOf v = none := by
      show (open Classical in if q : ∃ m, v ∈ vs ∧ MarkAt h v m then some (keyToks (mkD q.choose)) else none) = _
      rw [dif_neg q]
      rfl
    rw [e'] at e
    exact absurd e (by simp)
section
variable {prog : Program} {w : World} {A : Around} {s : Shared}
theorem mark_firsts {h : Heap} : ∀ {vs : List Value}, (∀ v ∈ vs, ∃ m, MarkAt h v m) → ∃ fs, KatTups h vs fs ∧ fs.length = vs.length ∧ ∀ f ∈ fs, ∃ m as, Reads h f (mkD m) as
  | [], _ => ⟨[], KatTups.nil, rfl, fun f hf => absurd hf (by simp)⟩
  | v :: vs, hm => by
    obtain ⟨fs, h1, h2, h3⟩ := mark_firsts (vs := vs) fun u hu => hm u (by simp [hu])
    obtain ⟨m, b, o, x, y, n, as, rfl, g, c, d, r⟩ := hm v (by simp)
    refine ⟨x :: fs, KatTups.cons g c d rfl h1, by simp [h2], fun f hf => ?_⟩
    rcases List.mem_cons.mp hf with rfl | hf
    · exact ⟨m, as, r⟩
    · exact h3 f hf
/-- pairs with unlike marks can be sorted -/
theorem SortsAt.marks {vs : List Value} (hm : ∀ v ∈ vs, ∃ m, MarkAt s.heap v m) (hun : ∀ v ∈ vs, ∀ v' ∈ vs, ∀ m, MarkAt s.heap v m → MarkAt s.heap v' m → v = v') (hu : A.units + 1 < cLine) : SortsAt prog w A s (markKind s.heap vs) vs := by
  refine ⟨fun v hv => ?_, tuples' false, ?_, fun h2 E Q hq => ?_⟩
  · obtain ⟨m, r⟩ := hm v hv
    exact ⟨_, markKind_some hv r⟩
  · intro E x y a b Q ha hb hq
    obtain ⟨m, hx, rx, rfl⟩ := markKind_inv ha
    obtain ⟨m', hy, ry, rfl⟩ := markKind_inv hb
    have hq' : Q (dataLt (mkD m) (mkD m')) s := hq
    have room : A.units + min (mkD m).depth (mkD m').depth < cLine := by
      have := depth_mk m
      have : min (mkD m).depth (mkD m').depth ≤ 1 := Nat.le_trans (Nat.min_le_left _ _) this
      omega
    have same : m = m' → x = y := fun e => hun x hx y hy m rx (by rw [e]; exact ry)
    obtain ⟨bx, ox, x1, x2, nx, asx, rfl, gx, cx, dx, rrx⟩ := rx
    obtain ⟨by', oy, y1, y2, ny, asy, rfl, gy, cy, dy, rry⟩ := ry
    refine kat_lt gx dx gy dy ?_
    show KatLex prog w A false (decide (2 < 2)) Q [(x1, y1), (x2, y2)] 0 s
    refine kat_cons (eqAt_alike _ _ A s _ _ _ _ rrx rry (alike_mk m m') room prog w _ _ ?_)
    rw [eqv_mk]
    by_cases e : m = m'
    · have exy := same e
      cases exy
      rw [gx] at gy
      cases gy
      rw [dx] at dy
      have e3 : (#[x1, x2] : Array Value) = #[y1, y2] := by injection dy
      have e4 : x2 = y2 := by
        have := congrArg (·[1]?) e3
        simpa using this
      subst e4
      subst e
      rw [decide_eq_true rfl]
      refine kat_yes (kat_cons (PySem.SeqAt.EqAt.same x2 prog w _ _ (kat_yes (kat_nil ?_))))
      have : dataLt (mkD m) (mkD m) = false := lex_irrefl _
      rw [this] at hq'
      exact hq'
    · rw [decide_eq_false e]
      exact kat_no (oneLt_alike (fun hb => by simp at hb) rrx rry (alike_mk m m') (fun z => by cases z) room hq')
  · obtain ⟨fs, t1, t2, t3⟩ := mark_firsts hm
    refine kat_kind (T := Value.type "tuple") t1 (by omega) (fun f hf => ?_) (beq_self_eq_true _) ?_
    · obtain ⟨m, as, r⟩ := t3 f hf
      exact looks_reads r
    · exact hq
end
end Dn
set_option maxHeartbeats 4000000
namespace Dn
open PySem PySem.Spec PyProof.Rows L2 PySem.W PySem.Calls
open Evl (Ex fresh_back)
theorem MarkAt.keep {h h' : Heap} {v : Value} {m : List Int} (a : MarkAt h v m) (k : ∀ b o, h.get? b = some o → h'.get? b = some o) : MarkAt h' v m := by
  obtain ⟨b1, o1, x1, y1, n1, as1, rfl, g1, c1, d1, r1⟩ := a
  exact ⟨b1, o1, x1, y1, n1, as1, rfl, k _ _ g1, c1, d1, PyProof.Rows.Reads.keeps k r1⟩
section
variable {X : Cx}
end
end Dn
set_option maxHeartbeats 4000000
namespace Dn
open PySem PySem.Spec PyProof.Rows L2 PySem.W PySem.Calls
open Evl (Ex fresh_back)
section
variable {X : Cx}
end
end Dn
set_option maxHeartbeats 2000000
namespace Dn
open PySem PySem.Spec PyProof.Rows L2 HotX
section
variable {prog : Program} {w : World} {A : Around} {E : Value → Shared → Prop} {s : Shared} {x1 : Addr}
theorem hot_keep {h h' : Heap} (hot : HotAt A x1 h) (k : ∀ o, h.get? x1 = some o → h'.get? x1 = some o) : HotAt A x1 h' := by
  obtain ⟨hh, o, vs, e, d, c⟩ := hot
  exact ⟨hh, o, vs, k o e, d, c⟩
theorem hot_lt {h : Heap} (hot : HotAt A x1 h) : x1 < h.objs.size := by
  obtain ⟨_, o, _, e, _⟩ := hot
  exact Heap.lt_size e
/-- a list's iterator at its end -/
theorem nextOf_list_hot {it l : Addr} {i : Nat} {items : Array Value} {Q : Value → Shared → Prop} (hot : HotAt A x1 s.heap) (hx1 : x1 ≠ it) (hit : s.heap.IsListIter it l i) (hl : s.heap.IsList l items) (hx : items[i]? = none)
    (hE : ∀ h' e, Heap.ExtBut it s.heap h' → (∃ o, h'.get? e = some o ∧ o.cls = .type "StopIteration") → E (.ref e) { s with heap := h' }) :
    wpAny (model prog w) A (Builtin.SmallTypes.nextOf (.ref it)) Q E s := by
  obtain ⟨o, ho, hc, hd⟩ := id hit
  obtain ⟨ol, hol, _, nl, hdl⟩ := hl
  obtain ⟨hh, o1, vs1, h1, d1, c1⟩ := hot
  unfold Builtin.SmallTypes.nextOf
  refine wpAny_bind (wpAny_callSpecial?_slot (name := Str.ofString "__next__") hit.typeIs slot_listiter_next (wpAny_call_entry slot_listiter_next hit.typeIs entry_listiter_next ?_ (args_listiter_next _)))
  show wpAny _ _ (field (.ref it) 0 >>= _) _ _ s
  refine wpAny_bind (wpAny_field ho hd (x := .ref l) rfl ?_)
  show wpAny _ _ (if (Value.ref l == Value.none) = true then _ else _) _ _ s
  rw [if_neg (show ¬ ((Value.ref l == Value.none) = true) from Bool.false_ne_true)]
  show wpAny _ _ (field (.ref it) 1 >>= _) _ _ s
  refine wpAny_bind (wpAny_field ho hd (x := .int i 0) rfl ?_)
  show wpAny _ _ (seqItems? (.ref l) >>= _) _ _ s
  refine wpAny_bind (wpAny_seqItems hol hdl ?_)
  simp only [Int.toNat_natCast, hx]
  refine wpAny_bind (wpAny_rule (wpAny_bind (wpAny_setField ho hd (by simp) ?_)))
  show wpAny _ _ (newExc (.type "StopIteration") [] >>= _) _ _ _
  refine wpAny_bind ?_
  simp only [newExc, newTuple]
  refine wpAny_bind (wpAny_newObj_type ?_ (by size_fits))
  refine wpAny_bind (m := firstArgMember _ _) (wpAny_of_eq (a := Value.none) (by first | rfl | (simp only [firstArgMember]; rfl)) ?_)
  refine wpAny_newObj_type ?_ (by size_fits)
  have g1 : ∀ f, (s.heap.update it f).get? x1 = some o1 := fun f => by rw [Heap.get?_update_other _ _ hx1.symm]; exact h1
  refine raiseNew_hot (x1 := x1) ⟨hh, o1, vs1, Heap.get?_push_of_some _ (Heap.get?_push_of_some _ (g1 _)), d1, c1⟩ (Nat.ne_of_lt (Heap.lt_size (Heap.get?_push_of_some _ (g1 _)))) (Heap.get?_push_size _ rfl) rfl (by first | (simp; done) | (simp; omega) | (simp only [Array.size_append]; simp; omega)) ?_
  refine hE _ _ (fun b ob hb e => ?_) ⟨_, Heap.get?_update_self _ (Heap.get?_push_size _ rfl) rfl, rfl⟩
  have e1 : ∀ f, (s.heap.update it f).get? b = some ob := fun f => by rw [Heap.get?_update_other _ _ (Ne.symm hb)]; exact e
  rw [Heap.get?_update_other _ _ (Nat.ne_of_gt (Heap.lt_size (Heap.get?_push_of_some _ (e1 _))))]
  exact Heap.get?_push_of_some _ (Heap.get?_push_of_some _ (e1 _))
theorem draws_listH (hh : A.handled = some (.ref x1)) (it l : Addr) (hne : l ≠ it) (hx1 : x1 ≠ it) (items : Array Value) :
    Draws prog w A it [it, l, x1] items.size (fun i v => items[i]? = some v) (fun i h => h.IsListIter it l i ∧ h.IsList l items ∧ HotAt A x1 h) where
  live := fun _ _ st => let ⟨o, ho, _⟩ := st.1; ⟨o, ho⟩
  frame := fun _ _ _ st hk => ⟨st.1.at fun o e => hk it (by simp) o e, st.2.1.at fun o e => hk l (by simp) o e, hot_keep st.2.2 fun o e => hk x1 (by simp) o e⟩
  item := fun i s Q E hi st hQ => by
    refine wpAny_nextOf_list_item st.1 st.2.1 (x := items[i]) (by simp [hi]) fun h' hit' hs' => ?_
    exact hQ _ h' s.toks (by simp [hi]) ⟨hit', st.2.1.extBut hs'.extBut hne, hot_keep st.2.2 fun o e => hs'.extBut x1 o hx1 e⟩ hs'
  done := fun s Q E st hE => nextOf_list_hot st.2.2 hx1 st.1 st.2.1 (by simp) hE
/-- a tuple's iterator at its end -/
theorem next_tuple_hot {it t : Addr} {i : Nat} {items : Array Value} {Q : Option Value → Shared → Prop} (hot : HotAt A x1 s.heap) (hx1 : x1 ≠ it) (hit : IsTupIter s.heap it t i) (ht : IsTup s.heap t items) (hx : items[i]? = none)
    (hQ : ∀ h', Heap.ExtBut it s.heap h' → Q none { s with heap := h' }) : wpAny (model prog w) A (pyNext (.ref it)) Q E s := by
  obtain ⟨o, ho, hc, hd⟩ := id hit
  obtain ⟨ol, hol, _, nl, hdl⟩ := ht
  obtain ⟨hh, o1, vs1, h1, d1, c1⟩ := hot
  unfold pyNext
  refine wpAny_bind (wpAny_attempt (wpAny_callSpecial?_slot (name := Str.ofString "__next__") hit.typeIs slot_tupleiter_next (wpAny_call_entry slot_tupleiter_next hit.typeIs entry_tupleiter_next ?_ (args_tupleiter_next _))))
  show wpAny _ _ (field (.ref it) 0 >>= _) _ _ s
  refine wpAny_bind (wpAny_field ho hd (x := .ref t) rfl ?_)
  show wpAny _ _ (if (Value.ref t == Value.none) = true then _ else _) _ _ s
  rw [if_neg (show ¬ ((Value.ref t == Value.none) = true) from Bool.false_ne_true)]
  show wpAny _ _ (field (.ref it) 1 >>= _) _ _ s
  refine wpAny_bind (wpAny_field ho hd (x := .int i 0) rfl ?_)
  show wpAny _ _ (seqItems? (.ref t) >>= _) _ _ s
  refine wpAny_bind (wpAny_seqItems hol hdl ?_)
  simp only [Int.toNat_natCast, hx]
  refine wpAny_bind (wpAny_rule (wpAny_bind (wpAny_setField ho hd (by simp) ?_)))
  show wpAny _ _ (newExc (.type "StopIteration") [] >>= _) _ _ _
  refine wpAny_bind ?_
  simp only [newExc, newTuple]
  refine wpAny_bind (wpAny_newObj_type ?_ (by size_fits))
  refine wpAny_bind (m := firstArgMember _ _) (wpAny_of_eq (a := Value.none) (by first | rfl | (simp only [firstArgMember]; rfl)) ?_)
  refine wpAny_newObj_type ?_ (by size_fits)
  have g1 : ∀ f, (s.heap.update it f).get? x1 = some o1 := fun f => by rw [Heap.get?_update_other _ _ hx1.symm]; exact h1
  refine raiseNew_hot (x1 := x1) ⟨hh, o1, vs1, Heap.get?_push_of_some _ (Heap.get?_push_of_some _ (g1 _)), d1, c1⟩ (Nat.ne_of_lt (Heap.lt_size (Heap.get?_push_of_some _ (g1 _)))) (Heap.get?_push_size _ rfl) rfl (by first | (simp; done) | (simp; omega) | (simp only [Array.size_append]; simp; omega)) ?_
  refine wpAny_bind (wpAny_isInstance (T := "StopIteration") (b := true) ⟨_, Heap.get?_update_self _ (Heap.get?_push_size _ rfl) rfl, rfl⟩ isSubtype_stop ?_)
  refine wpAny_pure (hQ _ fun b ob hb e => ?_)
  have e1 : ∀ f, (s.heap.update it f).get? b = some ob := fun f => by rw [Heap.get?_update_other _ _ (Ne.symm hb)]; exact e
  rw [Heap.get?_update_other _ _ (Nat.ne_of_gt (Heap.lt_size (Heap.get?_push_of_some _ (e1 _))))]
  exact Heap.get?_push_of_some _ (Heap.get?_push_of_some _ (e1 _))
theorem unpack_hot {t : Addr} {items : Array Value} {targets : List (Bool × (Value → Sem Unit))} {Q : Unit → Shared → Prop} (hot : HotAt A x1 s.heap) (ht : IsTup s.heap t items) (hn : targets.length = items.size) (hstar : targets.findIdx? (·.1) = none)
    (h : ∀ h', Heap.ExtBut s.heap.objs.size s.heap h' → wpAny (model prog w) A (assignInOrder (targets.map (·.2)) items.toList) Q E { s with heap := h' }) : wpAny (model prog w) A (unpack (.ref t) targets) Q E s := by
  have hlt : t ≠ s.heap.objs.size := by obtain ⟨o, ho, _⟩ := ht; exact Nat.ne_of_lt (Heap.lt_size ho)
  have hl1 := hot_lt hot
  unfold unpack
  rw [hn, hstar]
  refine wpAny_bind (wpAny_holding ?_)
  unfold unpackItems
  refine wpAny_bind ?_
  unfold notIterableAtAll
  refine wpAny_bind (wpAny_specialOf ht.typeIs slot_tuple_iter.lookup (wpAny_pure ?_))
  simp only [Bool.false_eq_true, if_false]
  refine wpAny_bind (wpAny_holding (iter_tuple ht ?_))
  refine wpAny_bind (wpAny_holding (draw_tuple hlt items.size 0 _ _ ⟨_, Heap.get?_push_size _ rfl, rfl, rfl⟩ (ht.push _) (by omega) fun h₁ hit₁ hs₁ => ?_))
  rw [List.drop_zero, List.take_of_length_le (by simp), if_neg (by simp)]
  have hot1 : HotAt A x1 h₁ := hot_keep hot fun o e => hs₁.extBut x1 o (Nat.ne_of_lt hl1) (Heap.get?_push_of_some _ e)
  refine wpAny_bind (wpAny_holding (next_tuple_hot hot1 (Nat.ne_of_lt hl1) hit₁ ((ht.push _).extBut hs₁.extBut hlt) (by simp) fun h₂ he₂ => ?_))
  simp only [Option.isSome_none, Bool.false_eq_true, if_false]
  exact wpAny_pure (h h₂ fun b o hb e => he₂ b o hb (hs₁.extBut b o hb (Heap.get?_push_of_some _ e)))
end
/-- where one stands, the exception at x1 is handled; it stood ahead of the entry -/
structure HotCx (X : Cx) (x1 : Addr) : Prop where
  hd : X.A.handled = some (.ref x1)
  ob : ∃ (o : Obj) (vs : Array Value), X.s_0.heap.get? x1 = some o ∧ o.data = .fields vs ∧ vs[2]? = some .none
  n0 : X.H_0 x1 = none
  nf : x1 ∉ X.fs
  nx : x1 ∉ X.ex
theorem HotCx.keep {X : Cx} {x1 : Addr} (c : HotCx X x1) {pins : List (Addr × Obj)} {σ : L2.St} {H : Hp} {s : Shared} (I : Inv X pins σ H s) {o : Obj} (e : X.s_0.heap.get? x1 = some o) : s.heap.get? x1 = some o ∧ H x1 = none :=
  ⟨I.base.keep x1 o e c.n0 c.nf c.nx, I.base.free x1 o e c.n0 c.nx⟩
theorem HotCx.hot {X : Cx} {x1 : Addr} (c : HotCx X x1) {pins : List (Addr × Obj)} {σ : L2.St} {H : Hp} {s : Shared} (I : Inv X pins σ H s) : HotAt X.A x1 s.heap := by
  obtain ⟨o, vs, e, d, n⟩ := c.ob
  exact ⟨c.hd, o, vs, (c.keep I e).1, d, n⟩
section
variable {X : Cx} {pos : Pos} {x1 : Addr}
/-- (a, b, ..) = a tuple of that length -/
theorem pg_tupH {es : List Expr} {k : Nat} {t : TGs} {n : Nat} (hc : HotCx X x1) (h : PGs X es t)
    (hn : (assignEach es X.env).length = n := by rfl) (hst : (assignEach es X.env).findIdx? (·.1) = none := by rfl) : PG X (.Tuple es k pos) (L2.gTup X.K n t) := by
  refine ⟨fun pins s σ H v u Q I r hw => ?_⟩
  obtain ⟨a, xs, e1, hq, hl, hw⟩ := hw
  subst e1
  cases r
  obtain ⟨its, rv, ht, hz⟩ := I.tuple hq
  rw [assign_Tuple]
  refine wpAny_bind (wpAny_standAt (unpack_hot (hc.hot I) ht (by simp [hn, ← hl, rv.length]) hst fun h' hx => ?_))
  have I1 : Inv X pins σ H { s with heap := h' } := I.kept (t' := s.toks) fun b o e => hx b o (Nat.ne_of_lt (Heap.lt_size e)) e
  exact h.run pins _ σ H xs _ Q I1 (by simpa using rv) hw
end
end Dn
set_option maxHeartbeats 4000000
namespace Dn
open PySem PySem.Spec PyProof.Rows L2 HotX
/-- as Turn, where the exception at x1 is handled -/
structure TurnH (P : Program) (w : World) (K : PySem.W.Frag) (tg : Expr) (J : It) (fp : List Addr) (it : Addr) (tn : Nat → Heap → Prop) (x1 : Addr) : Prop where
  mem : it ∈ fp
  obj : ∀ i h, tn i h → ∀ b ∈ fp, ∃ o, h.get? b = some o ∧ ∀ v, o.data ≠ .cell v
  keep : ∀ i h h', tn i h → (∀ b ∈ fp, ∀ o, h.get? b = some o → h'.get? b = some o) → tn i h'
  item : ∀ (X : Cx), X.prog = P → X.w = w → X.K = K → HotCx X x1 → ∀ (i : Nat) (pins : List (Addr × Obj)) (s : Shared) (σ : L2.St) (H : Hp) (E : Value → Shared → Prop), Inv X pins σ H s → (∀ b ∈ fp, FpOk X pins H b ∧ b ≠ x1) → tn i s.heap → J.go i H →
    wpAny (model P w) X.A (pyNext (.ref it)) (fun r s1 => ∃ u, r = some u ∧
      wpAny (model P w) X.A (letOwnedTupleGo tg (.ref it) u) (fun _ s2 => ∃ x H', Inv X pins σ H' s2 ∧ RelV x u ∧ J.yld i H x H' ∧ tn (i + 1) s2.heap ∧ ∀ b ∈ fp, H' b = none) E s1) E s
  done : ∀ (X : Cx), X.prog = P → X.w = w → X.K = K → HotCx X x1 → ∀ (i : Nat) (pins : List (Addr × Obj)) (s : Shared) (σ : L2.St) (H : Hp) (E : Value → Shared → Prop), Inv X pins σ H s → (∀ b ∈ fp, FpOk X pins H b ∧ b ≠ x1) → tn i s.heap → J.stop i H →
    wpAny (model P w) X.A (pyNext (.ref it)) (fun r s1 => r = none ∧ Inv X pins σ H s1) E s
  self : ∀ (A : Around) (i : Nat) (s : Shared) (Q : Value → Shared → Prop) (E : Value → Shared → Prop), tn i s.heap → Q (.ref it) s → wpAny (model P w) A (pyIter (.ref it)) Q E s
def zipJH (a b : Addr) (xs ys : List V) : It :=
  ⟨fun i H => (H a = some (.lst xs) ∧ H b = some (.lst ys)) ∧ i < min xs.length ys.length, fun i H v H' => ∃ T, v = .ref T ∧ H T = none ∧ H' = upd H T (.tup [xs.getD i .non, ys.getD i .non]), fun i H => (H a = some (.lst xs) ∧ H b = some (.lst ys)) ∧ min xs.length ys.length ≤ i⟩
section
variable {P : Program} {w : World} {K : PySem.W.Frag} {elts : List Expr} {kk : Nat} {tpos : Pos} {a b N x1 : Addr} {xs ys : List V}
abbrev zipC (a b N : Addr) (xs ys : List V) : Nat → Heap → Prop := fun i h => i ≤ min xs.length ys.length ∧ IsZip h (N + 4) (N + 2) (N + 3) .none ∧ IsTupOf2 h (N + 2) (.ref N) (.ref (N + 1)) ∧ (∃ x y, IsTupOf2 h (N + 3) x y) ∧ h.IsListIter N a i ∧ h.IsListIter (N + 1) b i
abbrev zipF (N : Addr) : List Addr := [N + 4, N + 2, N + 3, N, N + 1]
abbrev zipW (N : Addr) : List Addr := [N + 4, N + 3, N, N + 1]
theorem zip_go (ha : a < N) (hb : b < N) (hx : x1 < N) {X : Cx} (hot : HotCx X x1) {i : Nat} {pins : List (Addr × Obj)} {σ : L2.St} {H : Hp} {s : Shared} (I : Inv X pins σ H s) (st : zipC a b N xs ys i s.heap) (h1 : H a = some (.lst xs)) (h2 : H b = some (.lst ys)) :
    ∃ (fp : List Addr) (Y : Nat → Heap → Value → Heap → Prop) (St : Nat → Heap → Prop), GoesN X.prog X.w X.A (.Tuple elts kk tpos) (N + 4) fp (zipW N) (min xs.length ys.length) Y St ∧ St i s.heap ∧ (∀ i h, i ≤ min xs.length ys.length → St i h → zipC a b N xs ys i h) ∧
      ∀ v h, Y i s.heap v h → ∃ (T : Addr) (us : List Value), v = .ref T ∧ s.heap.objs.size ≤ T ∧ h.IsTuple T us.toArray ∧ Vals [xs.getD i .non, ys.getD i .non] us := by
  obtain ⟨its, r1, p1, _⟩ := I.list (.of h1)
  obtain ⟨its2, r2, p2, _⟩ := I.list (.of h2)
  obtain ⟨hi, hz, hTI, hTO, l1, l2⟩ := st
  have sep : ZipSep2 (N + 4) (N + 2) (N + 3) N (N + 1) (N :: [a, x1]) ((N + 1) :: [b, x1]) := zip_sep2 (fun c hc => by
    simp at hc
    rcases hc with z | z <;> rw [z] <;> assumption) (fun c hc => by
    simp at hc
    rcases hc with z | z <;> rw [z] <;> assumption)
  have hA : X.A.in1.handled = some (.ref x1) := hot.hd
  have hAt : HotAt X.A.in1 x1 s.heap := hot.hot I
  have G := GoesN.zip2 (prog := X.prog) (w := X.w) (A := X.A) (elts := elts) (x1 := kk) (pos := tpos) sep (draws_listH (A := X.A.in1) hA N a (Nat.ne_of_lt ha) (Nat.ne_of_lt hx) its.toArray) (draws_listH (A := X.A.in1) hA (N + 1) b (Nat.ne_of_lt (Nat.lt_succ_of_lt hb)) (Nat.ne_of_lt (Nat.lt_succ_of_lt hx)) its2.toArray)
  have en : min its.toArray.size its2.toArray.size = min xs.length ys.length := by simp [r1.length, r2.length]
  rw [en] at G
  refine ⟨_, _, _, G, ⟨hz, hTI, hTO, ⟨l1, p1.isList, hAt⟩, l2, p2.isList, hAt⟩, fun j h hj st => ⟨hj, st.1, st.2.1, st.2.2.1, st.2.2.2.1.1, st.2.2.2.2.1⟩, fun v h hY => ?_⟩
  obtain ⟨T, x, y, rfl, hT, hx, hy, ht⟩ := hY
  exact ⟨T, [x, y], rfl, hT, ht, .cons (vals_getD r1 hx) (.cons (vals_getD r2 hy) .nil)⟩
theorem zip_live {i : Nat} {h : Heap} (st : zipC a b N xs ys i h) : ∀ c ∈ zipF N, ∃ o, h.get? c = some o ∧ ∀ v, o.data ≠ .cell v := fun c hc => by
  obtain ⟨_, hz, hTI, ⟨x, y, hTO⟩, ⟨o1, e1, _, d1⟩, ⟨o2, e2, _, d2⟩⟩ := st
  have e' : c = N + 4 ∨ c = N + 2 ∨ c = N + 3 ∨ c = N ∨ c = N + 1 := by simpa using hc
  rcases e' with q | q | q | q | q
  · rw [q]; exact ⟨_, hz, fun v q => nomatch q⟩
  · rw [q]; exact ⟨_, hTI, fun v q => nomatch q⟩
  · rw [q]; exact ⟨_, hTO, fun v q => nomatch q⟩
  · rw [q]; exact ⟨o1, e1, fun v z => by rw [d1] at z; cases z⟩
  · rw [q]; exact ⟨o2, e2, fun v z => by rw [d2] at z; cases z⟩
theorem zip_wr {N b : Addr} (h : b ∈ zipW N) : b ∈ zipF N := by
  simp at h ⊢
  rcases h with q | q | q | q <;> simp [q]
theorem turn_zipH (ha : a < N) (hb : b < N) (hx : x1 < N) : TurnH P w K (.Tuple elts kk tpos) (zipJH a b xs ys) (zipF N) (N + 4) (zipC a b N xs ys) x1 where
  mem := by simp
  obj := fun i h st => zip_live st
  keep := fun i h h' st k => by
    obtain ⟨hi, hz, hTI, ⟨x, y, hTO⟩, h1, h2⟩ := st
    exact ⟨hi, k _ (by simp) _ hz, k _ (by simp) _ hTI, ⟨x, y, k _ (by simp) _ hTO⟩, h1.at fun o q => k _ (by simp) o q, h2.at fun o q => k _ (by simp) o q⟩
  item := by
    intro X hP hw hK hot i pins s σ H E I0 hf st hg
    subst hP hw hK
    obtain ⟨fp, Y, St, gn, st0, back, hy⟩ := zip_go (elts := elts) (kk := kk) (tpos := tpos) ha hb hx hot I0 st hg.1.1 hg.1.2
    refine wpAny_mono (gn.goes i s (fun v s2 => ∃ x H', Inv X pins σ H' s2 ∧ RelV x v ∧ (∃ T, x = V.ref T ∧ H T = none ∧ H' = upd H T (.tup [xs.getD i .non, ys.getD i .non])) ∧ zipC a b N xs ys (i + 1) s2.heap ∧ ∀ b ∈ zipF N, H' b = none) E hg.2 st0 fun v h' tk hY st1 hk _ => ?_) (fun r s1 ⟨v, e, h⟩ => ⟨v, e, wpAny_mono h (fun _ _ q => q) fun _ _ z => z⟩) fun _ _ z => z
    obtain ⟨T, us, rfl, hT, ht, hv⟩ := hy v h' hY
    have new : ObjOk X.prog X.w (upd H T (.tup [xs.getD i .non, ys.getD i .non])) h' T (.tup [xs.getD i .non, ys.getD i .non]) := ⟨by show 2 ≤ sizeLine; decide, us, hv, ht⟩
    have I1 : Inv X pins σ (upd H T (.tup [xs.getD i .non, ys.getD i .non])) { s with heap := h', toks := tk } := I0.turnedNew (ch := zipF N) (fun b o hb e => hk b o (fun z => hb (zip_wr z)) e) (fun b hb => (hf b hb).1) hT new
    refine ⟨.ref T, _, I1, rfl, ⟨T, rfl, I0.hok.fresh hT, rfl⟩, back _ _ hg.2 st1, fun b hb => ?_⟩
    obtain ⟨o, ho, _⟩ := zip_live st b hb
    rw [upd_ne (Nat.ne_of_lt (Nat.lt_of_lt_of_le (Heap.lt_size ho) hT))]
    exact (hf b hb).1.1
  done := by
    intro X hP hw hK hot i pins s σ H E I0 hf st hg
    subst hP hw hK
    obtain ⟨fp, Y, St, gn, st0, back, hy⟩ := zip_go (elts := elts) (kk := kk) (tpos := tpos) ha hb hx hot I0 st hg.1.1 hg.1.2
    have e : i = min xs.length ys.length := Nat.le_antisymm st.1 hg.2
    subst e
    exact gn.stops s _ E st0 fun h' tk hk _ => I0.turnedL (t' := tk) (ch := zipF N) (fun b o hb e => hk b o (fun z => hb (zip_wr z)) e) (fun b hb => (hf b hb).1)
  self := fun A i s Q E st h => wpAny_pyIter_zip st.2.1 h
end
/-- an iterator has come, where the exception at x1 is handled -/
def PIEH (X : Cx) (x1 : Addr) (pins : List (Addr × Obj)) (σ : L2.St) (tg : Expr) (R : It → Hp → Prop) (itv : Value) (s2 : Shared) : Prop :=
  ∃ (it : Addr) (fp : List Addr) (tn : Nat → Heap → Prop) (J : It) (H' : Hp), itv = .ref it ∧ Inv X pins σ H' s2 ∧ TurnH X.prog X.w X.K tg J fp it tn x1 ∧ tn 0 s2.heap ∧ (∀ b ∈ fp, FpOk X pins H' b ∧ b ≠ x1) ∧ R J H'
structure PIH (X : Cx) (x1 : Addr) (tg iter : Expr) (wi : TI) : Prop where
  run : ∀ (pins : List (Addr × Obj)) (s : Shared) (σ : L2.St) (H : Hp) (R : It → Hp → Prop), Inv X pins σ H s → wi σ H R →
    wpAny (model X.prog X.w) X.A (eval iter X.env) (fun v s1 => wpAny (model X.prog X.w) X.A (pyIter v) (PIEH X x1 pins σ tg R) X.xe s1) X.xe s
section
variable {X : Cx} {pos : Pos} {x1 : Addr}
theorem pi_zipH {e e2 : Expr} {p tpos : Pos} {elts : List Expr} {kk : Nat} {t : TA} (hot : HotCx X x1) (hg : Gl X "zip") (hm : X.mg "zip" = none) (ha : PA X [e, e2] t)
    (hs : starEach [e, e2] X.env = (false, eval e X.env) :: starEach [e2] X.env := by rfl) (hpl : (backTo pos (starEach [e2] X.env)).any (·.1) = false := by rfl) :
    PIH X x1 (.Tuple elts kk tpos) (.Call (.Name "zip" p) [e, e2] [] pos) (fun σ H R => t σ H fun vs H1 => ∃ a b xs ys, vs = [.ref a, .ref b] ∧ H1 a = some (.lst xs) ∧ H1 b = some (.lst ys) ∧ R (zipJH a b xs ys) H1) := by
  refine ⟨fun pins s σ H R I h => ?_⟩
  refine Call_ (ld_blt I hg hm PyProof.Rows.boot_zip (PyProof.Rows.callWith_type1 (thn (ha.run pos pins s σ H _ I h) fun us s1 ⟨vs, H1, I1, r1, q1⟩ => ?_) hs hpl))
  obtain ⟨a, b, xs, ys, ex, hx, hy, q1⟩ := q1
  subst ex
  cases r1 with
  | cons r rr =>
    cases rr with
    | cons r' rr =>
      cases rr
      cases r
      cases r'
      obtain ⟨its, rv, p1, _⟩ := I1.list (.of hx)
      obtain ⟨its2, rv2, p2, _⟩ := I1.list (.of hy)
      have hl1 := hot_lt (hot.hot I1)
      refine zip_begins2 (begins_list a its.toArray) (begins_list b its2.toArray) p1.isList p2.isList fun h' hz hTI hTO o1 o2 hsz hk => wpAny_pyIter_zip hz ?_
      have I2 : Inv X pins σ H1 { s1 with heap := h' } := I1.kept (t' := s1.toks) hk
      have fresh5 : ∀ c, c ∈ zipF s1.heap.objs.size → FpOk X pins H1 c ∧ c ≠ x1 := fun c hcm => by
        have e' : c = s1.heap.objs.size + 4 ∨ c = s1.heap.objs.size + 2 ∨ c = s1.heap.objs.size + 3 ∨ c = s1.heap.objs.size ∨ c = s1.heap.objs.size + 1 := by simpa using hcm
        have hle : s1.heap.objs.size ≤ c := by
          rcases e' with z | z | z | z | z
          · rw [z]; exact Nat.le_add_right _ _
          · rw [z]; exact Nat.le_add_right _ _
          · rw [z]; exact Nat.le_add_right _ _
          · rw [z]; exact Nat.le_refl _
          · rw [z]; exact Nat.le_add_right _ _
        exact ⟨I1.fpOk hle (I1.hok.fresh hle), Nat.ne_of_gt (Nat.lt_of_lt_of_le hl1 hle)⟩
      exact ⟨_, _, _, _, H1, rfl, I2, turn_zipH p1.lt p2.lt hl1, ⟨Nat.zero_le _, hz, hTI, ⟨_, _, hTO⟩, ⟨_, o1, rfl, rfl⟩, ⟨_, o2, rfl, rfl⟩⟩, fresh5, q1⟩
end
end Dn
set_option maxHeartbeats 4000000
namespace Dn
open PySem PySem.Spec PyProof.Rows L2 HotX
section
variable {X : Cx} {x1 : Addr}
theorem HotCx.nofr (c : HotCx X x1) {pins : List (Addr × Obj)} {σ : L2.St} {H : Hp} {s : Shared} (I : Inv X pins σ H s) : x1 ∉ frs X.stack ∧ x1 ≠ X.env.locals := by
  obtain ⟨o, vs, e, _, _⟩ := c.ob
  have ne : x1 ≠ X.env.locals := Nat.ne_of_lt (Nat.lt_of_lt_of_le (Heap.lt_size e) I.ok.above)
  exact ⟨fun z => (List.mem_cons.mp (I.stkSub x1 z)).elim ne c.nf, ne⟩
/-- in a comprehension's block -/
theorem HotCx.blk (c : HotCx X x1) {pins : List (Addr × Obj)} {σ : L2.St} {H : Hp} {s : Shared} (I : Inv X pins σ H s) {scope : Scope} {cenv : Env} {fp : List Addr} (hfp : ∀ b ∈ fp, b ≠ x1) : HotCx (X.blk s H scope cenv fp) x1 := by
  obtain ⟨o, vs, e, d, n⟩ := c.ob
  obtain ⟨e', n'⟩ := c.keep I e
  exact ⟨c.hd, ⟨o, vs, e', d, n⟩, n', (c.nofr I).1, fun z => hfp x1 z rfl⟩
theorem lc_coreH {pins : List (Addr × Obj)} {s : Shared} {σ : L2.St} {H : Hp} {Q : VK} {elt tg iter : Expr} {ifs : List Expr} {scope : Scope} {own : List (Str × Nat)} {pos pos' : Pos} {wi : TI} {g : TG} {tt : TT} {te : TE} {use : Option (Value → Sem Unit)} {Qf : Value → Shared → Prop}
    (hot : HotCx X x1) (hN : X.N.Nodup) (I : Inv X pins σ H s) (hi : PIH X x1 tg iter wi) (ok : BlkOk X.N X.env.scope scope own)
    (hg : ∀ (s : Shared) (H : Hp) (C : Addr) (cl : List (Str × Addr)) (fp : List Addr), HotCx (X.blk s H scope (compEnvC scope cl C X.env) fp) x1 → PG (X.blk s H scope (compEnvC scope cl C X.env) fp) tg g)
    (ht : ∀ (s : Shared) (H : Hp) (C : Addr) (cl : List (Str × Addr)) (fp : List Addr), HotCx (X.blk s H scope (compEnvC scope cl C X.env) fp) x1 → PTs (X.blk s H scope (compEnvC scope cl C X.env) fp) ifs tt)
    (he : ∀ (s : Shared) (H : Hp) (C : Addr) (cl : List (Str × Addr)) (fp : List Addr), HotCx (X.blk s H scope (compEnvC scope cl C X.env) fp) x1 → PE (X.blk s H scope (compEnvC scope cl C X.env) fp) elt te) (hs : ∀ x, foldedSetIterable iter X.env x = pure x)
    (h : tLc wi g tt te (own.map (·.2)) σ H Q)
    (hRR : ∀ D C s' m H', Inv X pins σ H' s' → Q (.ref D) H' → s'.heap.Ns C m → FpOk X pins H' C → compPost (model X.prog X.w) X.A X.xe use Qf (.ref D) C (.ok .next) s') :
    wpAny (model X.prog X.w) X.A (comprehension (.ListComp elt [⟨tg, iter, ifs, 0⟩] scope pos) scope X.env pos' (newList []) false (eval iter X.env) use) Qf X.xe s := by
  have hfree : ∀ y ∈ scope.names, y.2 = .free → ∃ c, X.env.cells.lookup y.1 = some c := fun y hy e => (ok.free y hy e).elim (fun k => I.ok.has _ (.inl k)) fun k => I.ok.has _ (.inr k)
  refine wpAny_comprehension_free (use := use) rfl hs (closure_ok hfree) ok.kind (fun y hy e => by rw [ok.uniq y hy, e]) (thn (hi.run pins s σ H _ I h) fun xv s1 hx => thn hx fun itv s2 h2 => ?_)
  obtain ⟨it, fp, tn, J, H2, e, I2, T, st2, f2, q⟩ := h2
  subst e
  refine wpAny_newObj_type (newEnv_comp ?_) (by show 0 ≤ sizeLine; decide)
  generalize hD : s2.heap.objs.size = D
  have hDn : H2 D = none := I2.hok.fresh (Nat.le_of_eq hD)
  obtain ⟨W, ⟨m0, w0⟩, turn⟩ := q D hDn
  generalize hs3 : ({ s2 with heap := s2.heap.push { cls := .type "list", data := .seq ([] : List Value).toArray } } : Shared) = s3
  have I3 : Inv X pins σ (upd H2 D (.lst [])) s3 := by
    rw [← hs3]
    refine I2.laid (t' := s2.toks) (fun b o e => Heap.get?_push_of_some _ e) (Nat.le_of_eq hD) ⟨Nat.zero_le _, [], 0, .nil, ?_⟩
    rw [← hD]
    exact Heap.get?_push_size _ rfl
  have h3 : s3.heap = s2.heap.push { cls := .type "list", data := .seq ([] : List Value).toArray } := by rw [← hs3]
  have f3 : ∀ b ∈ fp, (FpOk X pins (upd H2 D (.lst [])) b ∧ b < s3.heap.objs.size) ∧ b ≠ x1 := fun b hb => by
    obtain ⟨o, e, _⟩ := T.obj _ _ st2 b hb
    have hlt := Heap.lt_size e
    refine ⟨⟨⟨?_, (f2 b hb).1.2⟩, by rw [h3, Heap.size_push]; exact Nat.lt_succ_of_lt hlt⟩, (f2 b hb).2⟩
    rw [upd_ne (by rw [← hD]; exact Nat.ne_of_lt hlt)]
    exact (f2 b hb).1.1
  have st3 : tn 0 s3.heap := T.keep _ _ _ st2 fun b _ o e => by rw [h3]; exact Heap.get?_push_of_some _ e
  have I4 := block_start I3 ok hN fun b hb => (f3 b hb).1
  have hotB : HotCx (X.blk s3 (upd H2 D (.lst [])) scope (compEnvC scope (cellsFrom (s3.heap.objs.size + 1) scope.names (cloFrom X.env.cells scope.names [])) s3.heap.objs.size X.env) fp) x1 := hot.blk I3 fun b hb => (f3 b hb).2
  have pg := hg s3 (upd H2 D (.lst [])) s3.heap.objs.size (cellsFrom (s3.heap.objs.size + 1) scope.names (cloFrom X.env.cells scope.names [])) fp hotB
  have pt := ht s3 (upd H2 D (.lst [])) s3.heap.objs.size (cellsFrom (s3.heap.objs.size + 1) scope.names (cloFrom X.env.cells scope.names [])) fp hotB
  have pe := he s3 (upd H2 D (.lst [])) s3.heap.objs.size (cellsFrom (s3.heap.objs.size + 1) scope.names (cloFrom X.env.cells scope.names [])) fp hotB
  show codeAny _ _ (.compStart (.ListComp elt [⟨tg, iter, ifs, 0⟩] scope pos) 0 (.ref it) (.ref D) (compEnvC scope (cellsFrom (s3.heap.objs.size + 1) scope.names (cloFrom X.env.cells scope.names [])) s3.heap.objs.size X.env)) (compPost (model X.prog X.w) X.A X.xe use Qf (.ref D) s3.heap.objs.size) { s3 with heap := pushCells (s3.heap.push { cls := .type "dict", data := .dict #[] }) scope.names }
  have nfp : ∀ b ∈ fp, (upd H2 D (.lst [])) b = none := fun b hb => (f3 b hb).1.1.1
  generalize hce : compEnvC scope (cellsFrom (s3.heap.objs.size + 1) scope.names (cloFrom X.env.cells scope.names [])) s3.heap.objs.size X.env = ce at I4 hotB pg pt pe ⊢
  have cL : ce.locals = s3.heap.objs.size := by subst hce; rfl
  generalize hH3 : upd H2 D (.lst []) = H3 at I3 I4 hotB pg pt pe w0 nfp f3
  generalize hs4 : ({ s3 with heap := pushCells (s3.heap.push { cls := .type "dict", data := .dict #[] }) scope.names } : Shared) = s4 at I4 ⊢
  have st4 : tn 0 s4.heap := T.keep _ _ _ st3 fun b _ o e => by rw [← hs4]; exact pushCells_keeps _ _ _ _ (Heap.get?_push_of_some _ e)
  have stat : ∀ {σ' : L2.St} {H' : Hp} {s' : Shared}, Inv (X.blk s3 H3 scope ce fp) [] σ' H' s' → (∀ b ∈ fp, H' b = none) → ∀ b ∈ fp, FpOk (X.blk s3 H3 scope ce fp) [] H' b ∧ b ≠ x1 := fun {σ' H' s'} I' hn b hb =>
    ⟨⟨hn b hb, (I'.ok.exf b hb).1, I'.ok.exfs b hb, .inl hb, fun x c e => (I'.ok.exf b hb).2 x c e, fun p hp => absurd (show p ∈ ([] : List (Addr × Obj)) ++ [] from hp) (by simp)⟩, (f3 b hb).2⟩
  have loop : codeAny (model X.prog X.w) X.A (.compLoop (.ListComp elt [⟨tg, iter, ifs, 0⟩] scope pos) 0 (.ref it) (.ref D) ce) (compPost (model X.prog X.w) X.A X.xe use Qf (.ref D) s3.heap.objs.size) s4 := by
    refine compLoop_any (fun n s' => ∃ i H', Inv (X.blk s3 H3 scope ce fp) [] (wipe σ (own.map (·.2))) H' s' ∧ tn i s'.heap ∧ (∀ b ∈ fp, H' b = none) ∧ W i n H') ?_ m0 ⟨0, H3, I4, st4, nfp, w0⟩
    rintro n s5 ⟨i, H5, I5, st5, n5, w5⟩
    rcases turn i n H5 w5 with ⟨stop, qq⟩ | ⟨go, Nx, hNx, step⟩
    · refine thnF (T.done (X.blk s3 H3 scope ce fp) rfl rfl rfl hotB i [] s5 _ H5 (fun _ _ => False) I5 (stat I5 n5) st5 stop) fun r s6 ⟨hr, I6⟩ => ?_
      subst hr
      have I7 : Inv X pins σ H5 s6 := I3.call' (ch := fp) I6.os I6.base I6.hok I6.bare fun b hb => ⟨(f3 b hb).1.1.2.2.2.1, (f3 b hb).1.1.2.1, (f3 b hb).1.1.2.2.2.2.1, (f3 b hb).1.1.2.2.2.2.2⟩
      have nC : H5 s3.heap.objs.size = none := by
        have z : H5 ce.locals = none := I6.free
        rw [cL] at z
        exact z
      obtain ⟨m, hn, _⟩ := I6.loc
      have hn : s6.heap.Ns ce.locals m := hn
      rw [cL] at hn
      exact hRR D s3.heap.objs.size s6 m H5 I7 qq hn (I3.fpOk (Nat.le_refl _) nC)
    · refine thnF (T.item (X.blk s3 H3 scope ce fp) rfl rfl rfl hotB i [] s5 _ H5 (fun _ _ => False) I5 (stat I5 n5) st5 go) fun r s6 ⟨u, hr, h6⟩ => ?_
      subst hr
      refine thnF h6 fun _ s7 ⟨x, H7, I7, r7, y7, st7, n7⟩ => ?_
      have I7' := I7.pinned (fun b hb => (stat I7 n7 b hb).1) (T.obj _ _ st7)
      refine thnF (pg.run _ s7 _ H7 x u _ I7' r7 (step x H7 y7)) fun _ s8 ⟨σ8, H8, I8, hw8, q8⟩ => ?_
      refine thnF (pt.run _ s8 σ8 H8 _ I8 q8) fun b s9 ⟨H9, I9, q9⟩ => ?_
      have fin : ∀ {s' : Shared} {H' : Hp}, Inv (X.blk s3 H3 scope ce fp) ([] ++ pinsAt fp s7.heap) σ8 H' s' → Nx H' → ∃ m, m < n ∧ ∃ i H', Inv (X.blk s3 H3 scope ce fp) [] (wipe σ (own.map (·.2))) H' s' ∧ tn i s'.heap ∧ (∀ b ∈ fp, H' b = none) ∧ W i m H' := fun {s' H'} I' nx => by
        obtain ⟨m', hm, w'⟩ := hNx H' nx
        have pin' : ∀ b ∈ fp, ∀ o, s7.heap.get? b = some o → s'.heap.get? b = some o ∧ H' b = none := fun b hb o e =>
          let z := I'.pin (b, o) (List.mem_append_right _ (List.mem_append_right _ (mem_pinsAt hb e)))
          ⟨z.1, z.2.1⟩
        have hl : (wipe σ (own.map (·.2))).length = σ8.length := by rw [← hw8, wipe_length]
        refine ⟨m', hm, i + 1, H', (I'.unpinned (pins := [])).weak hl (fun j v e => by rw [← hw8] at e; exact (wipe_some e).1), T.keep _ _ _ st7 fun b hb o e => (pin' b hb o e).1, fun b hb => ?_, w'⟩
        obtain ⟨o, e, _⟩ := T.obj _ _ st7 b hb
        exact (pin' b hb o e).2
      cases b with
      | false =>
        simp only [Bool.false_eq_true, if_false] at q9 ⊢
        exact fin I9 q9
      | true =>
        simp only [if_true] at q9 ⊢
        refine thnF (pe.run _ s9 σ8 H9 _ I9 q9) fun z s10 ⟨yv, H10, I10, r10, acc, hD10, hz10, nx⟩ => ?_
        exact app_ok (X := X.blk s3 H3 scope ce fp) I10 hD10 hz10 r10 fun s11 I11 => fin I11 nx
  exact codeAny_compStart_list loop (T.self X.A 0 _ _ _ st4 loop)
/-- [elt for target in iter if ..] as a value -/
theorem pe_lcH {elt tg iter : Expr} {ifs : List Expr} {scope : Scope} {own : List (Str × Nat)} {pos : Pos} {wi : TI} {g : TG} {tt : TT} {te : TE} (hot : HotCx X x1) (hN : X.N.Nodup) (hi : PIH X x1 tg iter wi) (ok : BlkOk X.N X.env.scope scope own)
    (hg : ∀ (s : Shared) (H : Hp) (C : Addr) (cl : List (Str × Addr)) (fp : List Addr), HotCx (X.blk s H scope (compEnvC scope cl C X.env) fp) x1 → PG (X.blk s H scope (compEnvC scope cl C X.env) fp) tg g)
    (ht : ∀ (s : Shared) (H : Hp) (C : Addr) (cl : List (Str × Addr)) (fp : List Addr), HotCx (X.blk s H scope (compEnvC scope cl C X.env) fp) x1 → PTs (X.blk s H scope (compEnvC scope cl C X.env) fp) ifs tt)
    (he : ∀ (s : Shared) (H : Hp) (C : Addr) (cl : List (Str × Addr)) (fp : List Addr), HotCx (X.blk s H scope (compEnvC scope cl C X.env) fp) x1 → PE (X.blk s H scope (compEnvC scope cl C X.env) fp) elt te) (hs : ∀ x, foldedSetIterable iter X.env x = pure x := by intro _; rfl) :
    PE X (.ListComp elt [⟨tg, iter, ifs, 0⟩] scope pos) (tLc wi g tt te (own.map (·.2))) := by
  refine ⟨fun pins s σ H Q I h => ?_⟩
  rw [eval_ListComp]
  refine lc_coreH hot hN I hi ok hg ht he hs h fun D C s' m H' I' q hn f => ⟨m, hn, fun h'' sb => ?_⟩
  obtain ⟨f0, f1, f2, f3, f4, f5⟩ := f
  exact ⟨.ref D, H', I'.turned (t' := s'.toks) (fun b o hb e => (sb.2 b hb).trans e) f0 f1 f3 f4 f5, rfl, q⟩
end
end Dn
set_option maxHeartbeats 4000000
namespace Dn
open PySem PySem.Spec PyProof.Rows L2 HotX L2H
def kNames : List Str := ["NoHall", "NoBook", "NoLooks", "NoRank", "NoComings", "NoComer", "NoTick", "NoNumber", "NotAlike", "NoRow", "CantBe", "NothingLeft"]
/-- the twelve refusals' classes at c, D is the k-th -/
structure KCls (K : PySem.W.Frag) (mg : Str → Option Value) (c : Nat → Addr) (D : Addr) (k : Nat) : Prop where
  exc : ExcC K D
  k12 : k < 12
  m0 : mg "NoHall" = some (.ref (c 0))
  m1 : mg "NoBook" = some (.ref (c 1))
  m2 : mg "NoLooks" = some (.ref (c 2))
  m3 : mg "NoRank" = some (.ref (c 3))
  m4 : mg "NoComings" = some (.ref (c 4))
  m5 : mg "NoComer" = some (.ref (c 5))
  m6 : mg "NoTick" = some (.ref (c 6))
  m7 : mg "NoNumber" = some (.ref (c 7))
  m8 : mg "NotAlike" = some (.ref (c 8))
  m9 : mg "NoRow" = some (.ref (c 9))
  m10 : mg "CantBe" = some (.ref (c 10))
  m11 : mg "NothingLeft" = some (.ref (c 11))
  kit : ∀ i, i < 12 → PySem.W.kitOne K (.ref D) (.ref (c i)) = some (decide (i = k))
/-- isinstance(e, C), e the pinned exception -/
def rIsK (K : PySem.W.Frag) (D a : Addr) : List V → Hp → VK → Prop := fun xs H Q => ∃ (C : Addr) (b : Bool), xs = [.ref a, .ref C] ∧ PySem.W.kitOne K (.ref D) (.ref C) = some b ∧ Q (.bl b) H
theorem call_isK {X : Cx} {D : Addr} {p : Addr × Obj} (C : ExcC X.K D) (hp : p ∈ X.pn) (hz : Zc (.ref D) none p.2) (hf : ∃ vs, p.2.data = .fields vs) : CallR X (.builtin "isinstance") (rIsK X.K D p.1) := by
  intro pins s σ H xs us Q I r h
  obtain ⟨Ca, b, rfl, e, q⟩ := h
  cases r with
  | cons rx rr =>
    cases rr with
    | cons rt rr =>
      cases rr
      cases rx
      cases rt
      obtain ⟨hget, _⟩ := I.pin p (List.mem_append_left _ hp)
      obtain ⟨vs, hv⟩ := hf
      obtain ⟨a, oe⟩ := p
      have J : PySem.W.InstAt s.heap a oe D none := by
        obtain ⟨oc, od, oda, osl⟩ := oe
        obtain ⟨h1, h2⟩ := hz
        dsimp only at h1 h2 hv
        subst h1 h2 hv
        exact ⟨hget, rfl, rfl, trivial⟩
      exact PySem.W.kia_one (PySem.W.handS_kitx_exc C.hg C.hk C.hs C.hd C.ha C.hn C.ht C.hm) I.kIn J e (fun z => nomatch z) fun tk => ⟨.bl b, H, I.kept (t' := tk) fun _ _ z => z, rfl, q⟩
/-- in such a def's body the exception is handled -/
theorem hotCx_cxH {CX : CXT} {P : Program} {w : World} {K : PySem.W.Frag} {mg : Str → Option Value} {base : Heap} {N : List Str} {qual : Str} {scope : Scope} {f : Addr} {cd : Value} {A : Around} {outer : List Env} {s : Shared} {H : Hp} {E : XK} {p : Addr × Obj} (hot : Hot1 A p) (pin : PinOk outer H s p) :
    HotCx (cxH CX P w K mg base N qual scope f cd A outer s H E p) p.1 := by
  obtain ⟨hh, vs, d, n⟩ := hot
  exact ⟨hh, ⟨p.2, vs, pin.get, d, n⟩, pin.free, pin.nofs, fun z => by cases z⟩
/-- the words whose test is so -/
def kAcc (k : Nat) : Nat → List V
  | 0 => []
  | i + 1 => kAcc k i ++ (if i = k then [.str (kNames.getD i "")] else [])
theorem kAcc_12 {k : Nat} (hk : k < 12) : kAcc k 12 = [V.str (kNames.getD k "")] := by
  have : k = 0 ∨ k = 1 ∨ k = 2 ∨ k = 3 ∨ k = 4 ∨ k = 5 ∨ k = 6 ∨ k = 7 ∨ k = 8 ∨ k = 9 ∨ k = 10 ∨ k = 11 := by omega
  rcases this with h | h | h | h | h | h | h | h | h | h | h | h <;> subst h <;> rfl
theorem kAcc_len (k : Nat) : ∀ i, (kAcc k i).length ≤ i
  | 0 => Nat.le_refl _
  | i + 1 => by
    have := kAcc_len k i
    unfold kAcc
    rw [List.length_append]
    split <;> simp <;> omega
abbrev kBools (k : Nat) : List V := (List.range 12).map fun i => V.bl (decide (i = k))
abbrev kWords : List V := kNames.map V.str
end Dn
set_option maxHeartbeats 0
namespace Dn
open PySem PySem.Spec PyProof.Rows L2
def d_is_tuple : He.DefD := ⟨("is_tuple", none), "is_tuple", "is_tuple", defArgs (topS 20), defBody (topS 20), defScope (topS 20), [], []⟩
def d_is_whole : He.DefD := ⟨("is_whole", none), "is_whole", "is_whole", defArgs (topS 17), defBody (topS 17), defScope (topS 17), [], []⟩
def d__are_desks : He.DefD := ⟨("_are_desks", none), "_are_desks", "_are_desks", defArgs (topS 50), defBody (topS 50), defScope (topS 50), [], []⟩
def d_are_whole : He.DefD := ⟨("are_whole", none), "are_whole", "are_whole", defArgs (topS 18), defBody (topS 18), defScope (topS 18), [], []⟩
def d__are_ranks : He.DefD := ⟨("_are_ranks", none), "_are_ranks", "_are_ranks", defArgs (topS 49), defBody (topS 49), defScope (topS 49), [], []⟩
def d_is_hall : He.DefD := ⟨("is_hall", none), "is_hall", "is_hall", defArgs (topS 39), defBody (topS 39), defScope (topS 39), [], []⟩
def d__law_well : He.DefD := ⟨("_law_well", none), "_law_well", "_law_well", defArgs (topS 140), defBody (topS 140), defScope (topS 140), [], []⟩
def d__law_bags : He.DefD := ⟨("_law_bags", none), "_law_bags", "_law_bags", defArgs (topS 142), defBody (topS 142), defScope (topS 142), [], []⟩
def d__law_same : He.DefD := ⟨("_law_same", none), "_law_same", "_law_same", defArgs (topS 143), defBody (topS 143), defScope (topS 143), [], []⟩
def d__law_take : He.DefD := ⟨("_law_take", none), "_law_take", "_law_take", defArgs (topS 141), defBody (topS 141), defScope (topS 141), [], []⟩
def d__law_some : He.DefD := ⟨("_law_some", none), "_law_some", "_law_some", defArgs (topS 148), defBody (topS 148), defScope (topS 148), [], []⟩
def d__law_hall : He.DefD := ⟨("_law_hall", none), "_law_hall", "_law_hall", defArgs (topS 149), defBody (topS 149), defScope (topS 149), [], []⟩
def d__law_in : He.DefD := ⟨("_law_in", none), "_law_in", "_law_in", defArgs (topS 144), defBody (topS 144), defScope (topS 144), [], []⟩
def d__law_good : He.DefD := ⟨("_law_good", none), "_law_good", "_law_good", defArgs (topS 150), defBody (topS 150), defScope (topS 150), [], []⟩
def d_need_hall : He.DefD := ⟨("need_hall", none), "need_hall", "need_hall", defArgs (topS 43), defBody (topS 43), defScope (topS 43), [], []⟩
def d_need_written : He.DefD := ⟨("need_written", none), "need_written", "need_written", defArgs (topS 46), defBody (topS 46), defScope (topS 46), [], []⟩
def d_all_turns : He.DefD := ⟨("all_turns", none), "all_turns", "all_turns", defArgs (topS 28), defBody (topS 28), defScope (topS 28), [], []⟩
def d_is_book : He.DefD := ⟨("is_book", none), "is_book", "is_book", defArgs (topS 40), defBody (topS 40), defScope (topS 40), [], []⟩
def d_are_looks : He.DefD := ⟨("are_looks", none), "are_looks", "are_looks", defArgs (topS 41), defBody (topS 41), defScope (topS 41), [], []⟩
def d_run : He.DefD := ⟨("run", none), "run", "run", defArgs (topS 118), defBody (topS 118), defScope (topS 118), [], []⟩
def d_is_story : He.DefD := ⟨("is_story", none), "is_story", "is_story", defArgs (topS 119), defBody (topS 119), defScope (topS 119), [], []⟩
def d_stairs : He.DefD := ⟨("stairs", none), "stairs", "stairs", defArgs (topS 129), defBody (topS 129), defScope (topS 129), [], []⟩
def d_can_be : He.DefD := ⟨("can_be", none), "can_be", "can_be", defArgs (topS 130), defBody (topS 130), defScope (topS 130), [], []⟩
def d_first_bar : He.DefD := ⟨("first_bar", none), "first_bar", "first_bar", defArgs (topS 131), defBody (topS 131), defScope (topS 131), [], []⟩
def d_bar : He.DefD := ⟨("bar", none), "bar", "bar", defArgs (topS 132), defBody (topS 132), defScope (topS 132), [], []⟩
def d_is_bar : He.DefD := ⟨("is_bar", none), "is_bar", "is_bar", defArgs (topS 133), defBody (topS 133), defScope (topS 133), [], []⟩
def d_how_many : He.DefD := ⟨("how_many", none), "how_many", "how_many", defArgs (topS 111), defBody (topS 111), defScope (topS 111), [], []⟩
def d_how_many_of : He.DefD := ⟨("how_many_of", none), "how_many_of", "how_many_of", defArgs (topS 112), defBody (topS 112), defScope (topS 112), [], []⟩
def d_row_at : He.DefD := ⟨("row_at", none), "row_at", "row_at", defArgs (topS 113), defBody (topS 113), defScope (topS 113), [], []⟩
def d_number_of : He.DefD := ⟨("number_of", none), "number_of", "number_of", defArgs (topS 114), defBody (topS 114), defScope (topS 114), [], []⟩
def d_came : He.DefD := ⟨("came", none), "came", "came", defArgs (topS 67), defBody (topS 67), defScope (topS 67), [], []⟩
def d_taken : He.DefD := ⟨("taken", none), "taken", "taken", defArgs (topS 68), defBody (topS 68), defScope (topS 68), [], []⟩
def d_waits : He.DefD := ⟨("waits", none), "waits", "waits", defArgs (topS 69), defBody (topS 69), defScope (topS 69), [], []⟩
def d_waiting : He.DefD := ⟨("waiting", none), "waiting", "waiting", defArgs (topS 70), defBody (topS 70), defScope (topS 70), [], []⟩
def d_because : He.DefD := ⟨("because", none), "because", "because", defArgs (topS 71), defBody (topS 71), defScope (topS 71), [], []⟩
def d_nexts : He.DefD := ⟨("nexts", none), "nexts", "nexts", defArgs (topS 97), defBody (topS 97), defScope (topS 97), [], []⟩
def d_best_look : He.DefD := ⟨("best_look", none), "best_look", "best_look", defArgs (topS 98), defBody (topS 98), defScope (topS 98), [], []⟩
def d_mends : He.DefD := ⟨("mends", none), "mends", "mends", defArgs (topS 90), defBody (topS 90), defScope (topS 90), [], []⟩
def d_stays : He.DefD := ⟨("stays", none), "stays", "stays", defArgs (topS 91), defBody (topS 91), defScope (topS 91), [], []⟩
def d_orders : He.DefD := ⟨("orders", none), "orders", "orders", defArgs (topS 104), defBody (topS 104), defScope (topS 104), [], []⟩
def d_must_be_ahead : He.DefD := ⟨("must_be_ahead", none), "must_be_ahead", "must_be_ahead", defArgs (topS 105), defBody (topS 105), defScope (topS 105), [], []⟩
def d_first_taken : He.DefD := ⟨("first_taken", none), "first_taken", "first_taken", defArgs (topS 77), defBody (topS 77), defScope (topS 77), [], []⟩
def d__law_odd : He.DefD := ⟨("_law_odd", none), "_law_odd", "_law_odd", defArgs (topS 151), defBody (topS 151), defScope (topS 151), [], []⟩
def d__law_kind : He.DefD := ⟨("_law_kind", none), "_law_kind", "_law_kind", defArgs (topS 145), defBody (topS 145), defScope (topS 145), [], []⟩
def d__law_tried : He.DefD := ⟨("_law_tried", none), "_law_tried", "_law_tried", defArgs (topS 146), defBody (topS 146), defScope (topS 146), [], []⟩
def d__law_refused : He.DefD := ⟨("_law_refused", none), "_law_refused", "_law_refused", defArgs (topS 147), defBody (topS 147), defScope (topS 147), [], []⟩
def d__law_doors : He.DefD := ⟨("_law_doors", none), "_law_doors", "_law_doors", defArgs (topS 152), defBody (topS 152), defScope (topS 152), [], []⟩
def d_law : He.DefD := ⟨("law", none), "law", "law", defArgs (topS 153), defBody (topS 153), defScope (topS 153), [], []⟩
def d_Kept_init : He.DefD := ⟨("Kept", some "__init__"), "__init__", "Kept.__init__", defArgs (inClass (topS 87) 0), defBody (inClass (topS 87) 0), defScope (inClass (topS 87) 0), [], []⟩
def fnD : List He.DefD := [d_is_tuple, d_is_whole, d__are_desks, d_are_whole, d__are_ranks, d_is_hall, d__law_well, d__law_bags, d__law_same, d__law_take, d__law_some, d__law_hall, d__law_in, d__law_good, d_need_hall, d_need_written, d_all_turns, d_is_book, d_are_looks, d_run, d_is_story, d_stairs, d_can_be, d_first_bar, d_bar, d_is_bar, d_how_many, d_how_many_of, d_row_at, d_number_of, d_came, d_taken, d_waits, d_waiting, d_because, d_nexts, d_best_look, d_mends, d_stays, d_orders, d_must_be_ahead, d_first_taken, d__law_odd, d__law_kind, d__law_tried, d__law_refused, d__law_doors, d_law, d_Kept_init]
def faD : List He.Fa := [.glo "is_tuple", .glo "is_whole", .glo "_are_desks", .glo "are_whole", .glo "_are_ranks", .glo "is_hall", .glo "_law_well", .glo "_law_bags", .glo "_law_same", .glo "_law_take", .glo "_law_some", .glo "_law_hall", .glo "_law_in", .glo "_law_good", .glo "need_hall", .glo "need_written", .glo "all_turns", .glo "is_book", .glo "are_looks", .glo "run", .glo "is_story", .glo "stairs", .glo "can_be", .glo "first_bar", .glo "bar", .glo "is_bar", .glo "how_many", .glo "how_many_of", .glo "row_at", .glo "number_of", .glo "came", .glo "taken", .glo "waits", .glo "waiting", .glo "because", .glo "nexts", .glo "best_look", .glo "mends", .glo "stays", .glo "orders", .glo "must_be_ahead", .glo "first_taken", .glo "_law_odd", .glo "_law_kind", .glo "_law_tried", .glo "_law_refused", .glo "_law_doors", .glo "law", .int "DESKS_AT_MOST" (3), .int "RANKS_AT_MOST" (4), .int "STAY_AT_MOST" (10), .int "COME_AT_MOST" (5), .free "len", .free "sum", .free "all", .free "any", .free "tuple", .free "list", .free "sorted", .free "max", .free "min", .free "range", .free "zip", .free "enumerate", .free "reversed", .free "set", .free "isinstance", .free "int", .free "bool", .free "str", .free "type", .glo "NoHall", .glo "NoBook", .glo "NoLooks", .glo "NoRank", .glo "NoComings", .glo "NoComer", .glo "NoTick", .glo "NoNumber", .glo "NotAlike", .glo "NoRow", .glo "CantBe", .glo "NothingLeft", .glo "HallError", .glo "Kept", .exc "NoHall", .exm "NoHall" "HallError" true, .mkr "Kept"]
def noLst (K : PySem.W.Frag) : Bool := K.all fun p => !(p.2.cls == .type "list")
def impB (K : PySem.W.Frag) : Bool := He.eqO (PySem.W.nsIn K mainGlobals "accumulate") (some (some (.type "itertools.accumulate"))) && He.eqO (PySem.W.nsIn K mainGlobals "permutations") (some (some (.type "itertools.permutations")))
def kitB (K : PySem.W.Frag) : Bool := (List.range 12).all fun i => decide (PySem.W.kitOne K (.ref (He.ga K "NoHall")) (.ref (He.ga K (kNames.getD i ""))) = some (decide (i = 0)))
def excB (K : PySem.W.Frag) (D : Addr) : Bool := He.eqO (PySem.W.findIn K (.ref D) "__getattribute__") (some (some (.builtin "BaseException.__getattribute__"))) && (He.eqO (PySem.W.findIn K (.ref D) "__getattr__") (some none) && (decide (PySem.W.subIn K (.ref D) (.type "BaseException") = some true) &&
  (PySem.W.hasDictIn K D && (He.eqO (PySem.W.findIn K (.ref D) "__class__") (some (some (.builtin "object.__class__"))) && (He.eqO (PySem.W.specialIn K (.builtin "object.__class__") "__get__") (some (some (.builtin "getset_descriptor.__get__"))) && (decide (PySem.W.takesIn K (.builtin "object.__class__") = some true) && decide (PySem.W.mroIn K D (.type "object") = some true)))))))
def exK (K : PySem.W.Frag) : Bool := noLst K && (impB K && (kitB K && excB K (He.ga K "NoHall")))
def tfD : List He.Defn := [("_law_doors", none)]
abbrev RW : PySem.W.OpenRow := PySem.W.OpenLaw.row PySem.Challenge.rw_hallback_k01_what_are_halls
/-- two steps from the module's names, and the maker of `Kept` with its code -/
def asK (g : Addr → Option Obj) : List Addr := He.asD g 2 ++ (He.ma (He.frT g (He.asD g 2)) (He.ga (He.frT g (He.asD g 2)) "Kept") "__init__" :: (match g (He.ma (He.frT g (He.asD g 2)) (He.ga (He.frT g (He.asD g 2)) "Kept") "__init__") with
  | some ⟨_, _, .func fd, _⟩ => (match fd.code with
    | .ref c => [c]
    | _ => [])
  | _ => []))
def obsK (g : Addr → Option Obj) : He.AlX := (He.obsT faD fnD [] (He.frT g (asK g)), exK (He.frT g (asK g)) && He.tabsB g tfD (He.frT g (asK g)))
theorem saysK_of {as : List Addr} {w : World} {h : Heap} (e : ((He.obsT faD fnD [] (He.frT h.get? as), exK (He.frT h.get? as) && He.tabsB h.get? tfD (He.frT h.get? as)) : He.AlX) = He.valX fnD [] w) : He.SaysX faD fnD [] tfD exK w h (He.frT h.get? as) := by
  have z1 : He.obsT faD fnD [] (He.frT h.get? as) = He.valT fnD [] w := (Prod.mk.inj e).1
  obtain ⟨z2, z3⟩ := Bool.and_eq_true_iff.mp (show (exK (He.frT h.get? as) && He.tabsB h.get? tfD (He.frT h.get? as)) = true from (Prod.mk.inj e).2)
  have tab : ∀ p ∈ tfD, PySem.W.codeHdIn (He.frT h.get? as) (He.cT (He.frT h.get? as) p).1 (He.cT (He.frT h.get? as) p).2 = true ∧ ∃ o, h.get? (He.cT (He.frT h.get? as) p).2 = some o ∧ He.emptyTab o = true := fun p hp => by
    obtain ⟨y1, y2⟩ := Bool.and_eq_true_iff.mp (List.all_eq_true.mp z3 p hp)
    cases q : h.get? (He.cT (He.frT h.get? as) p).2 with
    | none =>
      rw [q] at y2
      exact absurd y2 (by decide)
    | some o =>
      rw [q] at y2
      exact ⟨y1, o, rfl, y2⟩
  refine ⟨z1, z2, fun p hp => (tab p hp).1, fun p hp => ?_, fun p hp => ?_⟩
  · obtain ⟨_, o, q, y⟩ := tab p hp
    exact He.frT_none q y
  · obtain ⟨_, o, q, y⟩ := tab p hp
    rw [q, He.emptyTab_eq y]
def hk : PySem.W.Hook where
  α := He.AlX
  obs := fun s => obsK s.heap.get?
  val := fun w => He.valX fnD [] w
  says := fun w h => ∃ K : PySem.W.Frag, K.In h ∧ He.SaysX faD fnD [] tfD exK w h K
  of := fun _ _ e => ⟨_, He.frT_in, saysK_of e⟩
  keeps := fun _ _ _ ⟨K, hK, c⟩ k => ⟨K, PySem.W.Frag.In.keeps hK k, ⟨c.t, c.more, c.hd, c.out, fun p hp => k _ _ (c.empty p hp)⟩⟩
def ob (s : PySem.W.SharedT) : He.AlX := obsK (HandSHeadRun.getT s)
theorem ob_eq (s : PySem.W.SharedT) : ob s = hk.obs s.abs := by
  have e : HandSHeadRun.getT s = s.abs.heap.get? := funext (HandSHeadRun.getT_eq s)
  show obsK (HandSHeadRun.getT s) = obsK s.abs.heap.get?
  rw [e]
def looseN : List Str := (["_wall", "__name__", "HallError", "NoHall", "NoBook", "NoLooks", "NoRank", "NoComings", "NoComer", "NoTick", "NoNumber", "NotAlike", "NoRow", "CantBe", "NothingLeft", "is_whole", "are_whole", "is_from_to", "is_tuple", "are_rows", "is_rising", "NOBODY", "BUSY", "is_column", "turns_of", "all_turns", "free_from", "all_stays", "RANKS_AT_MOST", "COME_AT_MOST"] : List Str) ++ (["STAY_AT_MOST", "DESKS_AT_MOST", "TICKS_AT_MOST", "LOOKS_AT_MOST", "LOOK_AT_MOST", "is_hall", "is_book", "are_looks", "columns_of", "need_hall", "need_book", "need_looks", "need_written", "need_rank", "need_tick", "_are_ranks", "_are_desks", "_are_looks_of", "_is_look", "taken_by", "told_of", "told_with", "ranks_behind", "steps_up", "is_barred", "steps_down", "rank_up", "all_up", "all_steps", "steps_of"] : List Str) ++ (["came", "taken", "waits", "waiting", "because", "need_comer", "first_tick", "_left", "left_comers", "first_taken", "_need_alike", "_taken_first", "ways_to", "ways_on", "all_ways", "all_comings", "ways_within", "Kept", "_columns", "mends", "stays", "_does", "_with_first", "_up_from", "_can_stay", "nexts", "best_look", "_rows_next", "_with_turn", "_waiting_next"] : List Str) ++ (["_worst_answers", "orders", "must_be_ahead", "_pairs", "_orders_with", "_up", "_ways_of", "how_many", "how_many_of", "row_at", "number_of", "_come_and_left", "_is_had", "run", "is_story", "_are_comings", "_book_of", "_row_taken", "_first_waiting", "_is_book_of", "_are_so", "left_runs", "stairs", "can_be", "first_bar", "bar", "is_bar", "_first_bar_of", "_taken_ahead", "_least_by"] : List Str) ++ (["_most_by", "_passed_by", "_law_well", "_law_take", "_law_bags", "_law_same", "_law_in", "_law_kind", "_law_tried", "_law_refused", "_law_some", "_law_hall", "_law_good", "_law_odd", "_law_doors"] : List Str)
open HandSHeadRun PySem.W PySem.Calls in
theorem run_a (w : World) : (wholeF (fun p => stepQ (denQ tabQ) p w) fenceQ 20000 RW.prog).map (fun x => looksF RW.prog x.1.heap x.2.abs) = some true := by
  kernel_rfl
open HandSHeadRun PySem.W PySem.Calls in
theorem run_b (w : World) : (wholeF (fun p => stepQ (denQ tabQ) p w) fenceQ 20000 RW.prog).map (fun x => seenQ (PySem.W.view RW.prog [0, 153]) looseN (importedModules RW.prog.main.body) (fun s => xlAt (PySem.W.view RW.prog [0, 153]) [] s && recOk RW.toRowW.records s) x.2.abs) = some (openGood (PySem.W.view RW.prog [0, 153]) looseN) := by
  kernel_rfl
open HandSHeadRun PySem.W PySem.Calls in
theorem run_c (w : World) : (wholeF (fun p => stepQ (denQ tabQ) p w) fenceQ 20000 RW.prog).map (fun x => ob x.2) = some (hk.val w) := by
  kernel_rfl
theorem map3 {α β γ δ : Type} {o : Option α} {f : α → β} {g : α → γ} {k : α → δ} {b : β} {c : γ} {d : δ} (h1 : o.map f = some b) (h2 : o.map g = some c) (h3 : o.map k = some d) : o.map (fun x => (f x, g x, k x)) = some (b, c, d) := by
  cases o with
  | none => cases h1
  | some x =>
    have e1 : f x = b := Option.some.inj h1
    have e2 : g x = c := Option.some.inj h2
    have e3 : k x = d := Option.some.inj h3
    show some (f x, g x, k x) = _
    rw [e1, e2, e3]
theorem run (w : World) : HandSHeadRun.RunEqI RW (PySem.W.view RW.prog [0, 153]) hk ob 20000 looseN w := map3 (run_a w) (run_b w) (run_c w)
end Dn
set_option maxHeartbeats 4000000
namespace Dn
open PySem PySem.Spec PyProof.Rows L2 HotX L2H
section
variable {K : PySem.W.Frag} {mg : Str → Option Value} {c : Nat → Addr} {D : Addr} {k : Nat} {a : Addr} {σ : L2.St} {H : Hp} {Q : VK}
abbrev isT (K : PySem.W.Frag) (D a C : Addr) : TE := tCB (rIsK K D a) (tCons (tVar 0) (tCons (tC (.ref C)) tNil))
theorem rd_isi {C : Addr} {b : Bool} (h0 : σ[0]? = some (some (.ref a))) (hk : PySem.W.kitOne K (.ref D) (.ref C) = some b) (q : Q (.bl b) H) : isT K D a C σ H Q :=
  ⟨_, h0, _, b, rfl, hk, q⟩
theorem rd_is4 (F : KCls K mg c D k) (i0 i1 i2 i3 : Nat) (e0 : i0 < 12) (e1 : i1 < 12) (e2 : i2 < 12) (e3 : i3 < 12) (h0 : σ[0]? = some (some (.ref a)))
    (q : ∀ p, H p = none → Q (.ref p) (upd H p (.lst [.bl (decide (i0 = k)), .bl (decide (i1 = k)), .bl (decide (i2 = k)), .bl (decide (i3 = k))]))) :
    tLst (tCons (isT K D a (c i0)) (tCons (isT K D a (c i1)) (tCons (isT K D a (c i2)) (tCons (isT K D a (c i3)) tNil)))) σ H Q :=
  rd_isi h0 (F.kit _ e0) (rd_isi h0 (F.kit _ e1) (rd_isi h0 (F.kit _ e2) (rd_isi h0 (F.kit _ e3) ⟨by show 4 ≤ sizeLine; decide, q⟩)))
theorem rd_seq {i : Nat} {te : TE} {u : TS} {R : Ends} (h : te σ H fun x H1 => u R (σ.set i (some x)) H1) : tSeq (tAsg te (gName i)) u R σ H := h
theorem upd_keep {H : Hp} {p : Addr} {o : HO} (n : H p = none) {b : Addr} {x : HO} (e : H b = some x) : upd H p o b = some x := by
  rw [upd_ne (fun z => by rw [z, n] at e; cases e), e]
theorem rd_cat4 (F : KCls K mg c D k) (i0 i1 i2 i3 : Nat) {p1 : Addr} {xs : List V} (e0 : i0 < 12) (e1 : i1 < 12) (e2 : i2 < 12) (e3 : i3 < 12) (h0 : σ[0]? = some (some (.ref a))) (h1 : σ[1]? = some (some (.ref p1))) (hx : H p1 = some (.lst xs)) (hl : xs.length + 4 ≤ sizeLine)
    (q : ∀ p3 H', (∀ b o, H b = some o → H' b = some o) → H' p3 = some (.lst (xs ++ [.bl (decide (i0 = k)), .bl (decide (i1 = k)), .bl (decide (i2 = k)), .bl (decide (i3 = k))])) → Q (.ref p3) H') :
    tOp rCat (tVar 1) (tLst (tCons (isT K D a (c i0)) (tCons (isT K D a (c i1)) (tCons (isT K D a (c i2)) (tCons (isT K D a (c i3)) tNil))))) σ H Q :=
  ⟨_, h1, rd_is4 F i0 i1 i2 i3 e0 e1 e2 e3 h0 fun p2 n2 => ⟨p1, p2, _, _, rfl, rfl, upd_keep n2 hx, upd_same, hl, fun p3 n3 => q _ _ (fun b o e => upd_keep n3 (upd_keep n2 e)) upd_same⟩⟩
theorem rd_cat3 {p1 : Addr} {xs : List V} {w1 w2 w3 : Str} (h1 : σ[2]? = some (some (.ref p1))) (hx : H p1 = some (.lst xs)) (hl : xs.length + 3 ≤ sizeLine)
    (q : ∀ p3 H', (∀ b o, H b = some o → H' b = some o) → H' p3 = some (.lst (xs ++ [.str w1, .str w2, .str w3])) → Q (.ref p3) H') :
    tOp rCat (tVar 2) (tLst (tCons (tC (.str w1)) (tCons (tC (.str w2)) (tCons (tC (.str w3)) tNil)))) σ H Q :=
  ⟨_, h1, by show 3 ≤ sizeLine; decide, fun p2 n2 => ⟨p1, p2, _, _, rfl, rfl, upd_keep n2 hx, upd_same, hl, fun p3 n3 => q _ _ (fun b o e => upd_keep n3 (upd_keep n2 e)) upd_same⟩⟩
theorem rd_kindlc {pw ps : Addr} {x0 y0 z0 : Option V} (hk : k < 12) (hw : H pw = some (.lst kWords)) (hs : H ps = some (.lst (kBools k)))
    (h : ∀ D H', H D = none → H' D = some (.lst [.str (kNames.getD k "")]) → (∀ b o, H b = some o → H' b = some o) → Q (.ref D) H') :
    tLc (fun σ H R => tCons (tVar 2) (tCons (tVar 1) tNil) σ H fun vs H1 => ∃ a b xs ys, vs = [.ref a, .ref b] ∧ H1 a = some (.lst xs) ∧ H1 b = some (.lst ys) ∧ R (zipJH a b xs ys) H1)
      (L2.gTup K 2 (gCons (gName 3) (gCons (gName 4) gNil))) (tB (tVar 4)) (tVar 3) [3, 4] [x0, some (.ref ps), some (.ref pw), y0, z0] H Q := by
  refine ⟨_, rfl, _, rfl, pw, ps, kWords, kBools k, rfl, hw, hs, fun D hD => ?_⟩
  refine ⟨fun i m H' => m = 12 - i ∧ i ≤ 12 ∧ H' D = some (.lst (kAcc k i)) ∧ ∀ b o, H b = some o → H' b = some o, ⟨12, rfl, by omega, upd_same, fun b o e => upd_keep hD e⟩, fun i m H' ⟨em, hi, eD, kp⟩ => ?_⟩
  by_cases h12 : i = 12
  · subst h12
    refine .inl ⟨⟨⟨kp _ _ hw, kp _ _ hs⟩, Nat.le_refl 12⟩, ?_⟩
    rw [kAcc_12 hk] at eD
    exact h D H' hD eD kp
  · have h12 : i < 12 := by omega
    refine .inr ⟨⟨⟨kp _ _ hw, kp _ _ hs⟩, h12⟩, fun H'' => H'' D = some (.lst (kAcc k (i + 1))) ∧ ∀ b o, H b = some o → H'' b = some o, fun H'' ⟨e1, e2⟩ => ⟨12 - (i + 1), by omega, rfl, by omega, e1, e2⟩, ?_⟩
    rintro x H'' ⟨T, rfl, hT, rfl⟩
    have eW : kWords.getD i .non = V.str (kNames.getD i "") := by
      have : i = 0 ∨ i = 1 ∨ i = 2 ∨ i = 3 ∨ i = 4 ∨ i = 5 ∨ i = 6 ∨ i = 7 ∨ i = 8 ∨ i = 9 ∨ i = 10 ∨ i = 11 := by omega
      rcases this with h | h | h | h | h | h | h | h | h | h | h | h <;> subst h <;> rfl
    have eB : (kBools k).getD i .non = V.bl (decide (i = k)) := by
      rw [List.getD_eq_getElem?_getD, List.getElem?_map, List.getElem?_range h12]
      rfl
    rw [eW, eB]
    refine ⟨T, _, rfl, .inl (.of upd_same), rfl, _, _, rfl, _, _, rfl, rfl, rfl, _, rfl, _, rfl, ?_⟩
    have k2 : ∀ b o, H b = some o → upd H' T (.tup [.str (kNames.getD i ""), .bl (decide (i = k))]) b = some o := fun b o e => upd_keep hT (kp _ _ e)
    have eD2 : upd H' T (.tup [.str (kNames.getD i ""), .bl (decide (i = k))]) D = some (.lst (kAcc k i)) := upd_keep hT eD
    show (if decide (i = k) = true then _ else _)
    by_cases hik : i = k
    · rw [if_pos (by simp [hik])]
      refine ⟨_, rfl, _, eD2, Nat.lt_of_le_of_lt (kAcc_len k i) (Nat.lt_trans h12 (by decide)), ?_, fun b o e => ?_⟩
      · rw [upd_same]
        simp only [kAcc, if_pos hik]
      · rw [upd_ne (fun z => by rw [z, hD] at e; cases e)]
        exact k2 _ _ e
    · rw [if_neg (by simp [hik])]
      refine ⟨?_, k2⟩
      rw [eD2]
      simp only [kAcc, if_neg hik, List.append_nil]
end
end Dn
set_option maxHeartbeats 4000000
namespace Dn
open PySem PySem.Spec PyProof.Rows L2 HotX L2H
/-- the cell at c holds v -/
def CellO (c : Addr) (v : V) : HO := .ext fun h => ∃ (o : Obj) (u : Value), h.get? c = some o ∧ o.data = .cell (some u) ∧ RelV v u
/-- the closure at f -/
def LamO (f : Addr) (q : Str) (params : Arguments) (body : Expr) (scope : Scope) (cl : List (Str × Addr)) (c' : Addr) : HO :=
  .ext fun h => ∃ pm ctv : Value, h.get? f = some (PySem.W.kla_obj "<lambda>" q params body scope cl pm c' ctv)
/-- the names of a lambda: one that is captured, else globals -/
structure Lam1 (scope : Scope) (x : Str) : Prop where
  kind : scope.kind = .function
  co : scope.isCoroutine = false
  gen : scope.isGenerator = false
  own : ∀ y ∈ scope.names, y.2 ≠ .local ∧ y.2 ≠ .cell
  free : ∀ y ∈ scope.names, y.2 = .free → y.1 = x
def lam1B (scope : Scope) (x : Str) : Bool :=
  decide (scope.kind = .function) && !scope.isCoroutine && !scope.isGenerator && scope.names.all fun y => !decide (y.2 = .local) && !decide (y.2 = .cell) && (!decide (y.2 = .free) || decide (y.1 = x))
theorem lam1_by {scope : Scope} {x : Str} (h : lam1B scope x = true) : Lam1 scope x := by
  simp only [lam1B, Bool.and_eq_true, Bool.or_eq_true, Bool.not_eq_true', decide_eq_true_eq, decide_eq_false_iff_not, List.all_eq_true] at h
  obtain ⟨⟨⟨k, co⟩, ge⟩, al⟩ := h
  exact ⟨k, co, ge, fun y hy => (al y hy).1, fun y hy e => ((al y hy).2).elim (fun z => absurd e z) id⟩
/-- the context of its body -/
def lamC (P : Program) (w : World) (K : PySem.W.Frag) (mg : Str → Option Value) (base : Heap) (A : Around) (outer : List Env) (s : Shared) (H : Hp) (E : XK) (q x : Str) (scope : Scope) (f cx c' : Addr) : Cx where
  prog := P
  w := w
  K := K
  mg := mg
  base := base
  A := A.deeper (PySem.W.envX q scope s.heap.objs.size f (.ref c') [(x, cx)])
  N := [x]
  s_0 := s
  H_0 := H
  env := PySem.W.envX q scope s.heap.objs.size f (.ref c') [(x, cx)]
  outer := outer
  stack := PySem.W.envX q scope s.heap.objs.size f (.ref c') [(x, cx)] :: outer
  ex := []
  fn := fun _ => false
  calm := true
  pn := []
  xe := fun e s' => wpAny (model P w) (A.deeper (PySem.W.envX q scope s.heap.objs.size f (.ref c') [(x, cx)])) (leaving (PySem.W.envX q scope s.heap.objs.size f (.ref c') [(x, cx)]) e) (fun _ s'' => L2N.CX P w outer H s E e s'') (fun e' s'' => L2N.CX P w outer H s E e' s'') s'
section
variable {P : Program} {w : World} {K : PySem.W.Frag} {mg : Str → Option Value} {base : Heap} {A : Around} {outer : List Env} {s : Shared} {H : Hp} {E : XK} {q x : Str} {scope : Scope} {f cx c' : Addr} {v : V}
theorem look1 {y : Str} {c : Addr} (e : ([(x, cx)] : List (Str × Addr)).lookup y = some c) : y = x ∧ c = cx := by
  by_cases h : y = x
  · subst h
    simp at e
    exact ⟨rfl, e.symm⟩
  · rw [List.lookup_cons, beq_false_of_ne h] at e
    cases e
theorem lamC_start (L : Lam1 scope x) (e0 : Env0 P w K mg base A outer s H) (hd : A.handled = none) (hx : H cx = none) {oc : Obj} {u : Value} (hc : s.heap.get? cx = some oc) (hcd : oc.data = .cell (some u)) (rv : RelV v u) {h₁ : Heap} {tk : Nat}
    (hns : h₁.Ns s.heap.objs.size fun y => ([] : List (Str × Value)).reverse.lookup y) (kp : ∀ b o, s.heap.get? b = some o → h₁.get? b = some o) :
    Inv (lamC P w K mg base A outer s H E q x scope f cx c') [] [some v] H { s with heap := h₁, toks := tk } := by
  have noA : ∀ b : Addr, b ∉ (lamC P w K mg base A outer s H E q x scope f cx c').ex := fun b z => absurd (show b ∈ ([] : List Addr) from z) (by simp)
  have cl : ∀ {y : Str} {c : Addr}, (lamC P w K mg base A outer s H E q x scope f cx c').env.cells.lookup y = some c → y = x ∧ c = cx := fun {y c} e => look1 e
  refine ⟨?_, rfl, e0.bare, Un.kept kp, ⟨_, hns, fun i y v' e1 e2 e3 => ?_⟩, fun y c e => ?_, e0.hok.fresh (Nat.le_refl _), fun y c e => ?_, fun p hp => absurd (show p ∈ ([] : List (Addr × Obj)) ++ [] from hp) (by simp), e0.hok.kept kp, rfl⟩
  · refine ⟨e0.mod, L.kind, rfl, rfl, Nat.le_refl _, fun y z c e1 e2 => ?_, fun y hy => ?_, fun y c z _ => (by cases (show false = true from z)), fun _ => hd, Around.frames_deeper e0.frames, .inr ⟨rfl, rfl⟩, fun b z => absurd z (noA b), e0.bs, e0.bsz, fun b _ _ => noA b, fun b z => absurd z (noA b), e0.funs, e0.frf⟩
    · rw [(cl e1).1, (cl e2).1]
    · have hy : scope.names.lookup y = some .cell ∨ scope.names.lookup y = some .free := hy
      rcases hy with hy | hy
      · exact absurd rfl (L.own _ (PySem.mem_of_lookup hy)).2
      · have ex : y = x := L.free _ (PySem.mem_of_lookup hy) rfl
        exact ⟨cx, by rw [ex]; show ([(x, cx)] : List (Str × Addr)).lookup x = some cx; simp⟩
  · cases i with
    | succ i => cases (show ([] : List Str)[i]? = some y from e1)
    | zero =>
      have ey : x = y := Option.some.inj (show some x = some y from e1)
      have ev : v = v' := Option.some.inj (Option.some.inj (show some (some v) = some (some v') from e2))
      subst ey ev
      have k : scope.names.lookup x = some .free := by
        have e3 : Vis scope x := e3
        rcases e3 with k | k | k
        · exact absurd rfl (L.own _ (PySem.mem_of_lookup k)).1
        · exact absurd rfl (L.own _ (PySem.mem_of_lookup k)).2
        · exact k
      exact ⟨u, rv, .inr ⟨.inr k, cx, by show ([(x, cx)] : List (Str × Addr)).lookup x = some cx; simp, oc, kp _ _ hc, hcd⟩⟩
  · rw [(cl e).2]
    exact ⟨some u, oc, kp _ _ hc, hcd⟩
  · rw [(cl e).2]
    exact hx
theorem hok_del {h : Heap} {a : Addr} {φ : Heap → Prop} (k : HOk P w H h) (ha : H a = some (.ext φ)) : HOk P w (delH H a) h := fun b o e => by
  by_cases hb : b = a
  · rw [hb, delH_same] at e; cases e
  · rw [delH_ne hb] at e
    refine (k b o e).stay (fun _ _ _ q => q) (fun d r => ?_) fun d xs r => ?_
    · rw [delH_ne (fun z => by rw [z, ha] at r; cases r)]; exact r
    · rw [delH_ne (fun z => by rw [z, ha] at r; cases r)]; exact r
theorem hok_back {h : Heap} {a : Addr} {φ : Heap → Prop} (k : HOk P w H h) (hn : H a = none) (new : ObjOk P w (upd H a (.ext φ)) h a (.ext φ)) : HOk P w (upd H a (.ext φ)) h := fun b o e => by
  by_cases hb : b = a
  · rw [hb, upd_same] at e
    cases e
    rw [hb]
    exact new
  · rw [upd_ne hb] at e
    refine (k b o e).stay (fun _ _ _ q => q) (fun d r => upd_keep hn r) fun d xs r => upd_keep hn r
theorem cell_ok {H' : Hp} {h : Heap} {oc : Obj} {u : Value} (e : h.get? cx = some oc) (d : oc.data = .cell (some u)) (r : RelV v u) : ObjOk P w H' h cx (CellO cx v) :=
  ⟨⟨oc, u, e, d, r⟩, ⟨oc, e⟩, fun h1 h2 ⟨o, u, e, d, r⟩ st => ⟨o, u, st _ e, d, r⟩⟩
theorem env0_del (e0 : Env0 P w K mg base A outer s H) {φ : Heap → Prop} (hc : H cx = some (.ext φ)) : Env0 P w K mg base A outer s (delH H cx) := by
  refine ⟨e0.frames, e0.mod, fun b o e => ⟨(e0.bs b o e).1, ?_⟩, e0.bsz, e0.funs, fun b hb => ?_, hok_del e0.hok hc, e0.bare⟩
  · have n := (e0.bs b o e).2
    rw [delH_ne (fun z => by rw [z, hc] at n; cases n)]; exact n
  · have n := e0.frf b hb
    rw [delH_ne (fun z => by rw [z, hc] at n; cases n)]; exact n
/-- f(), f such a closure -/
theorem call_lamO {params : Arguments} {body : Expr} {k : Nat} {Q : VK} {t : TE} (L : Lam1 scope x) (e0 : Env0 P w K mg base A outer s H) (hr : Room (k + 1) A) (hf : H f = some (LamO f q params body scope [(x, cx)] c')) (hc : H cx = some (CellO cx v)) (hco : H c' = some (LamX.CodeO c' q))
    (hbind : ∀ (q : Str) (cl : List (Str × Addr)) (pm cv ctv : Value), bindArgs (PySem.W.kla_fn "<lambda>" q params body scope cl pm cv ctv) ⟨[], []⟩ = pure [])
    (hbody : Room k (A.deeper (PySem.W.envX q scope s.heap.objs.size f (.ref c') [(x, cx)])) → PE (lamC P w K mg base A outer s (delH H cx) (fun cls d H' => E cls d (upd H' cx (CellO cx v))) q x scope f cx c') body t)
    (ht : t [some v] (delH H cx) fun r H' => Q r (upd H' cx (CellO cx v))) :
    codeAny (model P w) A (.call (.ref f) ⟨[], []⟩) (CR (L2N.CX P w) outer P w H s Q E) s := by
  obtain ⟨⟨pm, ctv, of⟩, _, _⟩ := e0.hok f _ hf
  obtain ⟨⟨oc, u, ho, hcd, rv⟩, _, _⟩ := e0.hok cx _ hc
  obtain ⟨⟨o2, vs, t2, ho2, hd2, hv2⟩, _, _⟩ := e0.hok c' _ hco
  have lim : s.heap.NoLimit := e0.mod.nolimit.keeps fun b o e => (e0.bs b o e).1
  have e1 : Env0 P w K mg base A outer s (delH H cx) := env0_del e0 hc
  have nd : ∀ {b : Addr}, H b = none → b ≠ cx := fun {b} n z => by rw [z, hc] at n; cases n
  have ncf : cx ∉ frs outer := fun z => nd (e0.frf _ z) rfl
  have fr1 : ∀ {b : Addr} {o : HO}, H b = some o → (∀ φ, o ≠ .ext φ) → delH H cx b = some o := fun {b o} e n => by
    rw [delH_ne (fun z => by rw [z, hc] at e; exact n _ (Option.some.inj e).symm)]; exact e
  refine PySem.W.kla_callFunE hr.depth of rfl L.co L.gen rfl ⟨c', o2, vs, t2, rfl, ho2, hd2, hv2⟩ ?_
  rw [hbind]
  refine wpAny_pure (wpAny_newFunctionEnv (fun y hy => (L.own y hy).2) (fun y hy => absurd hy (by simp)) (fun h₁ hns hsb => ⟨lim.fresh _ hsb, ?_⟩) L.kind)
  show codeAny _ _ (.expr body (PySem.W.envX q scope s.heap.objs.size f (.ref c') [(x, cx)])) _ _
  have kp : ∀ b o, s.heap.get? b = some o → h₁.get? b = some o := fun b o e => hsb.extBut b o (Nat.ne_of_lt (Heap.lt_size e)) (Heap.get?_push_of_some _ e)
  have J := lamC_start (E := fun cls d H' => E cls d (upd H' cx (CellO cx v))) (q := q) (f := f) (c' := c') (tk := s.toks + ([] : List (Str × Value)).length) L e1 hr.hd delH_same ho hcd rv hns kp
  refine PySem.W.kla_codeExpr (wpAny_mono ((hbody (hr.deeper _)).run [] _ _ _ _ J ht) (fun r s' hq => ?_) fun e s' hq => wpAny_mono hq (fun _ s'' z => ?_) fun e' s'' z => ?_)
  · obtain ⟨v', H', J', rv', q'⟩ := hq
    have un : Un (frs outer) [] (delH H cx) H' s.heap s'.heap := J'.base
    have n1 : H' cx = none := un.free cx oc ho delH_same (by simp)
    have hcs : s'.heap.get? cx = some oc := un.keep cx oc ho delH_same ncf (by simp)
    refine ⟨v', _, J'.os, J'.bare, ⟨fun b o e n hb hx => un.keep b o e (by rw [delH_ne (nd n)]; exact n) hb hx, fun b o e n hb hx => un.slot b o e (by rw [delH_ne (nd n)]; exact n) hb hx, fun b o e n hx => ?_, un.there, fun b xs e => ?_, fun b o u e => ?_, fun b ps e => ?_⟩, hok_back J'.hok n1 (cell_ok hcs hcd rv), rv', q'⟩
    · rw [upd_ne (nd n)]
      exact un.free b o e (by rw [delH_ne (nd n)]; exact n) hx
    · exact upd_keep n1 (un.tups b xs (fr1 e fun _ z => by cases z))
    · exact upd_keep n1 (un.frzs b o u (fr1 e fun _ z => by cases z))
    · obtain ⟨more, z⟩ := un.tbls b ps (fr1 e fun _ z => by cases z)
      exact ⟨more, upd_keep n1 z⟩
  all_goals
    obtain ⟨a, B, H', cls, d, ea, fl, hok, ub, na, os, ag, hE⟩ := z
    have n1 : H' cx = none := ub.free cx oc ho delH_same
    have hcs : B.get? cx = some oc := ub.keep cx oc ho delH_same ncf
    have nac : a ≠ cx := fun z => by
      have z2 : B.get? a = none := fl.2.1
      rw [z, hcs] at z2
      cases z2
    refine ⟨a, B, _, cls, d, ea, fl, hok_back hok n1 (cell_ok hcs hcd rv), ⟨fun b o e n hb => ub.keep b o e (by rw [delH_ne (nd n)]; exact n) hb, ub.slot, fun b o e n => ?_, ub.there, fun b xs e => ?_, fun b o u e => ?_, fun b ps e => ?_⟩, ?_, os, ag, hE⟩
    · rw [upd_ne (nd n)]
      exact ub.free b o e (by rw [delH_ne (nd n)]; exact n)
    · exact upd_keep n1 (ub.tups b xs (fr1 e fun _ z => by cases z))
    · exact upd_keep n1 (ub.frzs b o u (fr1 e fun _ z => by cases z))
    · obtain ⟨more, z⟩ := ub.tbls b ps (fr1 e fun _ z => by cases z)
      exact ⟨more, upd_keep n1 z⟩
    · show upd H' cx _ a = none
      rw [upd_ne nac]
      exact na
end
end Dn
set_option maxHeartbeats 4000000
namespace Dn
open PySem PySem.Spec PyProof.Rows L2 HotX L2H LamX
open Evl (Ex fresh_back)
/-- the table at T, its code objects known -/
def TabG (G H : Hp) (T : Addr) (q : Str) : Prop := G T = none ∧ ∃ ps : Array Value, H T = some (.tbl ps) ∧ TriplesOk ps.toList ∧ ∀ (pos : Pos) (cv : Value), codeAmong pos ps.toList = some cv → ∃ c, cv = .ref c ∧ G c = some (CodeO c q)
/-- nothing that stands changes but the table -/
structure PuT (T : Addr) (G H G' H' : Hp) : Prop where
  g : Ex G G'
  h : ∀ a o, H a = some o → a ≠ T → H' a = some o
  s : Ex G' H'
  n : ∀ a, H a ≠ none → G a = none → G' a = none
section
variable {T : Addr} {q : Str} {G H G' H' G1 H1 G2 H2 : Hp}
theorem TabG.pu (t : TabG G H T q) (p : Pu G H G' H') : TabG G' H' T q := by
  obtain ⟨h0, ps, h1, h2, h3⟩ := t
  refine ⟨p.n _ (some_ne h1) h0, ps, p.h _ _ h1, h2, fun pos cv e => ?_⟩
  obtain ⟨c, e1, e2⟩ := h3 pos cv e
  exact ⟨c, e1, p.g _ _ e2⟩
theorem PuT.of (p : Pu G H G' H') : PuT T G H G' H' := ⟨p.g, fun a o e _ => p.h a o e, p.s, p.n⟩
theorem PuT.refl (e : Ex G H) : PuT T G H G H := .of (Pu.refl e)
theorem PuT.some (p : PuT T G H G1 H1) (hT : H1 T ≠ none) {a : Addr} (h : H a ≠ none) : H1 a ≠ none := by
  by_cases ha : a = T
  · rw [ha]; exact hT
  · obtain ⟨o, e⟩ := Option.ne_none_iff_exists'.mp h
    rw [p.h a o e ha]
    exact fun z => nomatch z
theorem PuT.trans (hT : H1 T ≠ none) (a : PuT T G H G1 H1) (b : PuT T G1 H1 G2 H2) : PuT T G H G2 H2 :=
  ⟨a.g.trans b.g, fun x o e n => b.h x o (a.h x o e n) n, b.s, fun x h n => b.n x (a.some hT h) (a.n x h n)⟩
theorem TabG.ne (t : TabG G H T q) : H T ≠ none := by
  obtain ⟨_, ps, h1, _⟩ := t
  rw [h1]
  exact fun z => nomatch z
end
section
variable {X : Cx} {pins : List (Addr × Obj)} {σ : L2.St} {H : Hp} {s : Shared}
/-- a lambda made: it is known from now on -/
theorem lam_new {G : Hp} {c P : Addr} {params : Arguments} {body : Expr} {scope : Scope} {pos : Pos} {E : Value → Shared → Prop} {Q : Value → Shared → Prop} {cl : List (Str × Addr)} (I : Inv X pins σ H s) (TB : TabB X.base X.mg c P) (hcode : X.env.code = .ref c)
    (ex : Ex G H) (hT : TabG G H P (X.env.qual ++ "<lambda>")) (hdef : defaultsOf params X.env = ([], [])) (hcl : cloFrom X.env.cells scope.names [] = cl) (hfree : ∀ y ∈ scope.names, y.2 = .free → ∃ c, X.env.cells.lookup y.1 = some c)
    (h : ∀ (f c' : Addr) (G1 H1 : Hp) (s' : Shared), Inv X pins σ H1 s' → PuT P G H G1 H1 → TabG G1 H1 P (X.env.qual ++ "<lambda>") → G1 f = some (LamO f (X.env.qual ++ "<lambda>") params body scope cl c') → G1 c' = some (CodeO c' (X.env.qual ++ "<lambda>")) → Q (.ref f) s') :
    wpAny (model X.prog X.w) X.A (eval (.Lambda params body scope pos) X.env) Q E s := by
  subst hcl
  obtain ⟨hG, ps, hP, ht, ha⟩ := hT
  have bP : s.heap.BuiltinsAt X.mg P := TB.bm.keeps I.bk
  have oP : s.heap.get? P = some { cls := .none, data := .fields ps } := I.hok P _ hP
  -- the closure's object is new
  have put : ∀ {H1 : Hp} {G1 : Hp} {h' : Heap} {tk : Nat} {c' : Addr} {pm ctv : Value}, Inv X pins σ H1 { s with heap := h', toks := tk } → s.heap.objs.size ≤ h'.objs.size → PuT P G H G1 H1 → TabG G1 H1 P (X.env.qual ++ "<lambda>") → G1 c' = some (CodeO c' (X.env.qual ++ "<lambda>")) →
      Q (.ref h'.objs.size) { s with heap := h'.push (PySem.W.kla_obj "<lambda>" (X.env.qual ++ "<lambda>") params body scope (cloFrom X.env.cells scope.names []) pm c' ctv), toks := tk } := by
    intro H1 G1 h' tk c' pm ctv J hsz pu tb kc
    have nf : H1 h'.objs.size = none := J.hok.fresh (Nat.le_refl _)
    have no : Heap.get? (h'.push (PySem.W.kla_obj "<lambda>" (X.env.qual ++ "<lambda>") params body scope (cloFrom X.env.cells scope.names []) pm c' ctv)) h'.objs.size = some (PySem.W.kla_obj "<lambda>" (X.env.qual ++ "<lambda>") params body scope (cloFrom X.env.cells scope.names []) pm c' ctv) := Heap.get?_push_size _ rfl
    have J2 : Inv X pins σ (upd H1 h'.objs.size (LamO h'.objs.size (X.env.qual ++ "<lambda>") params body scope (cloFrom X.env.cells scope.names []) c')) { s with heap := h'.push (PySem.W.kla_obj "<lambda>" (X.env.qual ++ "<lambda>") params body scope (cloFrom X.env.cells scope.names []) pm c' ctv), toks := tk } :=
      J.laid (t' := tk) (fun b o e => Heap.get?_push_of_some _ e) (Nat.le_refl _) ⟨⟨pm, ctv, no⟩, ⟨_, no⟩, fun h1 h2 ⟨pm, ctv, e⟩ st => ⟨pm, ctv, st _ e⟩⟩
    have p2 : Pu G1 H1 (upd G1 h'.objs.size (LamO h'.objs.size (X.env.qual ++ "<lambda>") params body scope (cloFrom X.env.cells scope.names []) c')) (upd H1 h'.objs.size (LamO h'.objs.size (X.env.qual ++ "<lambda>") params body scope (cloFrom X.env.cells scope.names []) c')) := Pu.new pu.s nf
    exact h h'.objs.size c' _ _ _ J2 (pu.trans tb.ne (.of p2)) (tb.pu p2) upd_same (p2.g _ _ kc)
  refine PySem.W.kla_eval hdef ?_
  cases hc : codeAmong pos ps.toList with
  | some cv =>
    obtain ⟨c', e, hco⟩ := ha pos cv hc
    subst e
    refine PySem.W.kla_makeFunctionHit (mg := X.mg) (c := c) (P := P) (ps := ps) (closure_ok hfree) I.ok.glob (I.mod.glob.keeps I.bk) hcode (TB.code.keeps I.bk) oP ht hc bP fun ctv h' tk hx hsz => ?_
    exact put (I.kept (t' := tk) hx) hsz (.refl ex) ⟨hG, ps, hP, ht, ha⟩ hco
  | none =>
    refine PySem.W.kla_makeFunction (mg := X.mg) (c := c) (P := P) (ps := ps) (closure_ok hfree) I.ok.glob (I.mod.glob.keeps I.bk) hcode (TB.code.keeps I.bk) oP ht hc TB.gP bP fun c' ctv h' tk hx hge hlt hrec htb => ?_
    obtain ⟨c2, oc, vs, t, e2, hoc, hd, hv⟩ := hrec
    cases e2
    have nC : H c' = none := I.hok.fresh hge
    have gC : G c' = none := fresh_back ex nC
    have J := inv_table (t' := tk) (q := X.env.qual ++ "<lambda>") (more := #[rawInt pos.line, rawInt pos.col, .ref c']) I hP hx htb hge ⟨oc, vs, t, hoc, hd, hv⟩
    have nPc : P ≠ c' := ne_of_none hP nC
    have eL : (ps ++ #[rawInt pos.line, rawInt pos.col, .ref c']).toList = ps.toList ++ [rawInt pos.line, rawInt pos.col, .ref c'] := by simp
    have gNew : Ex G (upd G c' (CodeO c' (X.env.qual ++ "<lambda>"))) := Ex.new gC
    refine put (G1 := upd G c' (CodeO c' (X.env.qual ++ "<lambda>"))) J (Nat.le_trans hge (Nat.le_of_lt hlt)) ⟨gNew, fun b o e n => ?_, fun b o e => ?_, fun b hb n => ?_⟩ ⟨?_, _, ?_, by rw [eL]; exact PySem.TriplesOk_snoc _ _ _ _ ht, fun p' cv e => ?_⟩ upd_same
    · rw [upd_ne (ne_of_none e nC), upd_ne n]; exact e
    · by_cases hb : b = c'
      · rw [hb, upd_same] at e ⊢; exact e
      · rw [upd_ne hb] at e
        rw [upd_ne hb, upd_ne (fun z => by rw [z, hG] at e; cases e)]
        exact ex _ _ e
    · rw [upd_ne (fun z => hb (by rw [z]; exact nC))]; exact n
    · rw [upd_ne nPc]; exact hG
    · rw [upd_ne nPc, upd_same]
    · rw [eL] at e
      rcases among_app _ ht e with z | z
      · obtain ⟨c0, e1, e2⟩ := ha p' cv z
        exact ⟨c0, e1, gNew _ _ e2⟩
      · exact ⟨c', z, upd_same⟩
end
end Dn
set_option maxHeartbeats 4000000
namespace Dn
open PySem PySem.Spec PyProof.Rows L2 HotX L2H LamX
open Evl (Ex fresh_back)
def tLamG (T : Addr) (q : Str) (params : Arguments) (body : Expr) (scope : Scope) (cl : List (Str × Addr)) : TE := fun _ H Q => ∃ G, Ex G H ∧ TabG G H T q ∧
  ∀ f c' G1 H1, PuT T G H G1 H1 → TabG G1 H1 T q → G1 f = some (LamO f q params body scope cl c') → G1 c' = some (CodeO c' q) → Q (.ref f) H1
abbrev NoArgs (params : Arguments) (body : Expr) (scope : Scope) : Prop := ∀ (q : Str) (cl : List (Str × Addr)) (pm cv ctv : Value), bindArgs (PySem.W.kla_fn "<lambda>" q params body scope cl pm cv ctv) ⟨[], []⟩ = pure []
abbrev DLam := Arguments → Expr → Scope → Prop
/-- a closure of a known body -/
def LamV (D : DLam) (G : Hp) (q : Str) (cl : List (Str × Addr)) (v : V) : Prop := ∃ f params body scope c', v = .ref f ∧ D params body scope ∧ G f = some (LamO f q params body scope cl c') ∧ G c' = some (CodeO c' q)
theorem LamV.mono {D : DLam} {G G' : Hp} {q : Str} {cl : List (Str × Addr)} {v : V} (h : LamV D G q cl v) (e : Ex G G') : LamV D G' q cl v := by
  obtain ⟨f, a, b, c, c', e1, e2, e3, e4⟩ := h
  exact ⟨f, a, b, c, c', e1, e2, e _ _ e3, e _ _ e4⟩
section
variable {X : Cx} {T c : Addr} {q : Str} {cl : List (Str × Addr)} {D : DLam}
theorem pe_lamG {params : Arguments} {body : Expr} {scope : Scope} {pos : Pos} (TB : TabB X.base X.mg c T) (hcode : X.env.code = .ref c) (hq : X.env.qual ++ "<lambda>" = q) (hdef : defaultsOf params X.env = ([], [])) (hcl : cloFrom X.env.cells scope.names [] = cl)
    (hfree : ∀ y ∈ scope.names, y.2 = .free → ∃ c, X.env.cells.lookup y.1 = some c) : PE X (.Lambda params body scope pos) (tLamG T q params body scope cl) := by
  subst hq
  refine ⟨fun pins s σ H Q I h => ?_⟩
  obtain ⟨G, ex, tb, h⟩ := h
  exact lam_new I TB hcode ex tb hdef hcl hfree fun f c' G1 H1 s' J pu t1 kf kc => ⟨.ref f, H1, J, rfl, h f c' G1 H1 pu t1 kf kc⟩
/-- what lists of lambdas read -/
def LamsOk (D : DLam) (T : Addr) (q : Str) (cl : List (Str × Addr)) (t : TA) (n : Nat) : Prop := ∀ (σ : L2.St) (G H : Hp) (Q : List V → Hp → Prop), Ex G H → TabG G H T q →
  (∀ G1 H1 vs, PuT T G H G1 H1 → TabG G1 H1 T q → vs.length = n → (∀ v ∈ vs, LamV D G1 q cl v) → Q vs H1) → t σ H Q
theorem lams_nil : LamsOk D T q cl tNil 0 := fun σ G H Q ex tb h => h G H [] (.refl ex) tb rfl fun v hv => absurd hv (by simp)
theorem lams_cons {t : TA} {n : Nat} {params : Arguments} {body : Expr} {scope : Scope} (d : D params body scope) (h : LamsOk D T q cl t n) : LamsOk D T q cl (tCons (tLamG T q params body scope cl) t) (n + 1) := fun σ G H Q ex tb k =>
  ⟨G, ex, tb, fun f c' G1 H1 pu t1 kf kc => h σ G1 H1 _ pu.s t1 fun G2 H2 vs pu2 t2 hl hv => k G2 H2 (.ref f :: vs) (pu.trans t1.ne pu2) t2 (by simp [hl]) fun v hm => by
    rcases List.mem_cons.mp hm with e | hm
    · exact ⟨f, params, body, scope, c', e, d, pu2.g _ _ kf, pu2.g _ _ kc⟩
    · exact hv v hm⟩
/-- the list so far -/
def SoFar (D : DLam) (T : Addr) (q : Str) (cl : List (Str × Addr)) (G H : Hp) (p : Addr) (n : Nat) : Prop := Ex G H ∧ TabG G H T q ∧ ∃ vs, H p = some (.lst vs) ∧ vs.length = n ∧ ∀ v ∈ vs, LamV D G q cl v
theorem rd_lst {t : TA} {n : Nat} (ht : LamsOk D T q cl t n) (hn : n ≤ sizeLine) {σ : L2.St} {G H : Hp} {Q : VK} (ex : Ex G H) (tb : TabG G H T q) (h : ∀ p G1 H1, PuT T G H G1 H1 → SoFar D T q cl G1 H1 p n → Q (.ref p) H1) : tLst t σ H Q :=
  ht σ G H _ ex tb fun G1 H1 vs pu t1 hl hv => ⟨by rw [hl]; exact hn, fun p np => by
    have p2 : Pu G1 H1 G1 (upd H1 p (.lst vs)) := Pu.newH pu.s np
    exact h p G1 _ (pu.trans t1.ne (.of p2)) ⟨p2.s, t1.pu p2, vs, upd_same, hl, hv⟩⟩
theorem rd_more {t : TA} {n m i : Nat} (ht : LamsOk D T q cl t n) (hn : m + n ≤ sizeLine) {σ : L2.St} {G H : Hp} {Q : VK} {p : Addr} (sf : SoFar D T q cl G H p m) (hi : σ[i]? = some (some (.ref p))) (h : ∀ p G1 H1, PuT T G H G1 H1 → SoFar D T q cl G1 H1 p (m + n) → Q (.ref p) H1) :
    tOp rCat (tVar i) (tLst t) σ H Q := by
  obtain ⟨ex, tb, vs, hp, hl, hv⟩ := sf
  refine ⟨_, hi, rd_lst ht (by omega) ex tb fun p2 G1 H1 pu ⟨ex1, tb1, vs1, hp1, hl1, hv1⟩ => ?_⟩
  have hp' : H1 p = some (.lst vs) := pu.h _ _ hp fun z => by
    obtain ⟨_, ps, e, _⟩ := tb
    rw [z, e] at hp
    cases hp
  refine ⟨p, p2, vs, vs1, rfl, rfl, hp', hp1, by rw [hl, hl1]; exact hn, fun p3 n3 => ?_⟩
  have pu2 : Pu G1 H1 G1 (upd H1 p3 (.lst (vs ++ vs1))) := Pu.newH ex1 n3
  refine h p3 G1 _ (pu.trans tb1.ne (.of pu2)) ⟨pu2.s, tb1.pu pu2, _, upd_same, by rw [List.length_append, hl, hl1], fun v hm => ?_⟩
  rcases List.mem_append.mp hm with hm | hm
  · exact (hv v hm).mono pu.g
  · exact hv1 v hm
/-- a body that ends in a return, its names told -/
structure PSc (X : Cx) (st : List Stmt) (t : (V → L2.St → Hp → Prop) → L2.St → Hp → Prop) : Prop where
  run : ∀ (s : Shared) (σ : L2.St) (H : Hp) (R : V → L2.St → Hp → Prop), Inv X [] σ H s → t R σ H → wpAny (model X.prog X.w) X.A (execs st X.env) (fun f s' => ∃ u, f = .ret u ∧ ∃ v σ' H', Inv X [] σ' H' s' ∧ RelV v u ∧ R v σ' H') X.xe s
theorem psc_cons {st : Stmt} {rest : List Stmt} {t : TS} {u : (V → L2.St → Hp → Prop) → L2.St → Hp → Prop} (h1 : PS X st t) (h2 : PSc X rest u) : PSc X (st :: rest) (fun R σ H => t { nx := fun σ' H' => u R σ' H', rt := fun _ _ => False } σ H) := by
  refine ⟨fun s σ H R I h => wpAny_execs_cons (thn (h1.run [] s σ H _ I h) fun f s1 z => ?_)⟩
  cases f with
  | next =>
    obtain ⟨σ', H', I', z⟩ := z
    exact h2.run s1 σ' H' R I' z
  | ret v => obtain ⟨_, _, _, _, _, z⟩ := z; exact False.elim z
  | brk => obtain ⟨_, _, _, z⟩ := z; exact False.elim z
  | cont => obtain ⟨_, _, _, z⟩ := z; exact False.elim z
theorem psc_ret {e : Expr} {te : TE} {pos : Pos} (h : PE X e te) : PSc X [.Return (some e) pos] (fun R σ H => te σ H fun v H' => R v σ H') :=
  ⟨fun s σ H R I k => wpAny_execs_cons (wpAny_Return_some (thn (h.run [] s σ H _ I k) fun u s1 ⟨v, H1, I1, r1, q1⟩ => ⟨u, rfl, v, σ, H1, I1, r1, q1⟩))⟩
end
/-- the promise of such a def -/
def spDoors (D : DLam) (T : Addr) (q x : Str) (n : Nat) : Sp := fun vs H Q _ => ∃ G v, vs = [v] ∧ Ex G H ∧ TabG G H T q ∧
  ∀ p cx G' H', PuT T G H G' H' → SoFar D T q [(x, cx)] G' H' p n → G' cx = some (CellO cx v) → H cx = none → Q (.ref p) H'
theorem fn_doors {P : Program} {w : World} {K : PySem.W.Frag} {mg : Str → Option Value} {base : Heap} {D : DLam} {k n : Nat} {T : Addr} {q x name qual : Str} {params : Arguments} {body : List Stmt} {scope : Scope} {f : Addr} {N : List Str} {dV kV doc pm ct oc cdv : Value} {an od : Option Addr} {osl : Array (Option Value)}
    (lk : K.lookup f = some ⟨oc, od, .func (PySem.W.fnOf name qual params body scope dV kV doc pm an cdv ct), osl⟩) (hcd : PySem.W.codeIn K cdv qual = true) (S : FnScope N [x] scope) (h0 : N[0]? = some x) (hcells : ∀ n, cellsFrom n scope.names [] = [(x, n)]) (hloc : scope.names.lookup x = some .cell)
    (hbody : ∀ (A : Around) (outer : List Env) (s : Shared) (H : Hp) (v : V) (E : XK) (G : Hp), Room k (A.deeper (envOfC qual scope s.heap.objs.size f cdv)) → Ex G H → TabG G H T q →
      ∃ tc, PSc (cxOf CX0 P w K mg base N qual scope f cdv A outer s H E) body tc ∧ ∀ R : V → L2.St → Hp → Prop, (∀ p G1 H1 σ', PuT T G H G1 H1 → SoFar D T q [(x, s.heap.objs.size + 1)] G1 H1 p n → σ'[0]? = some (some v) → R (.ref p) σ' H1) → tc R (L2.start N [v]) H) :
    FnOk P w K mg base CX0 (k + 1) f (PySem.W.fnOf name qual params body scope dV kV doc pm an cdv ct) [x] (spDoors D T q x n) := by
  refine ⟨fun vs H Q E ⟨G, v, e, _⟩ => by rw [e]; rfl, fun A outer s H args us vs Q E hr e0 hb r hsp => ?_⟩
  obtain ⟨G, v, rfl, ex, tb, hQ⟩ := hsp
  have KX : K.In s.heap := e0.mod.kin.keeps fun b o e => (e0.bs b o e).1
  have lim : s.heap.NoLimit := e0.mod.nolimit.keeps fun b o e => (e0.bs b o e).1
  have hkind : ∀ y ∈ [x].zip us, scope.names.lookup y.1 = some .local ∨ (scope.names.lookup y.1 = some .cell ∧ ((cellsFrom (s.heap.objs.size + 1) scope.names []).lookup y.1).isSome = true) := fun ⟨y, u⟩ hy => by
    have ey : y = x := by simpa using (List.of_mem_zip hy).1
    rw [ey]
    exact .inr ⟨hloc, by rw [hcells]; simp⟩
  refine codeAny_call_function hr.depth (KX _ _ lk) rfl S.co S.gen rfl (PySem.W.codeRec_of KX hcd) (hb _ _ _ _ ?_)
  refine wpAny_newFunctionEnv_cells S.kind hkind fun env he s1 xx => ?_
  subst he
  refine ⟨lim.keeps xx.toInCall.keep, codeAny_func ?_⟩
  obtain ⟨tc, ht, hq⟩ := hbody A outer s H v E G (hr.deeper _) ex tb
  have I : Inv (cxOf CX0 P w K mg base N qual scope f cdv A outer s H E) [] (L2.start N [v]) H s1 := inv_start S hr.hd e0 rfl r xx
  refine wpAny_mono (ht.run s1 (L2.start N [v]) H (fun w' σ' H' => ∃ p G', w' = .ref p ∧ PuT T G H G' H' ∧ SoFar D T q [(x, s.heap.objs.size + 1)] G' H' p n ∧ σ'[0]? = some (some v)) I (hq _ fun p G1 H1 σ' pu sf hσ => ⟨p, G1, rfl, pu, sf, hσ⟩)) (fun fl s' hs => ?_) fun e s' hs => hs
  obtain ⟨u, rfl, w', σ', H', J, rv, p, G', rfl, pu, sf, hσ⟩ := hs
  have hcx : (cxOf CX0 P w K mg base N qual scope f cdv A outer s H E).env.cells.lookup x = some (s.heap.objs.size + 1) := by
    show (cellsFrom (s.heap.objs.size + 1) scope.names []).lookup x = _
    rw [hcells]
    simp
  have n1 : H' (s.heap.objs.size + 1) = none := J.freeC x _ hcx
  have n0 : H (s.heap.objs.size + 1) = none := e0.hok.fresh (Nat.le_succ _)
  obtain ⟨m, hm, hl⟩ := J.loc
  obtain ⟨u', ru, lo⟩ := hl 0 x v h0 hσ (.inr (.inl hloc))
  have cell : s'.heap.IsCell (s.heap.objs.size + 1) (some u') := by
    rcases lo with ⟨k', _⟩ | ⟨_, c3, e3, z⟩
    · have k' : scope.names.lookup x = some .local := k'
      rw [hloc] at k'
      cases k'
    · rw [hcx] at e3
      cases e3
      exact z
  obtain ⟨oc2, hoc, hdc⟩ := cell
  have ne : ∀ {b : Addr} {o : Obj}, s.heap.get? b = some o → b ≠ s.heap.objs.size + 1 := fun {b o} e z => by
    have l := Heap.lt_size e
    rw [z] at l
    exact Nat.lt_irrefl _ (Nat.lt_of_succ_lt l)
  have un : Un (frs outer) [] H H' s.heap s'.heap := J.base
  obtain ⟨exs, tbs, us', hp, hl', hv⟩ := sf
  have p2 : Pu G' H' (upd G' (s.heap.objs.size + 1) (CellO (s.heap.objs.size + 1) v)) (upd H' (s.heap.objs.size + 1) (CellO (s.heap.objs.size + 1) v)) := Pu.new pu.s n1
  refine ⟨.ref p, _, J.os, J.bare, ⟨un.keep, un.slot, fun b o e n hx => ?_, un.there, fun b xs e => upd_keep n1 (un.tups b xs e), fun b o u e => upd_keep n1 (un.frzs b o u e), fun b ps e => ?_⟩, hok_back J.hok n1 (cell_ok hoc hdc ru), rv,
    hQ p _ _ _ (pu.trans tbs.ne (.of p2)) ⟨p2.s, tbs.pu p2, us', upd_keep n1 hp, hl', fun v' hm' => (hv v' hm').mono p2.g⟩ upd_same n0⟩
  · rw [upd_ne (ne e)]
    exact un.free b o e n hx
  · obtain ⟨more, z⟩ := un.tbls b ps e
    exact ⟨more, upd_keep n1 z⟩
end Dn
set_option maxHeartbeats 4000000
namespace Dn
open PySem PySem.Spec PyProof.Rows L2 HotX L2H
/-- `_law_kind(e)` where e is handled -/
def tKind (K : PySem.W.Frag) (mg : Str → Option Value) (i : Nat) (a : Addr) (cls : Value) (d : Option Addr) : TE := fun σ H Q => σ[i]? = some (some (.ref a)) ∧ ∃ c D k, cls = .ref D ∧ d = none ∧ KCls K mg c D k ∧ ∀ H', (∀ b o, H b = some o → H' b = some o) → Q (.str (kNames.getD k "")) H'
end Dn
set_option maxHeartbeats 4000000
namespace Dn
open PySem PySem.Spec PyProof.Rows L2 HotX L2H LamX
open Evl (Ex fresh_back)
/-- what a lambda's body does -/
def Does (P : Program) (w : World) (K : PySem.W.Frag) (mg : Str → Option Value) (base : Heap) (j : Nat) (q x : Str) (body : Expr) (scope : Scope) (v : V) (R : Hp → VK → XK → Prop) : Prop :=
  ∀ (A : Around) (outer : List Env) (s : Shared) (H : Hp) (E : XK) (f cx c' : Addr), Room j (A.deeper (PySem.W.envX q scope s.heap.objs.size f (.ref c') [(x, cx)])) → ∃ t : TE, PE (lamC P w K mg base A outer s H E q x scope f cx c') body t ∧ ∀ Q : VK, R H Q E → t [some v] H Q
def tDeed (P : Program) (w : World) (K : PySem.W.Frag) (mg : Str → Option Value) (base : Heap) (j i : Nat) (W : WX) : TE := fun σ H Q =>
  ∃ (f : Addr) (q x : Str) (params : Arguments) (body : Expr) (scope : Scope) (cx c' : Addr) (v : V) (R : Hp → VK → XK → Prop), σ[i]? = some (some (.ref f)) ∧ H f = some (LamO f q params body scope [(x, cx)] c') ∧ H cx = some (CellO cx v) ∧ H c' = some (CodeO c' q) ∧ Lam1 scope x ∧ NoArgs params body scope ∧
    Does P w K mg base j q x body scope v R ∧ R (delH H cx) (fun r H' => Q r (upd H' cx (CellO cx v))) (fun cls d H' => W cls d σ (upd H' cx (CellO cx v)))
theorem pe_deed {X : Cx} {W : WX} {j i : Nat} {a : Str} {p1 p2 : Pos} (tk : L2N.Takes X W) (hr : Room (j + 1) X.A) (hN : X.N[i]? = some a) (hv : Vis X.env.scope a) (hd : (a == ("__debug__" : Str)) = false := by decide) (hcd : (a == ("__classdict__" : Str)) = false := by decide) :
    PE X (.Call (.Name a p1) [] [] p2) (tDeed X.prog X.w X.K X.mg X.base j i W) := by
  refine ⟨fun pins s σ H Q I h => ?_⟩
  obtain ⟨f, q, x, params, body, scope, cx, c', v, R, hσ, hf, hc, hco, L, na, dz, hR⟩ := h
  refine wpAny_Call_Name_kw (thn ((pe_var (pos := p1) (i := i) hN hv hd hcd).run pins s σ H (fun v H1 => v = .ref f ∧ H1 = H) I ⟨.ref f, hσ, rfl, rfl⟩) fun u s1 ⟨v', H1, I1, r1, q1⟩ => ?_)
  obtain ⟨ev, eH⟩ := q1
  subst ev
  rw [eH] at I1
  obtain rfl : u = Value.ref f := r1
  obtain ⟨⟨pm, ctv, of1⟩, _, _⟩ := I1.hok f _ hf
  refine PySem.W.callWith_F0 ⟨_, _, _, _, of1⟩ ?_
  have rc : codeAny (model X.prog X.w) X.A (.call (.ref f) ⟨[], []⟩) (CR (L2N.CX X.prog X.w) X.stack X.prog X.w H s1 Q (L2.WE W σ)) s1 := by
    by_cases hr' : Room j (X.A.deeper (PySem.W.envX q scope s1.heap.objs.size f (.ref c') [(x, cx)]))
    · obtain ⟨t, h1, h2⟩ := dz X.A X.stack s1 (delH H cx) (fun cls d H' => L2.WE W σ cls d (upd H' cx (CellO cx v))) f cx c' hr'
      exact call_lamO (t := t) L I1.env0 hr hf hc hco na (fun _ => h1) (h2 _ hR)
    · exact absurd (hr.deeper _) hr'
  refine wpAny_call (codeAny_mono rc fun r s' hq => ?_)
  cases r with
  | error e => exact L2N.passAt tk σ pins H s1 e s' I1 hq
  | ok fl =>
    cases fl with
    | ret u => exact I1.after hq
    | next => exact False.elim hq
    | brk => exact False.elim hq
    | cont => exact False.elim hq
theorem pe_deed' {X : Cx} {P : Program} {w : World} {K : PySem.W.Frag} {mg : Str → Option Value} {base : Heap} {W : WX} {j i : Nat} {a : Str} {p1 p2 : Pos} (tk : L2N.Takes X W) (hr : Room (j + 1) X.A) (hN : X.N[i]? = some a) (hv : Vis X.env.scope a) (hP : X.prog = P) (hw : X.w = w) (hK : X.K = K) (hm : X.mg = mg) (hb : X.base = base)
    (hd : (a == ("__debug__" : Str)) = false := by decide) (hcd : (a == ("__classdict__" : Str)) = false := by decide) : PE X (.Call (.Name a p1) [] [] p2) (tDeed P w K mg base j i W) := by
  subst hP hw hK hm hb
  exact pe_deed tk hr hN hv hd hcd
/-- a promise is kept by what asks less -/
def RMono (R : Hp → VK → XK → Prop) : Prop := ∀ (H : Hp) (Q Q' : VK) (E E' : XK), (∀ r H', Q r H' → Q' r H') → (∀ c d H', E c d H' → E' c d H') → R H Q E → R H Q' E'
/-- a closure handed to a def that tries it -/
def TryIt (P : Program) (w : World) (K : PySem.W.Frag) (mg : Str → Option Value) (base : Heap) (j : Nat) (u : V) (H : Hp) (Q : V → Hp → Prop) (E : XK) : Prop :=
  ∃ (f : Addr) (q x : Str) (params : Arguments) (body : Expr) (scope : Scope) (cx c' : Addr) (v : V) (R : Hp → VK → XK → Prop), u = .ref f ∧ H f = some (LamO f q params body scope [(x, cx)] c') ∧ H cx = some (CellO cx v) ∧ H c' = some (CodeO c' q) ∧ Lam1 scope x ∧ NoArgs params body scope ∧
    Does P w K mg base j q x body scope v R ∧ RMono R ∧ ∀ H1, Ex H H1 → R (delH H1 cx) (fun r H' => Q r (upd H' cx (CellO cx v))) (fun cls d H' => E cls d (upd H' cx (CellO cx v)))
/-- what `_law_tried` promises -/
def spTried (P : Program) (w : World) (K : PySem.W.Frag) (mg : Str → Option Value) (base : Heap) (j : Nat) (cH : Addr) : Sp := fun vs H Q _ => ∃ u, vs = [u] ∧
  TryIt P w K mg base j u H (fun r H' => ∀ T H2, Ex H' H2 → H2 T = some (.tup [.str "told", r]) → Q (.ref T) H2)
    (fun cls d H' => ∃ c D k, cls = .ref D ∧ d = none ∧ KCls K mg c D k ∧ PySem.W.exmOne K cls (.ref cH) = some true ∧ ∀ T H2, Ex H' H2 → H2 T = some (.tup [.str (kNames.getD k "")]) → Q (.ref T) H2)
theorem rd_tried {P : Program} {w : World} {K : PySem.W.Frag} {mg : Str → Option Value} {base : Heap} {j : Nat} {cH : Addr} {u : V} {H : Hp} {Q : VK} (h : spTried P w K mg base j cH [u] H Q fun _ _ _ => False) :
    tSeq (tAsg (tTup (tCons (tC (.str "none")) tNil)) (gName 1)) (tSeq (fun D σ H => (fun W => tAsg (tTup (tCons (tC (.str "told")) (tCons (tDeed P w K mg base j 0 W) tNil))) (gName 1)) (wAs K (.ref cH) 2 (fun a cls d => tAsg (tTup (tCons (tKind K mg 2 a cls d) tNil)) (gName 1)) (fun _ _ _ _ => False) D) D σ H) (tRet (tVar 1)))
      { nx := fun _ H' => Q .non H', rt := Q } [some u, none, none] H := by
  obtain ⟨u', eu, h⟩ := h
  obtain rfl : u = u' := List.cons.inj eu |>.1
  obtain ⟨f, q, x, params, body, scope, cx, c', v, R, rfl, hf, hc, hco, L, na, dz, mono, hR⟩ := h
  refine rd_seq (i := 1) ⟨by show 1 ≤ sizeLine; decide, fun p0 n0 => ?_⟩
  refine ⟨f, q, x, params, body, scope, cx, c', v, R, rfl, upd_keep n0 hf, upd_keep n0 hc, upd_keep n0 hco, L, na, dz, mono _ _ _ _ _ (fun r H' hq => ?_) (fun cls d H' he => ?_) (hR _ fun b o e => upd_keep n0 e)⟩
  · refine ⟨by show 2 ≤ sizeLine; decide, fun p n => ⟨_, rfl, ?_⟩⟩
    exact hq p _ (fun b o e => upd_keep n e) upd_same
  · obtain ⟨c, D, k, rfl, rfl, F, ex, hq⟩ := he
    refine ⟨true, ex, fun _ a na => ⟨rfl, c, D, k, rfl, rfl, F, fun H2 k2 => ⟨by show 1 ≤ sizeLine; decide, fun p n => ⟨_, rfl, ?_⟩⟩⟩, fun z => by cases z⟩
    exact hq p _ (fun b o e => upd_keep n (k2 b o e)) upd_same
end Dn
set_option maxHeartbeats 4000000
namespace Dn
open PySem PySem.Spec PyProof.Rows L2 HotX L2H LamX
open Evl (Ex fresh_back)
theorem op_neDK {X : Cx} {K : PySem.W.Frag} (hK : X.K = K) (hu : X.A.units + 64 < cLine) : OpR X (compareOp .NotEq) (rNeD K) := by subst hK; exact op_neD hu
theorem eqv_self1 {x : Str} : PyData.eqv (.tuple [.str x]) (.tuple [.str x]) = true := by
  simp [PyData.eqv, PyData.eqvAll]
theorem shaped_1 {k : Nat} (hk : k < 12) : SeqAt.shaped (.tuple [.str (kNames.getD k "")]) = true := by
  have : k = 0 ∨ k = 1 ∨ k = 2 ∨ k = 3 ∨ k = 4 ∨ k = 5 ∨ k = 6 ∨ k = 7 ∨ k = 8 ∨ k = 9 ∨ k = 10 ∨ k = 11 := by omega
  rcases this with h | h | h | h | h | h | h | h | h | h | h | h <;> subst h <;> decide +kernel
theorem rd_ne1 {sp : Sp} {E : XK} {i : Nat} {x : V} {σ : L2.St} {H : Hp} {tb : TE} {r : R2} {Q : Bool → Hp → Prop} (hi : σ[i]? = some (some x)) (h : sp [x] H (fun v H1 => tb σ H1 fun y H2 => r v y H2 fun z H' => ∃ k, z = .bl k ∧ Q k H') E) :
    tTest (tOp r (tCall sp [] E (tCons (tVar i) tNil)) tb) σ H Q := ⟨x, hi, h⟩
/-- the closure raises D whatever grows -/
def Refuses (P : Program) (w : World) (K : PySem.W.Frag) (mg : Str → Option Value) (base : Heap) (j : Nat) (D : Addr) (u : V) (H : Hp) : Prop :=
  ∃ (f : Addr) (q x : Str) (params : Arguments) (body : Expr) (scope : Scope) (cx c' : Addr) (v : V) (G : Hp), u = .ref f ∧ H f = some (LamO f q params body scope [(x, cx)] c') ∧ H cx = some (CellO cx v) ∧ H c' = some (CodeO c' q) ∧ Lam1 scope x ∧ NoArgs params body scope ∧ Ex G H ∧ G cx = none ∧
    Does P w K mg base j q x body scope v fun H Q E => Ex G H ∧ ∀ H', Ex H H' → E (.ref D) none H'
section
variable {P : Program} {w : World} {K : PySem.W.Frag} {mg : Str → Option Value} {base : Heap} {j : Nat} {D cH : Addr} {u : V} {H : Hp}
theorem Refuses.mono {H' : Hp} (h : Refuses P w K mg base j D u H) (e : Ex H H') : Refuses P w K mg base j D u H' := by
  obtain ⟨f, q, x, params, body, scope, cx, c', v, G, h1, h2, h3, h4, h5, h6, h7, h8, h9⟩ := h
  exact ⟨f, q, x, params, body, scope, cx, c', v, G, h1, e _ _ h2, e _ _ h3, e _ _ h4, h5, h6, h7.trans e, h8, h9⟩
theorem Refuses.tried (h : Refuses P w K mg base j D u H) {c : Nat → Addr} {k : Nat} (F : KCls K mg c D k) (hx : PySem.W.exmOne K (.ref D) (.ref cH) = some true) {Q : VK} (q : ∀ T H2, Ex H H2 → H2 T = some (.tup [.str (kNames.getD k "")]) → Q (.ref T) H2) {E : XK} :
    spTried P w K mg base j cH [u] H Q E := by
  obtain ⟨f, qq, x, params, body, scope, cx, c', v, G, h1, h2, h3, h4, h5, h6, h7, h8, h9⟩ := h
  refine ⟨u, rfl, f, qq, x, params, body, scope, cx, c', v, _, h1, h2, h3, h4, h5, h6, h9, fun H Q Q' E E' hq he ⟨a, b⟩ => ⟨a, fun H' e => he _ _ _ (b H' e)⟩, fun H1 e1 => ⟨fun b o e => ?_, fun H' e' => ⟨c, D, k, rfl, rfl, F, hx, fun T H2 e2 t2 => q T H2 (fun b o e => ?_) t2⟩⟩⟩
  · rw [delH_ne (fun z => by rw [z, h8] at e; cases e)]
    exact e1 _ _ (h7 _ _ e)
  · refine e2 _ _ ?_
    by_cases hb : b = cx
    · rw [hb] at e ⊢
      rw [h3] at e
      rw [upd_same]
      exact e
    · rw [upd_ne hb]
      exact e' _ _ (by rw [delH_ne hb]; exact e1 _ _ e)
/-- what `_law_refused` promises here: all of them raise it -/
def spRefused (P : Program) (w : World) (K : PySem.W.Frag) (mg : Str → Option Value) (base : Heap) (j : Nat) (cH : Addr) : Sp := fun vs H Q _ => ∃ p us D k c, vs = [.ref p, .str (kNames.getD k "")] ∧ H p = some (.lst us) ∧ KCls K mg c D k ∧ PySem.W.exmOne K (.ref D) (.ref cH) = some true ∧ (∀ u ∈ us, Refuses P w K mg base j D u H) ∧
  ∀ H', Ex H H' → Q (.bl true) H'
end
end Dn
set_option maxHeartbeats 4000000
namespace Dn
open PySem PySem.Spec PyProof.Rows L2 HotX L2H LamX
open Evl (Ex fresh_back)
/-- a class that is raised with a text -/
structure RaC (K : PySem.W.Frag) (mg : Str → Option Value) (x : Str) (C : Addr) : Prop where
  ex : ∃ (bm : List Value) (B newId initId : String), ExcBaseFacts B newId initId bm ∧ PySem.W.excIn K C bm newId = true
  gC : mg x = some (.ref C)
  kC : PySem.W.keepIn K (.ref C) = true
  sub : PySem.W.subIn K (.ref C) (.type "BaseException") = some true
  ty : PySem.W.typeIn K (.ref C) = some (.type "type")
theorem RaC.make {X : Cx} {x m : Str} {C : Addr} {j : Nat} {p p2 pos : Pos} (r : RaC X.K X.mg x C) (hg : Gl X x) (hdb : (x == ("__debug__" : Str)) = false := by decide) : L2N.PMk X (.Call (.Name x p) [.Constant (.str m) j p2] [] pos) (fun _ H Q => Q (.ref C) none H) := by
  obtain ⟨bm, B, ni, ii, F, q⟩ := r.ex
  exact L2N.pmk_own F q r.gC r.kC (raises_own r.sub r.ty) hg hdb
/-- what stands at place i is bad: C is raised -/
def spR (n i : Nat) (bad : D → Prop) (C : Addr) : Sp := fun vs H _ E => vs.length = n ∧ ∃ G v d, vs[i]? = some v ∧ Ex G H ∧ Rp G v d ∧ bad d ∧ ∀ H', Ex H H' → E (.ref C) none H'
structure RFn (P : Program) (w : World) (K : PySem.W.Frag) (mg : Str → Option Value) (base : Heap) (x : Str) (k n i : Nat) (bad : D → Prop) (C : Addr) : Prop where
  ex : ∃ (f : Addr) (fd : FuncData) (ps : List Str), mg x = some (.ref f) ∧ PySem.W.keepIn K (.ref f) = true ∧ Binds K fd ps [] ∧ ps.length = n ∧ FnOk P w K mg base (L2N.CX P w) k f fd ps (spR n i bad C)
section
variable {P : Program} {w : World} {K : PySem.W.Frag} {mg : Str → Option Value} {base : Heap} {bad : D → Prop} {C : Addr}
theorem fn_raise {x qual : Str} {st : Stmt} {N ps : List Str} {k i : Nat} {f : Addr} {fd : FuncData} (F : Fun K x qual st f fd) (S : FnScope N ps (defScope st))
    (body : ∀ (cdv : Value) (A : Around) (outer : List Env) (s : Shared) (H : Hp) (vs : List V) (E : XK) (G : Hp) (v : V) (d : D), Room k (A.deeper (envOfC qual (defScope st) s.heap.objs.size f cdv)) → vs.length = ps.length → vs[i]? = some v → Ex G H → Rp G v d → bad d → (∀ H', Ex H H' → E (.ref C) none H') →
      ∃ t, PSs (cxOf (L2N.CX P w) P w K mg base N qual (defScope st) f cdv A outer s H E) (defBody st) t ∧ ∀ Dd : Ends, t Dd (L2.start N vs) H) : FnOk P w K mg base (L2N.CX P w) (k + 1) f fd ps (spR ps.length i bad C) := by
  obtain ⟨oc, od, kV, doc, pm, an, cdv, ct, osl, rfl, lk, hcd⟩ := F.ex
  refine fn_of lk hcd S (fun vs H Q E h => h.1) fun A outer s H vs Q E hr hsp => ?_
  obtain ⟨hl, G, v, d, hv, ex, rp, hb, hE⟩ := hsp
  obtain ⟨t, h1, h2⟩ := body cdv A outer s H vs E G v d hr hl hv ex rp hb hE
  exact ⟨t, h1, h2 _⟩
theorem RFn.of {x : Str} {st : Stmt} {N ps : List Str} {k n i : Nat} (d : Df K mg x st ps) (S : FnScope N ps (defScope st)) (hn : ps.length = n)
    (body : ∀ (f : Addr) (cdv : Value) (A : Around) (outer : List Env) (s : Shared) (H : Hp) (vs : List V) (E : XK) (G : Hp) (v : V) (d : D), Room k (A.deeper (envOfC x (defScope st) s.heap.objs.size f cdv)) → vs.length = n → vs[i]? = some v → Ex G H → Rp G v d → bad d → (∀ H', Ex H H' → E (.ref C) none H') →
      ∃ t, PSs (cxOf (L2N.CX P w) P w K mg base N x (defScope st) f cdv A outer s H E) (defBody st) t ∧ ∀ Dd : Ends, t Dd (L2.start N vs) H) : RFn P w K mg base x (k + 1) n i bad C := by
  subst hn
  obtain ⟨f, fd, hm, F, hb⟩ := d.ex
  exact ⟨f, fd, ps, hm, F.kp, hb, rfl, fn_raise F S (body f)⟩
theorem takesE {N : List Str} {qual : Str} {scope : Scope} {f : Addr} {cdv : Value} {A : Around} {outer : List Env} {s : Shared} {H : Hp} {E : XK} : L2N.Takes (cxOf (L2N.CX P w) P w K mg base N qual scope f cdv A outer s H E) (fun cls d _ H => E cls d H) :=
  L2N.takes_of (E := E) rfl rfl rfl rfl
theorem passE {N : List Str} {qual : Str} {scope : Scope} {f : Addr} {cdv : Value} {A : Around} {outer : List Env} {s : Shared} {H : Hp} {E : XK} : Passes (L2N.CX P w) (cxOf (L2N.CX P w) P w K mg base N qual scope f cdv A outer s H E) E :=
  L2N.passes_call takesE fun _ _ _ _ h => h
theorem takesL {A : Around} {outer : List Env} {s : Shared} {H : Hp} {E : XK} {q x : Str} {scope : Scope} {f cx c' : Addr} : L2N.Takes (lamC P w K mg base A outer s H E q x scope f cx c') (fun cls d _ H => E cls d H) :=
  L2N.takes_of (E := E) rfl rfl rfl rfl
theorem passL {A : Around} {outer : List Env} {s : Shared} {H : Hp} {E : XK} {q x : Str} {scope : Scope} {f cx c' : Addr} : Passes (L2N.CX P w) (lamC P w K mg base A outer s H E q x scope f cx c') E :=
  L2N.passes_call takesL fun _ _ _ _ h => h
end
theorem fn_false {P : Program} {w : World} {K : PySem.W.Frag} {mg : Str → Option Value} {base : Heap} {CX : CXT} {k : Nat} {f : Addr} {fd : FuncData} {ps : List Str} : FnOk P w K mg base CX k f fd ps (fun _ _ _ _ => False) :=
  ⟨fun _ _ _ _ h => h.elim, fun _ _ _ _ _ _ _ _ _ _ _ _ _ h => h.elim⟩
theorem raise_if {X : Cx} {c : Expr} {st : Stmt} {pos : Pos} {Fc : Mo Bool} {t1 : TS} {σ : L2.St} {H : Hp} (hc : DenT X c Fc) (h1 : PS X st t1)
    (h : ∃ (P : Addr → Prop) (b : Bs) (env env' : DEnv) (G : Hp), Rep P b G H σ env ∧ Fc env = some (true, env') ∧ ∀ G' H', Gr P G H G' H' → ∀ Dd : Ends, t1 Dd σ H') : ∃ t, PSs X [.If c [st] [] pos] t ∧ ∀ Dd : Ends, t Dd σ H := by
  obtain ⟨tt, c1, c2⟩ := hc
  obtain ⟨P, b, env, env', G, r, e, k⟩ := h
  exact ⟨_, pss_one (ps_if c1 (pss_one h1) pss_nil), fun Dd => c2 P b σ env G H true env' r e _ fun G' H' g _ => k G' H' g Dd⟩
theorem not_call {F : List D → Option D} {d : D} (h : F [d] = some (.bool false)) : mNot (mMap gTru (mMap (lenIs 1 F) (mCons (mVar 0) (mRet [])))) [some (SV.fz d)] = some (true, [some (SV.fz d)]) := by
  have h' : lenIs 1 F [d] = some (.bool false) := by unfold lenIs; rw [if_pos (show [d].length = 1 from rfl)]; exact h
  have e1 : mCons (mVar 0) (mRet []) [some (SV.fz d)] = some ([d], [some (SV.fz d)]) := rfl
  have e2 : mMap (lenIs 1 F) (mCons (mVar 0) (mRet [])) [some (SV.fz d)] = some (.bool false, [some (SV.fz d)]) := by
    unfold mMap mBind
    rw [e1]
    show mLift (lenIs 1 F [d]) _ = _
    rw [h']
    rfl
  have e3 : mMap gTru (mMap (lenIs 1 F) (mCons (mVar 0) (mRet []))) [some (SV.fz d)] = some (false, [some (SV.fz d)]) := by
    show mBind _ _ _ = _
    unfold mBind
    rw [e2]
    rfl
  unfold mNot mBind
  rw [e3]
  rfl
end Dn
set_option maxHeartbeats 4000000
namespace Dn
open PySem PySem.Spec PyProof.Rows L2 HotX L2H LamX
open Evl (Ex fresh_back)
/-- growth, the table at T apart -/
abbrev GrT (T : Addr) (P : Addr → Prop) : Hp → Hp → Hp → Hp → Prop := Gr fun a => P a ∨ a = T
theorem TabG.gr {T : Addr} {q0 : Str} {P : Addr → Prop} {G H G' H' : Hp} (t : TabG G H T q0) (nT : ¬ P T) (g : Gr P G H G' H') : TabG G' H' T q0 := by
  obtain ⟨h0, ps, h1, h2, h3⟩ := t
  refine ⟨g.n T nT h0, ps, g.h T _ h1 nT, h2, fun pos cv e => ?_⟩
  obtain ⟨c, e1, e2⟩ := h3 pos cv e
  exact ⟨c, e1, g.g _ _ e2⟩
def PostSJ (T : Addr) (q0 : Str) (P : Addr → Prop) (b : Bs) (G H : Hp) (r : Fl) (Dd : Ends) : Prop :=
  match r with
  | .nx env' => ∀ σ' G' H', GrT T P G H G' H' → Rep P b G' H' σ' env' → TabG G' H' T q0 → Dd.nx σ' H'
  | .rt d env' => ∀ v σ' G' H', GrT T P G H G' H' → Rep P b G' H' σ' env' → TabG G' H' T q0 → Rp G' v d → Dd.rt v H'
  | .bk env' => ∀ σ' G' H', GrT T P G H G' H' → Rep P b G' H' σ' env' → TabG G' H' T q0 → Dd.bk σ' H'
  | .ct env' => ∀ σ' G' H', GrT T P G H G' H' → Rep P b G' H' σ' env' → TabG G' H' T q0 → Dd.ct σ' H'
theorem PostSJ.gr {T : Addr} {q0 : Str} {P : Addr → Prop} {b : Bs} {G H G1 H1 : Hp} {r : Fl} {Dd : Ends} (h : PostSJ T q0 P b G H r Dd) (g : GrT T P G H G1 H1) : PostSJ T q0 P b G1 H1 r Dd := by
  cases r with
  | nx env => exact fun σ' G' H' g' r' t' => h σ' G' H' (g.trans g') r' t'
  | rt d env => exact fun v σ' G' H' g' r' t' p => h v σ' G' H' (g.trans g') r' t' p
  | bk env => exact fun σ' G' H' g' r' t' => h σ' G' H' (g.trans g') r' t'
  | ct env => exact fun σ' G' H' g' r' t' => h σ' G' H' (g.trans g') r' t'
def RunSJ (T : Addr) (q0 : Str) (t : TS) (F : So) : Prop := ∀ (P : Addr → Prop) (b : Bs) (σ : L2.St) (env : DEnv) (G H : Hp) (r : Fl), ¬ P T → Rep P b G H σ env → TabG G H T q0 → F env = some r → ∀ Dd : Ends, PostSJ T q0 P b G H r Dd → t Dd σ H
def DenSJ (T : Addr) (q0 : Str) (X : Cx) (st : Stmt) (F : So) : Prop := ∃ t : TS, PS X st t ∧ RunSJ T q0 t F
def DenSsJ (T : Addr) (q0 : Str) (X : Cx) (st : List Stmt) (F : So) : Prop := ∃ t : TS, PSs X st t ∧ RunSJ T q0 t F
/-- a test where the table may grow -/
def DenTJ (T : Addr) (q0 : Str) (X : Cx) (e : Expr) (F : Mo Bool) : Prop :=
  ∃ t : TT, L2.PT X e t ∧ ∀ (P : Addr → Prop) (b : Bs) (σ : L2.St) (env : DEnv) (G H : Hp) (d : Bool) (env' : DEnv), ¬ P T → Rep P b G H σ env → TabG G H T q0 → F env = some (d, env') →
    ∀ Q : Bool → Hp → Prop, (∀ G' H', GrT T P G H G' H' → Rep P b G' H' σ env' → TabG G' H' T q0 → Q d H') → t σ H Q
section
variable {X : Cx} {T : Addr} {q0 : Str} {st : Stmt} {rest : List Stmt} {pos : Pos}
theorem RunSJ.of {t : TS} {F : So} (h : RunS t F) : RunSJ T q0 t F := fun P b σ env G H r nT rr tb e Dd q => by
  refine h P b σ env G H r rr e Dd ?_
  cases r with
  | nx e1 => exact fun σ' G' H' g r' => q σ' G' H' (g.wk fun _ => .inl) r' (tb.gr nT g)
  | rt d e1 => exact fun v σ' G' H' g r' p => q v σ' G' H' (g.wk fun _ => .inl) r' (tb.gr nT g) p
  | bk e1 => exact fun σ' G' H' g r' => q σ' G' H' (g.wk fun _ => .inl) r' (tb.gr nT g)
  | ct e1 => exact fun σ' G' H' g r' => q σ' G' H' (g.wk fun _ => .inl) r' (tb.gr nT g)
theorem densJ {F : So} (h : DenS X st F) : DenSJ T q0 X st F := h.imp fun _ h => ⟨h.1, RunSJ.of h.2⟩
theorem denssJ {F : So} (h : DenSs X rest F) : DenSsJ T q0 X rest F := h.imp fun _ h => ⟨h.1, RunSJ.of h.2⟩
theorem denssJ_cons {F F' : So} (h1 : DenSJ T q0 X st F) (h2 : DenSsJ T q0 X rest F') : DenSsJ T q0 X (st :: rest) (sSeq F F') := by
  obtain ⟨t, h1, h2'⟩ := h1
  obtain ⟨u, k1, k2⟩ := h2
  refine ⟨_, pss_cons h1 k1, fun P b σ env G H r nT rr tb h Dd q => ?_⟩
  unfold sSeq at h
  cases w : F env with
  | none => rw [w] at h; cases h
  | some r1 =>
    rw [w] at h
    refine h2' P b σ env G H r1 nT rr tb w { Dd with nx := u Dd } ?_
    cases r1 with
    | nx e1 => exact fun σ' G' H' g r' t' => k2 P b σ' e1 G' H' r nT r' t' h Dd (q.gr g)
    | rt d e1 => cases h; exact q
    | bk e1 => cases h; exact q
    | ct e1 => cases h; exact q
theorem densJ_if {c : Expr} {u v : List Stmt} {Fc : Mo Bool} {F F' : So} (hc : DenTJ T q0 X c Fc) (h1 : DenSsJ T q0 X u F) (h2 : DenSsJ T q0 X v F') : DenSJ T q0 X (.If c u v pos) (sIf Fc F F') := by
  obtain ⟨t, c1, c2⟩ := hc
  obtain ⟨t1, h1, h1'⟩ := h1
  obtain ⟨t2, h2, h2'⟩ := h2
  refine ⟨_, ps_if c1 h1 h2, fun P b σ env G H r nT rr tb h Dd q => ?_⟩
  unfold sIf at h
  split at h
  · rename_i k e1 hk
    refine c2 P b σ env G H k e1 nT rr tb hk _ fun G' H' g r' t' => ?_
    cases k with
    | true =>
      rw [if_pos rfl] at h ⊢
      exact h1' P b σ e1 G' H' r nT r' t' h Dd (q.gr g)
    | false =>
      rw [if_neg (by decide)] at h ⊢
      exact h2' P b σ e1 G' H' r nT r' t' h Dd (q.gr g)
  · cases h
theorem densJ_for {tg iter : Expr} {body : List Stmt} {ts : List Nat} {Fi : Mo (List D)} {B : D → DEnv → Option DEnv} {Fb : So} (hp : PassesOwn (model X.prog X.w) X.A X.env X.xe) (hc : X.calm = true) (hi : DenI X tg iter Fi) (hg : DenG X tg ts B) (hb : DenSsJ T q0 X body Fb)
    (hs : ∀ x, foldedSetIterable iter X.env x = pure x := by intro _; rfl) : DenSJ T q0 X (.For tg iter body [] pos) (sFor Fi B Fb) := by
  obtain ⟨wi, i1, i2⟩ := hi
  obtain ⟨g, g1, g2⟩ := hg
  obtain ⟨tb, b1, b2⟩ := hb
  refine ⟨_, ps_for hp hc i1 g1 b1 hs, fun P b σ env G H r nT rr tb h Dd q => ?_⟩
  unfold sFor at h
  split at h
  · rename_i ds e1 hd
    refine i2 P b σ env G H ds e1 rr hd _ fun J G1 H1 gr1 r1 hy => ?_
    refine ⟨fun i m σ' H' => m = ds.length - i ∧ i ≤ ds.length ∧ ∃ e G', GrT T P G1 H1 G' H' ∧ TabG G' H' T q0 ∧ Rep P b G' H' σ' e ∧ forGo B Fb (ds.drop i) e = some r, ⟨_, rfl, Nat.zero_le _, e1, G1, Gr.refl, tb.gr nT gr1, r1, by rw [List.drop_zero]; exact h⟩, ?_⟩
    rintro i m σ' H' ⟨rfl, hi, e, G', gr, tbj, r', hf⟩
    by_cases hlt : i < ds.length
    · have hdi : ds[i]? = some ds[i] := List.getElem?_eq_getElem hlt
      obtain ⟨go, yl⟩ := (hy i G' H' gr.g r'.sub).2 _ hdi
      refine .inr ⟨go, fun σ2 H2 => i + 1 ≤ ds.length ∧ ∃ e G2, GrT T P G1 H1 G2 H2 ∧ TabG G2 H2 T q0 ∧ Rep P b G2 H2 σ2 e ∧ forGo B Fb (ds.drop (i + 1)) e = some r, fun σ2 H2 h2 => ⟨ds.length - (i + 1), by omega, rfl, h2⟩, fun x H2 y => ?_⟩
      obtain ⟨G2, pu, rx⟩ := yl x H2 y
      rw [List.drop_eq_getElem_cons hlt] at hf
      unfold forGo at hf
      cases w : B ds[i] e with
      | none => simp only [w] at hf; cases hf
      | some e2 =>
        simp only [w] at hf
        have gr2 := gr.trans ((pu.gr r'.fresh).wk (P' := fun a => P a ∨ a = T) fun _ => .inl)
        have tb2 := tbj.pu pu
        refine g2 P b σ' e G2 H2 x _ e2 (r'.pu pu) rx w _ fun σ2 r2 _ _ => ?_
        cases w2 : Fb e2 with
        | none => simp only [w2] at hf; cases hf
        | some r3 =>
          simp only [w2] at hf
          refine b2 P b σ2 e2 G2 H2 r3 nT r2 tb2 w2 _ ?_
          cases r3 with
          | nx e3 => exact fun σ3 G3 H3 g3 r3 t3 => ⟨hlt, e3, G3, gr2.trans g3, t3, r3, hf⟩
          | ct e3 => exact fun σ3 G3 H3 g3 r3 t3 => ⟨hlt, e3, G3, gr2.trans g3, t3, r3, hf⟩
          | bk e3 =>
            cases hf
            exact fun σ3 G3 H3 g3 r3 t3 => q σ3 G3 H3 (((gr1.wk fun _ => .inl).trans gr2).trans g3) r3 t3
          | rt d e3 =>
            cases hf
            exact fun v σ3 G3 H3 g3 r3 t3 p => q v σ3 G3 H3 (((gr1.wk fun _ => .inl).trans gr2).trans g3) r3 t3 p
    · have e0 : i = ds.length := by omega
      subst e0
      rw [List.drop_length] at hf
      cases hf
      exact .inl ⟨(hy _ G' H' gr.g r'.sub).1 (Nat.le_refl _), q σ' G' H' ((gr1.wk fun _ => .inl).trans gr) r' tbj⟩
  · cases h
theorem densJ_forOwn (i : Nat) {x : Str} {pos' : Pos} {iter : Expr} {body : List Stmt} {F : Mo D} {Fb : So} (hp : PassesOwn (model X.prog X.w) X.A X.env X.xe) (hc : X.calm = true) (hN : X.N.Nodup) (hi : X.N[i]? = some x) (hx : Loc X.env.scope x)
    (he : DenN X iter 2 F) (hb : DenSsJ T q0 X body Fb) (hs : ∀ x, foldedSetIterable iter X.env x = pure x := by intro _; rfl)
    (hf : X.fn x = true ∨ X.env.scope.names.lookup x = some .local := by first | exact .inl rfl | exact .inr rfl | assumption) : DenSJ T q0 X (.For (.Name x pos') iter body [] pos) (sForOwn i F Fb) := by
  obtain ⟨te, i1, i2⟩ := he
  obtain ⟨tb, b1, b2⟩ := hb
  refine ⟨_, ps_for hp hc (pi_list i1) (pg_name hN hi hx hf) b1 hs, fun P b σ env G H r nT rr tb h Dd q => ?_⟩
  have ne : ∀ {c : Addr}, P c → c ≠ T := fun p z => nT (by rw [← z]; exact p)
  unfold sForOwn at h
  split at h
  · rename_i ds e1 hd
    refine i2 P b σ env G H _ e1 rr hd _ fun v G1 H1 N gr1 r1 t => ?_
    have tb1 := tb.gr nT gr1
    obtain ⟨Lt, hLt, ht⟩ := t.r
    unfold OwnR at ht
    obtain ⟨a, vs, rfl, ha, hla, hn, hch⟩ := ht
    let M : Nat → Addr → Prop := fun i c => Lt c = some [] ∨ ∃ j q, i ≤ j ∧ Lt c = some (j :: q)
    have hMN : ∀ i c, M i c → N c := fun i c z => by
      rcases z with z | ⟨j, q, _, z⟩
      · exact hLt c _ z
      · exact hLt c _ z
    have hM : ∀ i c, M (i + 1) c → M i c := fun i c z => by
      rcases z with z | ⟨j, q, hj, z⟩
      · exact .inl z
      · exact .inr ⟨j, q, by omega, z⟩
    refine ⟨a, rfl, ⟨vs, .of ha⟩, fun i m σ' H' => m = ds.length - i ∧ i ≤ ds.length ∧ ∃ e G', GrT T P G1 H1 G' H' ∧ TabG G' H' T q0 ∧ Rep (fun c => P c ∧ ¬ M i c) b G' H' σ' e ∧ H' a = some (.lst vs) ∧ (∀ c, M i c → G' c = none ∧ ∀ o, H1 c = some o → H' c = some o) ∧ forOwnGo _ Fb (ds.drop i) e = some r,
      ⟨_, rfl, Nat.zero_le _, e1, G1, Gr.refl, tb1, r1.wkP fun c z => ⟨z.1, fun y => z.2 (hMN 0 c y)⟩, ha, fun c z => ⟨(t.n c (hMN 0 c z)).2.1, fun _ e => e⟩, by rw [List.drop_zero]; exact h⟩, ?_⟩
    rintro j m σ' H' ⟨rfl, hj, e, G', gr, tbj, r', haj, hk, hf'⟩
    by_cases hlt : j < ds.length
    · have hdj : ds[j]? = some ds[j] := List.getElem?_eq_getElem hlt
      have hvl : j < vs.length := by omega
      have hvj : vs[j]? = some vs[j] := List.getElem?_eq_getElem hvl
      refine .inr ⟨⟨vs, vs[j], .of haj, hvj⟩, fun σ2 H2 => j + 1 ≤ ds.length ∧ ∃ e G2, GrT T P G1 H1 G2 H2 ∧ TabG G2 H2 T q0 ∧ Rep (fun c => P c ∧ ¬ M (j + 1) c) b G2 H2 σ2 e ∧ H2 a = some (.lst vs) ∧ (∀ c, M (j + 1) c → G2 c = none ∧ ∀ o, H1 c = some o → H2 c = some o) ∧ forOwnGo _ Fb (ds.drop (j + 1)) e = some r, fun σ2 H2 h2 => ⟨ds.length - (j + 1), by omega, rfl, h2⟩, fun x H2 y => ?_⟩
      obtain ⟨rfl, y⟩ := y
      have hy := y vs (.of haj)
      rw [hvj] at hy
      cases hy
      rw [List.drop_eq_getElem_cons hlt] at hf'
      unfold forOwnGo at hf'
      have hcj := hch j _ _ hvj hdj
      have tj : Tree (fun c => P c ∧ ¬ M (j + 1) c) G' H2 (fun c => ∃ q, Lt c = some (j :: q)) 1 vs[j] ds[j] := by
        refine ⟨fun c hc' => ?_, fun c => match Lt c with | some (m :: q) => if m = j then some q else none | _ => none, fun c p hc' => ?_, ?_⟩
        · obtain ⟨q', hq'⟩ := hc'
          have hMc : M j c := .inr ⟨j, q', Nat.le_refl _, hq'⟩
          have hNc := t.n c (hMN j c hMc)
          refine ⟨⟨hNc.1, fun z => ?_⟩, (hk c hMc).1, ?_⟩
          · rcases z with z | ⟨m, q2, hm, z⟩
            · rw [hq'] at z; cases z
            · rw [hq'] at z; cases z; omega
          · cases w : H1 c with
            | none => exact absurd w hNc.2.2
            | some o => exact some_ne ((hk c hMc).2 o w)
        · simp only [] at hc'
          split at hc'
          · rename_i m q' w
            split at hc'
            · rename_i e2
              subst e2
              exact ⟨q', w⟩
            · cases hc'
          · cases hc'
        · refine hcj.keep gr.g 1 fun c q' hq' => ?_
          have hq2 : Lt c = some (j :: q') := by simpa using hq'
          refine ⟨by simp [hq2], fun o ho => (hk c (.inr ⟨j, q', Nat.le_refl _, hq2⟩)).2 o ho⟩
      have rj : Rep (fun c => (P c ∧ ¬ M (j + 1) c) ∧ ¬ ∃ q, Lt c = some (j :: q)) b G' H2 σ' e := r'.wkP fun c z => ⟨⟨z.1, fun y => z.2 (hM j c y)⟩, fun ⟨q', hq'⟩ => z.2 (.inr ⟨j, q', Nat.le_refl _, hq'⟩)⟩
      have r2 := rj.ownNew tj i
      have wk : ∀ {Ga Ha Gb Hb : Hp}, GrT T (fun c => P c ∧ ¬ M (j + 1) c) Ga Ha Gb Hb → GrT T P Ga Ha Gb Hb := fun g => g.wk fun x h => h.imp (fun h => h.1) id
      have hMa : M (j + 1) a := .inl hla
      cases w2 : Fb (e.set i (some (SV.ow false 0 ds[j]))) with
      | none => simp only [w2] at hf'; cases hf'
      | some r3 =>
        simp only [w2] at hf'
        refine b2 _ b _ _ G' H2 r3 (fun z => nT z.1) r2 tbj w2 _ ?_
        have stay : ∀ {G3 H3 : Hp}, GrT T (fun c => P c ∧ ¬ M (j + 1) c) G' H2 G3 H3 → H3 a = some (.lst vs) ∧ (∀ c, M (j + 1) c → G3 c = none ∧ ∀ o, H1 c = some o → H3 c = some o) := fun g3 =>
          ⟨g3.h _ _ haj fun z => z.elim (fun z => z.2 hMa) (ne (t.n a (hMN _ a hMa)).1), fun c hc' => ⟨g3.n c (fun z => z.elim (fun z => z.2 hc') (ne (t.n c (hMN _ c hc')).1)) (hk c (hM j c hc')).1, fun o ho => g3.h c o ((hk c (hM j c hc')).2 o ho) fun z => z.elim (fun z => z.2 hc') (ne (t.n c (hMN _ c hc')).1)⟩⟩
        cases r3 with
        | nx e3 => exact fun σ3 G3 H3 g3 r3 t3 => ⟨hlt, e3, G3, gr.trans (wk g3), t3, r3, (stay g3).1, (stay g3).2, hf'⟩
        | ct e3 => exact fun σ3 G3 H3 g3 r3 t3 => ⟨hlt, e3, G3, gr.trans (wk g3), t3, r3, (stay g3).1, (stay g3).2, hf'⟩
        | bk e3 =>
          cases hf'
          exact fun σ3 G3 H3 g3 r3 t3 => q σ3 G3 H3 (((gr1.wk fun _ => .inl).trans gr).trans (wk g3)) (r3.wkP fun _ z => z.1) t3
        | rt d e3 =>
          cases hf'
          exact fun v σ3 G3 H3 g3 r3 t3 p => q v σ3 G3 H3 (((gr1.wk fun _ => .inl).trans gr).trans (wk g3)) (r3.wkP fun _ z => z.1) t3 p
    · have e0 : j = ds.length := by omega
      subst e0
      rw [List.drop_length] at hf'
      cases hf'
      exact .inl ⟨⟨vs, .of haj, by omega⟩, q σ' G' H' ((gr1.wk fun _ => .inl).trans gr) (r'.wkP fun _ z => z.1) tbj⟩
  · cases h
end
end Dn
set_option maxHeartbeats 4000000
namespace Dn
open PySem PySem.Spec PyProof.Rows L2 HotX L2H LamX
open Evl (Ex fresh_back)
section
variable {P : Program} {w : World} {K : PySem.W.Frag} {mg : Str → Option Value} {base : Heap}
theorem FdIO.zero {x : Str} {st : Stmt} {N ps : List Str} {ms : Ms} (d : Df K mg x st ps) (S : FnScope N ps (defScope st)) (hn : ps.length = ms.length) : FdIO P w K mg base x 1 ms (fun _ => none) := by
  obtain ⟨f, fd, h1, h2, h3⟩ := d.ex
  exact ⟨f, fd, ps, h1, h2.kp, h3, hn, h2.ok (k := 0) S (fun vs H Q E h => by obtain ⟨P, bs, G, ds, d, outs, r, hl, hF, _⟩ := h; cases hF) fun cdv A outer s H vs Q E hr h => by
    obtain ⟨P, bs, G, ds, d, outs, r, hl, hF, _⟩ := h
    cases hF⟩
/-- the promise of the law -/
def spJ (T : Addr) (q0 : Str) (F : List D → Option D) : Sp := fun vs H Q _ => ∃ (G : Hp) (ds : List D), Ex G H ∧ TabG G H T q0 ∧ RpAll G vs ds ∧ ds.length = 1 ∧ F ds = some (.bool true) ∧ ∀ H', Q (.bl true) H'
theorem fnJ_of {x qual : Str} {st : Stmt} {f T : Addr} {q0 : Str} {fd : FuncData} {N ps : List Str} {k : Nat} {B : So} (F : Fun K x qual st f fd) (S : FnScope N ps (defScope st)) (h1 : ps.length = 1)
    (body : ∀ (cdv : Value) (A : Around) (outer : List Env) (s : Shared) (H : Hp) (E : XK), Room k (A.deeper (envOfC qual (defScope st) s.heap.objs.size f cdv)) → DenSsJ T q0 (cxOf CX0 P w K mg base N qual (defScope st) f cdv A outer s H E).nox (defBody st) B) :
    FnOk P w K mg base CX0 (k + 1) f fd ps (spJ T q0 fun ds => outF (B (envOf N ds))) := by
  refine F.ok S (fun vs H Q E h => ?_) fun cdv A outer s H vs Q E hr h => ?_
  · obtain ⟨G, ds, _, _, r, hl, _⟩ := h
    rw [r.length, hl, h1]
  · obtain ⟨G, ds, hs, tb, r, hl, hF, q⟩ := h
    obtain ⟨t, p1, p2⟩ := body cdv A outer s H E hr
    refine ⟨t, p1, ?_⟩
    have rep : Rep (fun a => H a = none) (fun _ => 0) G H (L2.start N vs) (envOf N ds) := start_rep hs (fun _ h => h) r
    cases hB : B (envOf N ds) with
    | none => simp only [hB] at hF; cases hF
    | some r1 =>
      simp only [hB] at hF
      refine p2 (fun a => H a = none) (fun _ => 0) _ _ G H r1 (fun z => tb.ne z) rep tb hB _ ?_
      cases r1 with
      | nx e1 => cases hF
      | rt d' e1 =>
        cases hF
        intro v σ' G' H' g r' t' p
        cases p
        exact q H'
      | bk e1 => cases hF
      | ct e1 => cases hF
end
section
variable {X : Cx} {T : Addr} {q0 : Str} {st : Stmt} {rest : List Stmt} {pos : Pos} {a b : Expr}
theorem denssJ_consP {F F' : So} (h1 : DenS X st F) (h2 : DenSsJ T q0 X rest F') : DenSsJ T q0 X (st :: rest) (sSeq F F') := denssJ_cons (densJ h1) h2
theorem dentJ_not {F : Mo Bool} (h : DenTJ T q0 X a F) : DenTJ T q0 X (.UnaryOp .Not a pos) (mNot F) := by
  obtain ⟨t, h1, h2⟩ := h
  refine ⟨_, pt_not h1, fun P b σ env G H d env' nT rr tb h Q q => ?_⟩
  obtain ⟨k, e1, hk, h⟩ := mBind_some h
  obtain ⟨rfl, rfl⟩ := mRet_some h
  exact h2 P b σ env G H k _ nT rr tb hk _ fun G' H' g r t => q G' H' g r t
theorem dentJ_and {F F' : Mo Bool} (h : DenT X a F) (hb : DenTJ T q0 X b F') : DenTJ T q0 X (.BoolOp .And [a, b] pos) (mAnd F F') := by
  obtain ⟨t, h1, h2⟩ := h
  obtain ⟨u, k1, k2⟩ := hb
  refine ⟨_, (pw_and h1 (pw_and1 k1)).pt, fun P b σ env G H d env' nT rr tb h Q q => ?_⟩
  obtain ⟨k, e1, hk, h⟩ := mBind_some h
  refine h2 P b σ env G H k _ rr hk _ fun G' H' g r => ?_
  cases k with
  | true =>
    rw [if_pos rfl] at h ⊢
    exact k2 P b σ _ G' H' d _ nT r (tb.gr nT g) h _ fun G2 H2 g2 r2 t2 => q G2 H2 ((g.wk fun _ => .inl).trans g2) r2 t2
  | false =>
    rw [if_neg (by decide)] at h ⊢
    obtain ⟨rfl, rfl⟩ := mRet_some h
    exact q G' H' (g.wk fun _ => .inl) r (tb.gr nT g)
end
end Dn
set_option maxHeartbeats 4000000
namespace Dn
open PySem PySem.Spec PyProof.Rows L2
def B_is_whole : So := (sSeq (sRet (mAndV (mMap gIsInt (mVar 0)) (mMap (fun k => some (.bool (!k))) (mMap gB (mMap gIsBool (mVar 0))))))
    sNil)
def F_is_whole (ds : List D) : Option D := outF (B_is_whole (envOf ["thing"] ds))
def B_are_whole : So := (sSeq (sFor (mMap gSeq (mVar 0)) (gNm 1) (sSeq (sIf (mAnd (mMap gB (mMap gTyNotInt (mVar 1))) (mNot (mMap gTru (mMap (lenIs 1 F_is_whole) (mCons (mVar 1) (mRet [])))))) (sSeq (sRet (mRet (.bool false)))
    sNil) sNil)
    sNil))
    (sSeq (sRet (mRet (.bool true)))
    sNil))
def F_are_whole (ds : List D) : Option D := outF (B_are_whole (envOf ["things", "thing"] ds))
def B_is_tuple : So := (sSeq (sRet (mAndV (mMap gIsTuple (mVar 0)) (mMap (fun k => some (.bool k)) (mChain gLe gLe (mVar 1) (mMap gLen (mCons (mVar 0) (mRet []))) (mVar 2)))))
    sNil)
def F_is_tuple (ds : List D) : Option D := outF (B_is_tuple (envOf ["thing", "least", "most"] ds))
def B_are_rows : So := (sSeq (sIf (mNot (mMap gTru (mMap (lenIs 3 F_is_tuple) (mCons (mVar 0) (mCons (mRet (.int 1)) (mCons (mVar 1) (mRet []))))))) (sSeq (sRet (mRet (.bool false)))
    sNil) sNil)
    (sSeq (sRet (mBin gEq (mMap (fun ds => some (.list ds)) (mLc (mMap gSeq (mVar 0)) (gNm 3) (mMap gTru (mMap gIsTuple (mVar 3))) (mMap gLen (mCons (mVar 3) (mRet []))) [3])) (mBin gMulB (mMap gLst (mCons (mVar 2) (mRet []))) (mMap gLen (mCons (mVar 0) (mRet []))))))
    sNil))
def F_are_rows (ds : List D) : Option D := outF (B_are_rows (envOf ["thing", "most", "wide", "row"] ds))
def B_is_rising : So := (sSeq (sFor (mMap gZip2 (mCons (mVar 0) (mCons (mSl (mVar 0) (mMap (fun d => (gI d).map some) (mRet (.int 1))) (mRet none)) (mRet [])))) (gTu 2 (gsCons (gNm 1) (gsCons (gNm 2) gsNil))) (sSeq (sIf (mNot (mMap gB (mBin gLt (mVar 1) (mVar 2)))) (sSeq (sRet (mRet (.bool false)))
    sNil) sNil)
    sNil))
    (sSeq (sRet (mRet (.bool true)))
    sNil))
def F_is_rising (ds : List D) : Option D := outF (B_is_rising (envOf ["things", "one", "other"] ds))
def B_is_column : So := (sSeq (sSet 3 (mRet (.int 0)))
    (sSeq (sFor (mMap gEnum (mCons (mVar 2) (mRet []))) (gTu 2 (gsCons (gNm 4) (gsCons (gNm 5) gsNil))) (sSeq (sIf (mMap gB (mMap gNotN (mVar 5))) (sSeq (sIf (mOr (mMap gB (mBin gLt (mVar 4) (mVar 3))) (mOr (mMap gB (mBin (gIn true) (mVar 5) (mVar 1))) (mAnd (mMap gB (mMap gTyNotInt (mVar 5))) (mNot (mMap gTru (mMap (lenIs 1 F_is_whole) (mCons (mVar 5) (mRet [])))))))) (sSeq (sRet (mRet (.bool false)))
    sNil) sNil)
    (sSeq (sSet 3 (mBin gAdd (mVar 4) (mBin gIx (mVar 0) (mVar 5))))
    sNil)) sNil)
    sNil))
    (sSeq (sRet (mRet (.bool true)))
    sNil)))
def F_is_column (ds : List D) : Option D := outF (B_is_column (envOf ["stays", "desk", "column", "free", "tick", "one"] ds))
def B_all_stays : So := (sSeq (sRet (mMap (fun ds => some (.list ds)) (mLc (mMap gSeq (mBin gIx (mVar 0) (mRet (.int 0)))) (gTu 2 (gsCons (gNm 1) (gsCons (gNm 2) gsNil))) (mRet true) (mVar 2) [1, 2])))
    sNil)
def F_all_stays (ds : List D) : Option D := outF (B_all_stays (envOf ["hall", "_", "stay"] ds))
def B__are_desks : So := (sSeq (sIf (mNot (mMap gTru (mMap (lenIs 3 F_is_tuple) (mCons (mVar 0) (mCons (mRet (.int 1)) (mCons (mRet (.int (3))) (mRet []))))))) (sSeq (sRet (mRet (.bool false)))
    sNil) sNil)
    (sSeq (sFor (mMap gSeq (mVar 0)) (gNm 2) (sSeq (sIf (mOr (mNot (mMap gTru (mMap gIsTuple (mVar 2)))) (mNot (mMap gTru (mVar 2)))) (sSeq (sRet (mRet (.bool false)))
    sNil) sNil)
    (sSeq (sSet 3 (mRet (.int 0)))
    (sSeq (sFor (mMap gSeq (mVar 2)) (gNm 4) (sSeq (sIf (mOr (mAnd (mMap gB (mMap gTyNotInt (mVar 4))) (mNot (mMap gTru (mMap (lenIs 1 F_is_whole) (mCons (mVar 4) (mRet [])))))) (mNot (mChain gLe gLt (mVar 3) (mVar 4) (mVar 1)))) (sSeq (sRet (mRet (.bool false)))
    sNil) sNil)
    (sSeq (sSet 3 (mBin gAdd (mVar 4) (mRet (.int 1))))
    sNil)))
    sNil))))
    (sSeq (sRet (mRet (.bool true)))
    sNil)))
def F__are_desks (ds : List D) : Option D := outF (B__are_desks (envOf ["thing", "ranks", "desk", "low", "rank"] ds))
def B__are_ranks : So := (sSeq (sIf (mNot (mMap gTru (mMap (lenIs 3 F_is_tuple) (mCons (mVar 0) (mCons (mRet (.int 1)) (mCons (mRet (.int (4))) (mRet []))))))) (sSeq (sRet (mRet (.bool false)))
    sNil) sNil)
    (sSeq (sFor (mMap gSeq (mVar 0)) (gNm 1) (sSeq (sIf (mOr (mNot (mMap gTru (mMap gIsTuple (mVar 1)))) (mOr (mMap gB (mBin gNe (mMap gLen (mCons (mVar 1) (mRet []))) (mRet (.int 2)))) (mNot (mMap gTru (mMap (lenIs 1 F_are_whole) (mCons (mVar 1) (mRet []))))))) (sSeq (sRet (mRet (.bool false)))
    sNil) sNil)
    (sSeq (sTup (mVar 1) (gTu 2 (gsCons (gNm 2) (gsCons (gNm 3) gsNil))))
    (sSeq (sIf (mOr (mNot (mChain gLe gLe (mRet (.int 1)) (mVar 2) (mRet (.int (5))))) (mNot (mChain gLe gLe (mRet (.int 1)) (mVar 3) (mRet (.int (10)))))) (sSeq (sRet (mRet (.bool false)))
    sNil) sNil)
    sNil))))
    (sSeq (sRet (mRet (.bool true)))
    sNil)))
def F__are_ranks (ds : List D) : Option D := outF (B__are_ranks (envOf ["thing", "pair", "most", "stay"] ds))
def B_is_hall : So := (sSeq (sIf (mNot (mMap gTru (mMap (lenIs 3 F_is_tuple) (mCons (mVar 0) (mCons (mRet (.int 2)) (mCons (mRet (.int 2)) (mRet []))))))) (sSeq (sRet (mRet (.bool false)))
    sNil) sNil)
    (sSeq (sTup (mVar 0) (gTu 2 (gsCons (gNm 1) (gsCons (gNm 2) gsNil))))
    (sSeq (sRet (mAndV (mMap (lenIs 1 F__are_ranks) (mCons (mVar 1) (mRet []))) (mMap (lenIs 2 F__are_desks) (mCons (mVar 2) (mCons (mMap gLen (mCons (mVar 1) (mRet []))) (mRet []))))))
    sNil)))
def F_is_hall (ds : List D) : Option D := outF (B_is_hall (envOf ["thing", "ranks", "desks"] ds))
def B_columns_of : So := (sSeq (sSet 2 (mBin gIx (mVar 0) (mRet (.int 1))))
    (sSeq (sIf (mNot (mMap gTru (mMap (lenIs 3 F_are_rows) (mCons (mVar 1) (mCons (mRet (.int (40))) (mCons (mMap gLen (mCons (mVar 2) (mRet []))) (mRet []))))))) (sSeq (sRet (mRet .none))
    sNil) sNil)
    (sSeq (sSet 3 (mMap (lenIs 1 F_all_stays) (mCons (mVar 0) (mRet []))))
    (sSeq (sSet 4 (mMap gZipS (mVar 1)))
    (sSeq (sFor (mMap gZip2 (mCons (mVar 4) (mCons (mVar 2) (mRet [])))) (gTu 2 (gsCons (gNm 5) (gsCons (gNm 6) gsNil))) (sSeq (sIf (mNot (mMap gTru (mMap (lenIs 3 F_is_column) (mCons (mVar 3) (mCons (mVar 6) (mCons (mVar 5) (mRet []))))))) (sSeq (sRet (mRet .none))
    sNil) sNil)
    sNil))
    (sSeq (sRet (mVar 4))
    sNil))))))
def F_columns_of (ds : List D) : Option D := outF (B_columns_of (envOf ["hall", "thing", "desks", "stays", "columns", "column", "desk"] ds))
def B_need_hall : So := (sSeq (sIf (mNot (mMap gTru (mMap (lenIs 1 F_is_hall) (mCons (mVar 0) (mRet []))))) (sSeq sNone
    sNil) sNil)
    sNil)
def F_need_hall (ds : List D) : Option D := outF (B_need_hall (envOf ["thing"] ds))
def B_need_book : So := (sSeq (sSet 2 (mMap (lenIs 2 F_columns_of) (mCons (mVar 0) (mCons (mVar 1) (mRet [])))))
    (sSeq (sIf (mMap gB (mMap gIsN (mVar 2))) (sSeq sNone
    sNil) sNil)
    (sSeq (sRet (mVar 2))
    sNil)))
def F_need_book (ds : List D) : Option D := outF (B_need_book (envOf ["hall", "thing", "columns"] ds))
def B__is_look : So := (sSeq (sTup (mVar 2) (gTu 4 (gsCons (gNm 3) (gsCons (gNm 4) (gsCons (gNm 5) (gsCons (gNm 6) gsNil))))))
    (sSeq (sRet (mAndV (mMap (fun k => some (.bool k)) (mChain gLe gLt (mRet (.int 0)) (mVar 3) (mMap gLen (mCons (mVar 1) (mRet []))))) (mAndV (mMap (fun k => some (.bool k)) (mChain gLe gLt (mRet (.int 0)) (mVar 4) (mMap gLen (mCons (mBin gIx (mVar 0) (mRet (.int 0))) (mRet []))))) (mChain3 gLe gLe gLe (mRet (.int 0)) (mVar 5) (mVar 6) (mRet (.int (99)))))))
    sNil))
def F__is_look (ds : List D) : Option D := outF (B__is_look (envOf ["hall", "book", "look", "tick", "rank", "least", "most"] ds))
def B__are_looks_of : So := (sSeq (sIf (mNot (mMap gTru (mMap (lenIs 3 F_is_tuple) (mCons (mVar 2) (mCons (mRet (.int 0)) (mCons (mRet (.int (6))) (mRet []))))))) (sSeq (sRet (mRet (.bool false)))
    sNil) sNil)
    (sSeq (sFor (mMap gSeq (mVar 2)) (gNm 3) (sSeq (sIf (mOr (mNot (mMap gTru (mMap (lenIs 3 F_is_tuple) (mCons (mVar 3) (mCons (mRet (.int 4)) (mCons (mRet (.int 4)) (mRet []))))))) (mOr (mNot (mMap gTru (mMap (lenIs 1 F_are_whole) (mCons (mVar 3) (mRet []))))) (mNot (mMap gTru (mMap (lenIs 3 F__is_look) (mCons (mVar 0) (mCons (mVar 1) (mCons (mVar 3) (mRet []))))))))) (sSeq (sRet (mRet (.bool false)))
    sNil) sNil)
    sNil))
    (sSeq (sRet (mMap (lenIs 1 F_is_rising) (mCons (mVar 2) (mRet []))))
    sNil)))
def F__are_looks_of (ds : List D) : Option D := outF (B__are_looks_of (envOf ["hall", "book", "thing", "look"] ds))
def B_need_looks : So := (sSeq (sIf (mNot (mMap gTru (mMap (lenIs 3 F__are_looks_of) (mCons (mVar 0) (mCons (mVar 1) (mCons (mVar 2) (mRet []))))))) (sSeq sNone
    sNil) sNil)
    sNil)
def F_need_looks (ds : List D) : Option D := outF (B_need_looks (envOf ["hall", "book", "thing"] ds))
def B_need_written : So := (sSeq (sDrop (mMap (lenIs 1 F_need_hall) (mCons (mVar 0) (mRet []))))
    (sSeq (sSet 3 (mMap (lenIs 2 F_need_book) (mCons (mVar 0) (mCons (mVar 1) (mRet [])))))
    (sSeq (sDrop (mMap (lenIs 3 F_need_looks) (mCons (mVar 0) (mCons (mVar 1) (mCons (mVar 2) (mRet []))))))
    (sSeq (sRet (mVar 3))
    sNil))))
def F_need_written (ds : List D) : Option D := outF (B_need_written (envOf ["hall", "book", "looks", "columns"] ds))
def B__law_well : Ro := (rIf (mMap gB (mBin gGe (mVar 0) (mBin gPow (mRet (.int 10)) (mRet (.int 18))))) (rRet (mMap gLst (mCons (mBin gSub (mVar 0) (mBin gPow (mRet (.int 10)) (mRet (.int 18)))) (mCons (mBin gMod (mVar 0) (mRet (.int 2305843009213693951))) (mCons (mVar 1) (mRet [])))))) (rRet (mMap gLst (mCons (mRet (.int 0)) (mCons (mBin gMod (mVar 0) (mRet (.int 2305843009213693951))) (mCons (mVar 1) (mRet [])))))))
def F__law_well (ds : List D) : Option D := outN (B__law_well (envOf ["cell", "turn"] ds))
def B__law_take : So := (sSeq (sIf (mLendT (mMap gB (mBin gGt (mBin gIx (mVar 0) (mRet (.int 0))) (mRet (.int 0))))) (sSeq (sSet 2 (mLend (mBin gMod (mBin gIx (mVar 0) (mRet (.int 0))) (mVar 1))))
    (sSeq (sPut 0 (mRet (.int 0)) (mLend (mBin gDivB (mBin gIx (mVar 0) (mRet (.int 0))) (mVar 1))))
    (sSeq (sRet (mVar 2))
    sNil))) sNil)
    (sSeq (sPut 0 (mRet (.int 2)) (mLend (mBin gAdd (mBin gIx (mVar 0) (mRet (.int 2))) (mRet (.int 1)))))
    (sSeq (sSet 3 (mRet (.int 2305843009213693951)))
    (sSeq (sSet 4 (mLend (mBin gMod (mBin gAdd (mBin gIx (mVar 0) (mRet (.int 1))) (mBin gMulB (mRet (.int 1000003)) (mBin gIx (mVar 0) (mRet (.int 2))))) (mVar 3))))
    (sSeq (sSet 4 (mLend (mBin gMod (mBin gAdd (mBin gAdd (mBin gMulB (mVar 4) (mVar 4)) (mBin gMulB (mRet (.int 7919)) (mBin gPow (mBin gIx (mVar 0) (mRet (.int 2))) (mRet (.int 2))))) (mRet (.int 5))) (mVar 3))))
    (sSeq (sRet (mBin gMod (mBin gDivB (mBin gMod (mBin gPow (mVar 4) (mRet (.int 3))) (mVar 3)) (mRet (.int 13))) (mVar 1)))
    sNil))))))
def F__law_take (ds : List D) : Option (D × List D) := outIO [some 0, none] (B__law_take (envIO ["bag", "many", "found", "p", "n"] [some 0, none] ds))
def B__law_bags : Ro := (rRet (mMap (fun ds => some (.list ds)) (mLc (mMap gEnum (mCons (mBin gAdd (mSl (mVar 0) (mRet none) (mMap (fun d => (gI d).map some) (mVar 1))) (mMap gLst (mCons (mRet (.int 0)) (mRet [])))) (mRet []))) (gTu 2 (gsCons (gNm 2) (gsCons (gNm 3) gsNil))) (mRet true) (mMap (lenIs 2 F__law_well) (mCons (mVar 3) (mCons (mBin gMulB (mRet (.int 977)) (mVar 2)) (mRet [])))) [2, 3])))
def F__law_bags (ds : List D) : Option D := outN (B__law_bags (envOf ["script", "most", "k", "cell"] ds))
def B__law_some : So := (sSeq (sSet 2 (mMap (fun ds => some (.list ds)) (mLc (mMap gRg1 (mCons (mVar 1) (mRet []))) (gNm 3) (mMap gB (mBin gGt (mCallIO [some 0, none] F__law_take (mIo 0 (mCons (mMap (fun d => some (AR.fz d)) (mRet (.int 4))) (mRet [])))) (mRet (.int 0)))) (mVar 3) [3])))
    (sSeq (sRet (mIf (mMap gB (mBin gNe (mVar 2) (mMap gLst (mRet [])))) (mMap gTuple (mCons (mVar 2) (mRet []))) (mMap gTup (mCons (mCallIO [some 0, none] F__law_take (mIo 0 (mCons (mMap (fun d => some (AR.fz d)) (mVar 1)) (mRet [])))) (mRet [])))))
    sNil))
def F__law_some (ds : List D) : Option (D × List D) := outIO [some 0, none] (B__law_some (envIO ["bag", "ranks1", "found", "rank"] [some 0, none] ds))
def B__law_hall : So := (sSeq (sSet 6 (mBin gAdd (mRet (.int 1)) (mCallIO [some 0, none] F__law_take (mIo 0 (mCons (mMap (fun d => some (AR.fz d)) (mVar 1)) (mRet []))))))
    (sSeq (sSet 7 (mBin gAdd (mRet (.int 1)) (mCallIO [some 0, none] F__law_take (mIo 0 (mCons (mMap (fun d => some (AR.fz d)) (mVar 4)) (mRet []))))))
    (sSeq (sSetN 8 0 (mMap gLst (mRet [])))
    (sSeq (sFor (mMap gRg1 (mCons (mVar 6) (mRet []))) (gNm 9) (sSeq (sApp 8 (mMap gTup (mCons (mBin gAdd (mRet (.int 1)) (mCallIO [some 0, none] F__law_take (mIo 0 (mCons (mMap (fun d => some (AR.fz d)) (mVar 3)) (mRet []))))) (mCons (mIf (mMap gTru (mVar 5)) (mVar 7) (mBin gAdd (mRet (.int 1)) (mCallIO [some 0, none] F__law_take (mIo 0 (mCons (mMap (fun d => some (AR.fz d)) (mVar 4)) (mRet [])))))) (mRet [])))))
    sNil))
    (sSeq (sSetN 10 0 (mMap gLst (mRet [])))
    (sSeq (sFor (mMap gRg1 (mCons (mBin gAdd (mRet (.int 1)) (mCallIO [some 0, none] F__law_take (mIo 0 (mCons (mMap (fun d => some (AR.fz d)) (mVar 2)) (mRet []))))) (mRet []))) (gNm 11) (sSeq (sApp 10 (mIf (mOr (mMap gTru (mVar 5)) (mMap gB (mBin gEq (mCallIO [some 0, none] F__law_take (mIo 0 (mCons (mMap (fun d => some (AR.fz d)) (mRet (.int 2))) (mRet [])))) (mRet (.int 0))))) (mMap gTupRg (mVar 6)) (mCallIO [some 0, none] F__law_some (mIo 0 (mCons (mMap (fun d => some (AR.fz d)) (mVar 6)) (mRet []))))))
    sNil))
    (sFrz 10 (sFrz 8 (sSeq (sRet (mMap gTup (mCons (mMap gTuple (mCons (mVar 8) (mRet []))) (mCons (mMap gTuple (mCons (mVar 10) (mRet []))) (mRet [])))))
    sNil)))))))))
def F__law_hall (ds : List D) : Option (D × List D) := outIO [some 0, none, none, none, none, none] (B__law_hall (envIO ["bag", "ranks1", "desks1", "most", "stay1", "alike", "many", "one", "ranks", "rank", "desks", "desk"] [some 0, none, none, none, none, none] ds))
def B__law_same (R : List D → Option D) : So := (sSeq (sIf (mOr (mAnd (mMap gTru (mMap gIsList (mVar 0))) (mMap gTru (mMap gIsList (mVar 1)))) (mAnd (mMap gTru (mMap gIsTuple (mVar 0))) (mMap gTru (mMap gIsTuple (mVar 1))))) (sSeq (sRet (mAndV (mBin gEq (mMap gLen (mCons (mVar 0) (mRet []))) (mMap gLen (mCons (mVar 1) (mRet [])))) (mMap gAll (mCons (mMap (fun ds => some (.list ds)) (mLc (mMap gZip2 (mCons (mVar 0) (mCons (mVar 1) (mRet [])))) (gTu 2 (gsCons (gNm 2) (gsCons (gNm 3) gsNil))) (mRet true) (mMap (lenIs 2 R) (mCons (mVar 2) (mCons (mVar 3) (mRet [])))) [2, 3])) (mRet [])))))
    sNil) sNil)
    (sSeq (sIf (mOr (mMap gTru (mMap gIsBLT (mVar 0))) (mMap gTru (mMap gIsBLT (mVar 1)))) (sSeq (sRet (mAndV (mMap gIsBool (mVar 0)) (mAndV (mMap gIsBool (mVar 1)) (mBin gEq (mVar 0) (mVar 1)))))
    sNil) sNil)
    (sSeq (sIf (mOr (mMap gTru (mMap gIsInt (mVar 0))) (mMap gTru (mMap gIsInt (mVar 1)))) (sSeq (sRet (mAndV (mMap gIsInt (mVar 0)) (mAndV (mMap gIsInt (mVar 1)) (mBin gEq (mVar 0) (mVar 1)))))
    sNil) sNil)
    (sSeq (sIf (mOr (mMap gTru (mMap gIsStr (mVar 0))) (mMap gTru (mMap gIsStr (mVar 1)))) (sSeq (sRet (mAndV (mMap gIsStr (mVar 0)) (mAndV (mMap gIsStr (mVar 1)) (mBin gEq (mVar 0) (mVar 1)))))
    sNil) sNil)
    (sSeq (sRet (mAndV (mMap gIsN (mVar 0)) (mMap gIsN (mVar 1))))
    sNil)))))
def FN__law_same : Nat → List D → Option D
  | 0 => fun _ => none
  | n + 1 => fun ds => outF (B__law_same (FN__law_same n) (envOf ["a", "b", "x", "y"] ds))
def F__law_same (ds : List D) : Option D := FN__law_same 5 ds
end Dn
set_option maxHeartbeats 4000000
namespace Dn
open PySem PySem.Spec PyProof.Rows L2
end Dn
set_option maxHeartbeats 4000000
namespace Dn
open PySem PySem.Spec PyProof.Rows L2
def B__law_in : So := (sSeq (sRet (mAndV (mMap gIsInt (mVar 0)) (mAndV (mMap (fun k => some (.bool (!k))) (mMap gB (mMap gIsBool (mVar 0)))) (mMap (fun k => some (.bool k)) (mChain gLe gLe (mVar 1) (mVar 0) (mVar 2))))))
    sNil)
def F__law_in (ds : List D) : Option D := outF (B__law_in (envOf ["x", "low", "high"] ds))
def B__law_good : So := (sSeq (sIf (mOr (mNot (mMap gTru (mMap gIsTuple (mVar 0)))) (mOr (mMap gB (mBin gNe (mMap gLen (mCons (mVar 0) (mRet []))) (mRet (.int 2)))) (mOr (mNot (mMap gTru (mMap gIsTuple (mBin gIx (mVar 0) (mRet (.int 0)))))) (mNot (mMap gTru (mMap gIsTuple (mBin gIx (mVar 0) (mRet (.int 1))))))))) (sSeq (sRet (mRet (.bool false)))
    sNil) sNil)
    (sSeq (sIf (mOr (mNot (mChain gLe gLe (mRet (.int 1)) (mMap gLen (mCons (mBin gIx (mVar 0) (mRet (.int 0))) (mRet []))) (mRet (.int 4)))) (mNot (mChain gLe gLe (mRet (.int 1)) (mMap gLen (mCons (mBin gIx (mVar 0) (mRet (.int 1))) (mRet []))) (mRet (.int 3))))) (sSeq (sRet (mRet (.bool false)))
    sNil) sNil)
    (sSeq (sFor (mMap gSeq (mBin gIx (mVar 0) (mRet (.int 0)))) (gNm 1) (sSeq (sIf (mOr (mNot (mMap gTru (mMap gIsTuple (mVar 1)))) (mOr (mMap gB (mBin gNe (mMap gLen (mCons (mVar 1) (mRet []))) (mRet (.int 2)))) (mOr (mNot (mMap gTru (mMap (lenIs 3 F__law_in) (mCons (mBin gIx (mVar 1) (mRet (.int 0))) (mCons (mRet (.int 1)) (mCons (mRet (.int 5)) (mRet []))))))) (mNot (mMap gTru (mMap (lenIs 3 F__law_in) (mCons (mBin gIx (mVar 1) (mRet (.int 1))) (mCons (mRet (.int 1)) (mCons (mRet (.int 10)) (mRet [])))))))))) (sSeq (sRet (mRet (.bool false)))
    sNil) sNil)
    sNil))
    (sSeq (sFor (mMap gSeq (mBin gIx (mVar 0) (mRet (.int 1)))) (gNm 2) (sSeq (sIf (mOr (mNot (mMap gTru (mMap gIsTuple (mVar 2)))) (mMap gB (mBin gEq (mVar 2) (mMap gTup (mRet []))))) (sSeq (sRet (mRet (.bool false)))
    sNil) sNil)
    (sSeq (sSet 3 (mMap gNeg (mRet (.int 1))))
    (sSeq (sFor (mMap gSeq (mVar 2)) (gNm 4) (sSeq (sIf (mNot (mMap gTru (mMap (lenIs 3 F__law_in) (mCons (mVar 4) (mCons (mBin gAdd (mVar 3) (mRet (.int 1))) (mCons (mBin gSub (mMap gLen (mCons (mBin gIx (mVar 0) (mRet (.int 0))) (mRet []))) (mRet (.int 1))) (mRet []))))))) (sSeq (sRet (mRet (.bool false)))
    sNil) sNil)
    (sSeq (sSet 3 (mVar 4))
    sNil)))
    sNil))))
    (sSeq (sRet (mRet (.bool true)))
    sNil)))))
def F__law_good (ds : List D) : Option D := outF (B__law_good (envOf ["x", "rank", "desk", "last", "one"] ds))
end Dn
set_option maxHeartbeats 8000000
namespace Dn
open PySem PySem.Spec PyProof.Rows L2
def B__law_odd (R : List D → Option (D × List D)) : So := (sSeq (sIf (mAnd (mMap gTru (mMap gIsTuple (mVar 1))) (mAnd (mMap gB (mBin gNe (mVar 1) (mMap gTup (mRet [])))) (mMap gB (mBin gGt (mCallIO [some 0, none] F__law_take (mIo 0 (mCons (mMap (fun d => some (AR.fz d)) (mRet (.int 6))) (mRet [])))) (mRet (.int 0)))))) (sSeq (sSet 2 (mCallIO [some 0, none] F__law_take (mIo 0 (mCons (mMap (fun d => some (AR.fz d)) (mMap gLen (mCons (mVar 1) (mRet [])))) (mRet [])))))
    (sSeq (sRet (mBin gAdd (mBin gAdd (mSl (mVar 1) (mRet none) (mMap (fun d => (gI d).map some) (mVar 2))) (mMap gTup (mCons (mCallIO [some 0, none] R (mIo 0 (mCons (mMap (fun d => some (AR.fz d)) (mBin gIx (mVar 1) (mVar 2))) (mRet [])))) (mRet [])))) (mSl (mVar 1) (mMap (fun d => (gI d).map some) (mBin gAdd (mVar 2) (mRet (.int 1)))) (mRet none))))
    sNil)) sNil)
    (sSeq (sSet 3 (mMap gLst (mCons (mRet .none) (mCons (mRet (.bool true)) (mCons (mRet (.bool false)) (mCons (mMap gNeg (mRet (.int 1))) (mCons (mRet (.int 0)) (mCons (mRet (.int 1)) (mCons (mRet (.int 4)) (mCons (mRet (.int 6)) (mCons (mRet (.int 11)) (mCons (mRet (.str "1")) (mCons (mMap gTup (mRet [])) (mCons (mMap gTup (mCons (mRet (.int 0)) (mRet []))) (mCons (mMap gTup (mCons (mRet (.int 1)) (mCons (mRet (.int 1)) (mRet [])))) (mRet []))))))))))))))))
    (sSeq (sRet (mBin gIx (mBin gAdd (mVar 3) (mMap gLst (mCons (mIf (mMap gTru (mMap gIsTuple (mVar 1))) (mMap gList (mCons (mVar 1) (mRet []))) (mVar 1)) (mRet [])))) (mCallIO [some 0, none] F__law_take (mIo 0 (mCons (mMap (fun d => some (AR.fz d)) (mRet (.int 14))) (mRet []))))))
    sNil)))
def FN__law_odd : Nat → List D → Option (D × List D)
  | 0 => fun _ => none
  | n + 1 => fun ds => outIO [some 0, none] (B__law_odd (FN__law_odd n) (envIO ["bag", "x", "k", "odd"] [some 0, none] ds))
def F__law_odd (ds : List D) : Option (D × List D) := FN__law_odd 5 ds
/-- all doors refuse it -/
def mRefused (i : Nat) : Mo Bool := fun env => match env[i]? with
  | some (some (SV.fz d)) => (match F_is_hall [d] with | some (.bool false) => some (true, env) | _ => none)
  | _ => none
def B_law : So := (sSeq (sForOwn 1 (mMap (lenIs 2 F__law_bags) (mCons (mVar 0) (mCons (mRet (.int 12)) (mRet [])))) (sSeq (sSet 2 (mCallIO [some 0, none, none, none, none, none] F__law_hall (mIo 1 (mCons (mMap (fun d => some (AR.fz d)) (mRet (.int 4))) (mCons (mMap (fun d => some (AR.fz d)) (mRet (.int 3))) (mCons (mMap (fun d => some (AR.fz d)) (mRet (.int 5))) (mCons (mMap (fun d => some (AR.fz d)) (mRet (.int 10))) (mCons (mMap (fun d => some (AR.fz d)) (mRet (.bool false))) (mRet [])))))))))
    (sSeq (sTup (mVar 2) (gTu 2 (gsCons (gNm 3) (gsCons (gNm 4) gsNil))))
    (sSeq (sSet 5 (mMap gLst (mCons (mVar 2) (mCons (mMap gList (mCons (mVar 2) (mRet []))) (mCons (mMap gTup (mCons (mMap gList (mCons (mVar 3) (mRet []))) (mCons (mVar 4) (mRet [])))) (mCons (mMap gTup (mCons (mVar 3) (mCons (mMap gList (mCons (mVar 4) (mRet []))) (mRet [])))) (mCons (mMap gTup (mCons (mBin gRepT (mVar 3) (mRet (.int 5))) (mCons (mVar 4) (mRet [])))) (mCons (mMap gTup (mCons (mMap gTup (mRet [])) (mCons (mVar 4) (mRet [])))) (mRet [])))))))))
    (sSeq (sSet 5 (mBin gAdd (mVar 5) (mMap gLst (mCons (mMap gTup (mCons (mVar 3) (mCons (mBin gRepT (mVar 4) (mRet (.int 4))) (mRet [])))) (mCons (mMap gTup (mCons (mVar 3) (mCons (mMap gTup (mRet [])) (mRet [])))) (mCons (mMap gTup (mCons (mVar 3) (mCons (mMap gTup (mCons (mMap gTup (mRet [])) (mRet []))) (mRet [])))) (mCons (mMap gTup (mCons (mVar 3) (mCons (mMap gTup (mCons (mMap gTup (mCons (mMap gLen (mCons (mVar 3) (mRet []))) (mRet []))) (mRet []))) (mRet [])))) (mCons (mMap gTup (mCons (mVar 3) (mCons (mMap gTup (mCons (mMap gTup (mCons (mRet (.int 0)) (mCons (mRet (.int 0)) (mRet [])))) (mRet []))) (mRet [])))) (mRet [])))))))))
    (sSeq (sSet 6 (mMap gTup (mCons (mMap gTup (mCons (mRet (.int 0)) (mRet []))) (mRet []))))
    (sSeq (sSet 5 (mBin gAdd (mVar 5) (mMap gLst (mCons (mMap gTup (mCons (mMap gTup (mCons (mMap gTup (mCons (mRet (.int 5)) (mCons (mRet (.int 10)) (mRet [])))) (mRet []))) (mCons (mVar 6) (mRet [])))) (mCons (mMap gTup (mCons (mMap gTup (mCons (mMap gTup (mCons (mRet (.int 6)) (mCons (mRet (.int 1)) (mRet [])))) (mRet []))) (mCons (mVar 6) (mRet [])))) (mCons (mMap gTup (mCons (mMap gTup (mCons (mMap gTup (mCons (mRet (.int 1)) (mCons (mRet (.int 11)) (mRet [])))) (mRet []))) (mCons (mVar 6) (mRet [])))) (mCons (mMap gTup (mCons (mMap gTup (mCons (mMap gTup (mCons (mRet (.int 0)) (mCons (mRet (.int 1)) (mRet [])))) (mRet []))) (mCons (mVar 6) (mRet [])))) (mRet []))))))))
    (sSeq (sSet 5 (mBin gAdd (mVar 5) (mMap gLst (mCons (mMap gTup (mCons (mMap gTup (mCons (mMap gTup (mCons (mRet (.int 1)) (mCons (mRet (.int 1)) (mCons (mRet (.int 1)) (mRet []))))) (mRet []))) (mCons (mVar 6) (mRet [])))) (mCons (mBin gAdd (mVar 2) (mMap gTup (mCons (mMap gTup (mRet [])) (mRet [])))) (mRet []))))))
    (sSeq (sSet 7 (mCallIO [some 0, none] F__law_odd (mIo 1 (mCons (mMap (fun d => some (AR.fz d)) (mVar 2)) (mRet [])))))
    (sSeq (sFor (mMap gSeq (mBin gAdd (mBin gAdd (mVar 5) (mMap gLst (mCons (mVar 7) (mCons (mCallIO [some 0, none] F__law_odd (mIo 1 (mCons (mMap (fun d => some (AR.fz d)) (mVar 7)) (mRet [])))) (mRet []))))) (mMap (fun ds => some (.list ds)) (mLc (mMap gRg1 (mCons (mRet (.int 12)) (mRet []))) (gNm 10) (mRet true) (mCallIO [some 0, none] F__law_odd (mIo 1 (mCons (mMap (fun d => some (AR.fz d)) (mVar 2)) (mRet [])))) [10])))) (gNm 8) (sSeq (sSet 9 (mMap (lenIs 1 F__law_good) (mCons (mVar 8) (mRet []))))
    (sSeq (sIf (mNot (mMap gTru (mMap (lenIs 2 F__law_same) (mCons (mMap (lenIs 1 F_is_hall) (mCons (mVar 8) (mRet []))) (mCons (mVar 9) (mRet [])))))) (sSeq (sRet (mRet (.bool false)))
    sNil) sNil)
    (sSeq (sIf (mAnd (mNot (mMap gTru (mVar 9))) (mNot (mRefused 8))) (sSeq (sRet (mRet (.bool false)))
    sNil) sNil)
    sNil))))
    sNil))))))))))
    (sSeq (sRet (mRet (.bool true)))
    sNil))
def F_law (ds : List D) : Option D := outF (B_law (envOf ["script", "bag", "hall", "ranks", "desks", "some", "lone", "once", "x", "good", "turn"] ds))
end Dn
set_option maxHeartbeats 4000000
namespace Dn
open PySem PySem.Spec PyProof.Rows L2
section
variable {P : Program} {w : World} {K : PySem.W.Frag} {mg : Str → Option Value} {base : Heap}
theorem sc_is_whole : FnScope ["thing"] ["thing"] (defScope s_is_whole) := ⟨rfl, rfl, rfl, by decide +kernel, rfl, by decide +kernel, by decide +kernel⟩
theorem fn_is_whole (d : Df K mg "is_whole" s_is_whole ["thing"]) (Z : Blt2 mg) (Y : ImpsP mg) : Fd P w K mg base "is_whole" 1 1 F_is_whole := by
  have nd := sc_is_whole.nd
  exact Fd.of (B := B_is_whole) d sc_is_whole rfl fun f cdv A outer s H E hr => (denss_cons (dens_ret (den_and (den_isi isi_int (dv 0) rfl Z.isinstance_ rfl Z.int_ (by decide +kernel)) (den_one (den_not (den_isi isi_bool (dv 0) rfl Z.isinstance_ rfl Z.bool_ (by decide +kernel))))))
    denss_nil)
theorem sc_are_whole : FnScope ["things", "thing"] ["things"] (defScope s_are_whole) := ⟨rfl, rfl, rfl, by decide +kernel, rfl, by decide +kernel, by decide +kernel⟩
theorem fn_are_whole (d : Df K mg "are_whole" s_are_whole ["things"]) (Z : Blt2 mg) (Y : ImpsP mg) (h_is_whole : Fd P w K mg base "is_whole" 1 1 F_is_whole) : Fd P w K mg base "are_whole" 2 1 F_are_whole := by
  have nd := sc_are_whole.nd
  exact Fd.of (B := B_are_whole) d sc_are_whole rfl fun f cdv A outer s H E hr => (denss_cons (dens_for PassesOwn.never rfl (deni_seq (dv 0)) (deng_name 1 nd rfl (by first | exact .inl rfl | exact .inr rfl)) (denss_cons (dens_if (dent_w (denw_and (dent_tyNotInt (dv 1) rfl Z.type_ rfl Z.int_) (denw_and1 (dent_not (dent_val (den_call h_is_whole (hr.mono (by decide)) rfl (dena_cons (dv 1) dena_nil))))))) (denss_cons (dens_ret den_bl)
    denss_nil) denss_nil)
    denss_nil))
    (denss_cons (dens_ret den_bl)
    denss_nil))
theorem sc_is_tuple : FnScope ["thing", "least", "most"] ["thing", "least", "most"] (defScope s_is_tuple) := ⟨rfl, rfl, rfl, by decide +kernel, rfl, by decide +kernel, by decide +kernel⟩
theorem fn_is_tuple (d : Df K mg "is_tuple" s_is_tuple ["thing", "least", "most"]) (Z : Blt2 mg) (Y : ImpsP mg) : Fd P w K mg base "is_tuple" 1 3 F_is_tuple := by
  have nd := sc_is_tuple.nd
  exact Fd.of (B := B_is_tuple) d sc_is_tuple rfl fun f cdv A outer s H E hr => (denss_cons (dens_ret (den_and (den_isi isi_tuple (dv 0) rfl Z.isinstance_ rfl Z.tuple_ (by decide +kernel)) (den_one (dene_chain opD_le opD_le (dv 1) (den_callB callD_len rfl Z.len_ (by decide +kernel) (dena_cons (dv 0) dena_nil)) (dv 2)))))
    denss_nil)
theorem sc__are_desks : FnScope ["thing", "ranks", "desk", "low", "rank"] ["thing", "ranks"] (defScope s__are_desks) := ⟨rfl, rfl, rfl, by decide +kernel, rfl, by decide +kernel, by decide +kernel⟩
theorem fn__are_desks (d : Df K mg "_are_desks" s__are_desks ["thing", "ranks"]) (Z : Blt2 mg) (Y : ImpsP mg) (h_is_tuple : Fd P w K mg base "is_tuple" 1 3 F_is_tuple) (h_is_whole : Fd P w K mg base "is_whole" 1 1 F_is_whole) (g_DESKS_AT_MOST : ∃ t, mg "DESKS_AT_MOST" = some (.int (3) t)) : Fd P w K mg base "_are_desks" 2 2 F__are_desks := by
  have nd := sc__are_desks.nd
  exact Fd.of (B := B__are_desks) d sc__are_desks rfl fun f cdv A outer s H E hr => (denss_cons (dens_if (dent_not (dent_val (den_call h_is_tuple (hr.mono (by decide)) rfl (dena_cons (dv 0) (dena_cons den_int (dena_cons (den_glb g_DESKS_AT_MOST rfl) dena_nil)))))) (denss_cons (dens_ret den_bl)
    denss_nil) denss_nil)
    (denss_cons (dens_for PassesOwn.never rfl (deni_seq (dv 0)) (deng_name 2 nd rfl (by first | exact .inl rfl | exact .inr rfl)) (denss_cons (dens_if (dent_w (denw_or (dent_not (dent_val (den_isi isi_tuple (dv 2) rfl Z.isinstance_ rfl Z.tuple_ (by decide +kernel)))) (denw_or1 (dent_not (dent_val (dv 2)))))) (denss_cons (dens_ret den_bl)
    denss_nil) denss_nil)
    (denss_cons (dens_set 3 nd rfl (by first | exact .inl rfl | exact .inr rfl) den_int)
    (denss_cons (dens_for PassesOwn.never rfl (deni_seq (dv 2)) (deng_name 4 nd rfl (by first | exact .inl rfl | exact .inr rfl)) (denss_cons (dens_if (dent_w (denw_or (dent_w (denw_and (dent_tyNotInt (dv 4) rfl Z.type_ rfl Z.int_) (denw_and1 (dent_not (dent_val (den_call h_is_whole (hr.mono (by decide)) rfl (dena_cons (dv 4) dena_nil))))))) (denw_or1 (dent_not (dent_chain opD_le (opD_lt hr.units0) (dv 3) (dv 4) (dv 1)))))) (denss_cons (dens_ret den_bl)
    denss_nil) denss_nil)
    (denss_cons (dens_set 3 nd rfl (by first | exact .inl rfl | exact .inr rfl) (den_bin opD_add (dv 4) den_int))
    denss_nil)))
    denss_nil))))
    (denss_cons (dens_ret den_bl)
    denss_nil)))
theorem sc__are_ranks : FnScope ["thing", "pair", "most", "stay"] ["thing"] (defScope s__are_ranks) := ⟨rfl, rfl, rfl, by decide +kernel, rfl, by decide +kernel, by decide +kernel⟩
theorem fn__are_ranks (d : Df K mg "_are_ranks" s__are_ranks ["thing"]) (Z : Blt2 mg) (Y : ImpsP mg) (h_is_tuple : Fd P w K mg base "is_tuple" 1 3 F_is_tuple) (h_are_whole : Fd P w K mg base "are_whole" 2 1 F_are_whole) (g_RANKS_AT_MOST : ∃ t, mg "RANKS_AT_MOST" = some (.int (4) t)) (g_STAY_AT_MOST : ∃ t, mg "STAY_AT_MOST" = some (.int (10) t)) (g_COME_AT_MOST : ∃ t, mg "COME_AT_MOST" = some (.int (5) t)) : Fd P w K mg base "_are_ranks" 3 1 F__are_ranks := by
  have nd := sc__are_ranks.nd
  exact Fd.of (B := B__are_ranks) d sc__are_ranks rfl fun f cdv A outer s H E hr => (denss_cons (dens_if (dent_not (dent_val (den_call h_is_tuple (hr.mono (by decide)) rfl (dena_cons (dv 0) (dena_cons den_int (dena_cons (den_glb g_RANKS_AT_MOST rfl) dena_nil)))))) (denss_cons (dens_ret den_bl)
    denss_nil) denss_nil)
    (denss_cons (dens_for PassesOwn.never rfl (deni_seq (dv 0)) (deng_name 1 nd rfl (by first | exact .inl rfl | exact .inr rfl)) (denss_cons (dens_if (dent_w (denw_or (dent_not (dent_val (den_isi isi_tuple (dv 1) rfl Z.isinstance_ rfl Z.tuple_ (by decide +kernel)))) (denw_or (dent_cmp (opD_ne hr.units) (den_callB callD_len rfl Z.len_ (by decide +kernel) (dena_cons (dv 1) dena_nil)) den_int) (denw_or1 (dent_not (dent_val (den_call h_are_whole (hr.mono (by decide)) rfl (dena_cons (dv 1) dena_nil)))))))) (denss_cons (dens_ret den_bl)
    denss_nil) denss_nil)
    (denss_cons (dens_asg (dv 1) (deng_tup (n := 2) rfl (dengs_cons (deng_name 2 nd rfl (by first | exact .inl rfl | exact .inr rfl)) (dengs_cons (deng_name 3 nd rfl (by first | exact .inl rfl | exact .inr rfl)) dengs_nil))))
    (denss_cons (dens_if (dent_w (denw_or (dent_not (dent_chain opD_le opD_le den_int (dv 2) (den_glb g_COME_AT_MOST rfl))) (denw_or1 (dent_not (dent_chain opD_le opD_le den_int (dv 3) (den_glb g_STAY_AT_MOST rfl)))))) (denss_cons (dens_ret den_bl)
    denss_nil) denss_nil)
    denss_nil))))
    (denss_cons (dens_ret den_bl)
    denss_nil)))
theorem sc_is_hall : FnScope ["thing", "ranks", "desks"] ["thing"] (defScope s_is_hall) := ⟨rfl, rfl, rfl, by decide +kernel, rfl, by decide +kernel, by decide +kernel⟩
theorem fn_is_hall (d : Df K mg "is_hall" s_is_hall ["thing"]) (Z : Blt2 mg) (Y : ImpsP mg) (h_is_tuple : Fd P w K mg base "is_tuple" 1 3 F_is_tuple) (h__are_desks : Fd P w K mg base "_are_desks" 2 2 F__are_desks) (h__are_ranks : Fd P w K mg base "_are_ranks" 3 1 F__are_ranks) : Fd P w K mg base "is_hall" 4 1 F_is_hall := by
  have nd := sc_is_hall.nd
  exact Fd.of (B := B_is_hall) d sc_is_hall rfl fun f cdv A outer s H E hr => (denss_cons (dens_if (dent_not (dent_val (den_call h_is_tuple (hr.mono (by decide)) rfl (dena_cons (dv 0) (dena_cons den_int (dena_cons den_int dena_nil)))))) (denss_cons (dens_ret den_bl)
    denss_nil) denss_nil)
    (denss_cons (dens_asg (dv 0) (deng_tup (n := 2) rfl (dengs_cons (deng_name 1 nd rfl (by first | exact .inl rfl | exact .inr rfl)) (dengs_cons (deng_name 2 nd rfl (by first | exact .inl rfl | exact .inr rfl)) dengs_nil))))
    (denss_cons (dens_ret (den_and (den_call h__are_ranks (hr.mono (by decide)) rfl (dena_cons (dv 1) dena_nil)) (den_one (den_call h__are_desks (hr.mono (by decide)) rfl (dena_cons (dv 2) (dena_cons (den_callB callD_len rfl Z.len_ (by decide +kernel) (dena_cons (dv 1) dena_nil)) dena_nil))))))
    denss_nil)))
theorem sc_need_hall : FnScope ["thing"] ["thing"] (defScope s_need_hall) := ⟨rfl, rfl, rfl, by decide +kernel, rfl, by decide +kernel, by decide +kernel⟩
theorem sc__law_well : FnScope ["cell", "turn"] ["cell", "turn"] (defScope s__law_well) := ⟨rfl, rfl, rfl, by decide +kernel, rfl, by decide +kernel, by decide +kernel⟩
theorem fn__law_well (d : Df K mg "_law_well" s__law_well ["cell", "turn"]) (Z : Blt2 mg) (Y : ImpsP mg) : FdN P w K mg base "_law_well" 1 2 1 F__law_well := by
  have nd := sc__law_well.nd
  exact FdN.of (B := B__law_well) d sc__law_well rfl fun f cdv A outer s H E hr => (denssN_if (dent_cmp opD_ge (dv 0) (den_bin opD_pow den_int den_int)) (denssN_ret (denn_lst (dena_cons (den_bin opD_sub (dv 0) (den_bin opD_pow den_int den_int)) (dena_cons (den_bin opD_mod (dv 0) den_int) (dena_cons (dv 1) dena_nil))))) (denssN_ret (denn_lst (dena_cons den_int (dena_cons (den_bin opD_mod (dv 0) den_int) (dena_cons (dv 1) dena_nil))))))
theorem sc__law_take : FnScope ["bag", "many", "found", "p", "n"] ["bag", "many"] (defScope s__law_take) := ⟨rfl, rfl, rfl, by decide +kernel, rfl, by decide +kernel, by decide +kernel⟩
theorem fn__law_take (d : Df K mg "_law_take" s__law_take ["bag", "many"]) (Z : Blt2 mg) (Y : ImpsP mg) : FdIO P w K mg base "_law_take" 1 [some 0, none] F__law_take := by
  have nd := sc__law_take.nd
  exact FdIO.of (B := B__law_take) d sc__law_take rfl fun f cdv A outer s H E hr => (denss_cons (dens_if (dent_lend (dent_cmp opD_gt (den_ix (dv 0) den_int) den_int)) (denss_cons (dens_set 2 nd rfl (by first | exact .inl rfl | exact .inr rfl) (den_lend (den_bin opD_mod (den_ix (dv 0) den_int) (dv 1))))
    (denss_cons (dens_put 0 rfl (by first | exact .inl rfl | exact .inr (.inl rfl) | exact .inr (.inr rfl)) (den_lend (den_bin opD_divB (den_ix (dv 0) den_int) (dv 1))) den_int)
    (denss_cons (dens_ret (dv 2))
    denss_nil))) denss_nil)
    (denss_cons (dens_put 0 rfl (by first | exact .inl rfl | exact .inr (.inl rfl) | exact .inr (.inr rfl)) (den_lend (den_bin opD_add (den_ix (dv 0) den_int) den_int)) den_int)
    (denss_cons (dens_set 3 nd rfl (by first | exact .inl rfl | exact .inr rfl) den_int)
    (denss_cons (dens_set 4 nd rfl (by first | exact .inl rfl | exact .inr rfl) (den_lend (den_bin opD_mod (den_bin opD_add (den_ix (dv 0) den_int) (den_bin opD_mulB den_int (den_ix (dv 0) den_int))) (dv 3))))
    (denss_cons (dens_set 4 nd rfl (by first | exact .inl rfl | exact .inr rfl) (den_lend (den_bin opD_mod (den_bin opD_add (den_bin opD_add (den_bin opD_mulB (dv 4) (dv 4)) (den_bin opD_mulB den_int (den_bin opD_pow (den_ix (dv 0) den_int) den_int))) den_int) (dv 3))))
    (denss_cons (dens_ret (den_bin opD_mod (den_bin opD_divB (den_bin opD_mod (den_bin opD_pow (dv 4) den_int) (dv 3)) den_int) (dv 1)))
    denss_nil))))))
theorem sc__law_bags : FnScope ["script", "most", "k", "cell"] ["script", "most"] (defScope s__law_bags) := ⟨rfl, rfl, rfl, by decide +kernel, rfl, by decide +kernel, by decide +kernel⟩
theorem fn__law_bags (d : Df K mg "_law_bags" s__law_bags ["script", "most"]) (Z : Blt2 mg) (Y : ImpsP mg) (h__law_well : FdN P w K mg base "_law_well" 1 2 1 F__law_well) : FdN P w K mg base "_law_bags" 2 2 2 F__law_bags := by
  have nd := sc__law_bags.nd
  exact FdN.of (B := B__law_bags) d sc__law_bags rfl fun f cdv A outer s H E hr => (denssN_ret (denn_lc2 (vs := [2, 3]) [("k", 2), ("cell", 3)] rfl nd (deni_enum rfl Z.enumerate_ (dena_cons (den_bin opD_add (den_slice (dv 0) deno_none (deno_some (dv 1))) (den_lst (dena_cons den_int dena_nil))) dena_nil)) (blkOk_by (by rfl)) (fun _ _ _ _ _ => (deng_tup (n := 2) rfl (dengs_cons (deng_name 2 nd rfl (by first | exact .inl rfl | exact .inr rfl)) (dengs_cons (deng_name 3 nd rfl (by first | exact .inl rfl | exact .inr rfl)) dengs_nil)))) (fun _ _ _ _ _ => dents_nil) (fun _ _ _ _ _ => (denn_call h__law_well (hr.mono (by decide)) rfl (dena_cons (dv 3) (dena_cons (den_bin opD_mulB den_int (dv 2)) dena_nil))))))
theorem sc__law_same : FnScope ["a", "b", "x", "y"] ["a", "b"] (defScope s__law_same) := ⟨rfl, rfl, rfl, by decide +kernel, rfl, by decide +kernel, by decide +kernel⟩
theorem fs__law_same (d : Df K mg "_law_same" s__law_same ["a", "b"]) (Z : Blt2 mg) (Y : ImpsP mg) {k : Nat} {R : List D → Option D} (h_rec : Fd P w K mg base "_law_same" k 2 R) : Fd P w K mg base "_law_same" (k + 1) 2 (fun ds => outF (B__law_same R (envOf ["a", "b", "x", "y"] ds))) := by
  have nd := sc__law_same.nd
  exact Fd.of (B := B__law_same R) d sc__law_same rfl fun f cdv A outer s H E hr => (denss_cons (dens_if (dent_w (denw_or (dent_w (denw_and (dent_val (den_isi isi_list (dv 0) rfl Z.isinstance_ rfl Z.list_ (by decide +kernel))) (denw_and1 (dent_val (den_isi isi_list (dv 1) rfl Z.isinstance_ rfl Z.list_ (by decide +kernel)))))) (denw_or1 (dent_w (denw_and (dent_val (den_isi isi_tuple (dv 0) rfl Z.isinstance_ rfl Z.tuple_ (by decide +kernel))) (denw_and1 (dent_val (den_isi isi_tuple (dv 1) rfl Z.isinstance_ rfl Z.tuple_ (by decide +kernel))))))))) (denss_cons (dens_ret (den_and (den_cmp (opD_eq hr.units) (den_callB callD_len rfl Z.len_ (by decide +kernel) (dena_cons (dv 0) dena_nil)) (den_callB callD_len rfl Z.len_ (by decide +kernel) (dena_cons (dv 1) dena_nil))) (den_one (den_callB (callD_all rfl) rfl Z.all_ (by decide +kernel) (dena_cons (den_frz (denn_lc (vs := [2, 3]) [("x", 2), ("y", 3)] rfl nd (deni_zip2 rfl Z.zip_ (dena_cons (dv 0) (dena_cons (dv 1) dena_nil))) (blkOk_by (by rfl)) (fun _ _ _ _ _ => (deng_tup (n := 2) rfl (dengs_cons (deng_name 2 nd rfl (by first | exact .inl rfl | exact .inr rfl)) (dengs_cons (deng_name 3 nd rfl (by first | exact .inl rfl | exact .inr rfl)) dengs_nil)))) (fun _ _ _ _ _ => dents_nil) (fun _ _ _ _ _ => (den_call h_rec (hr.mono (Nat.le_refl _)) rfl (dena_cons (dv 2) (dena_cons (dv 3) dena_nil)))))) dena_nil)))))
    denss_nil) denss_nil)
    (denss_cons (dens_if (dent_w (denw_or (dent_val (den_isi3 (dv 0) rfl Z.isinstance_ rfl Z.bool_ rfl Z.list_ rfl Z.tuple_)) (denw_or1 (dent_val (den_isi3 (dv 1) rfl Z.isinstance_ rfl Z.bool_ rfl Z.list_ rfl Z.tuple_))))) (denss_cons (dens_ret (den_and (den_isi isi_bool (dv 0) rfl Z.isinstance_ rfl Z.bool_ (by decide +kernel)) (den_and (den_isi isi_bool (dv 1) rfl Z.isinstance_ rfl Z.bool_ (by decide +kernel)) (den_one (den_cmp (opD_eq hr.units) (dv 0) (dv 1))))))
    denss_nil) denss_nil)
    (denss_cons (dens_if (dent_w (denw_or (dent_val (den_isi isi_int (dv 0) rfl Z.isinstance_ rfl Z.int_ (by decide +kernel))) (denw_or1 (dent_val (den_isi isi_int (dv 1) rfl Z.isinstance_ rfl Z.int_ (by decide +kernel)))))) (denss_cons (dens_ret (den_and (den_isi isi_int (dv 0) rfl Z.isinstance_ rfl Z.int_ (by decide +kernel)) (den_and (den_isi isi_int (dv 1) rfl Z.isinstance_ rfl Z.int_ (by decide +kernel)) (den_one (den_cmp (opD_eq hr.units) (dv 0) (dv 1))))))
    denss_nil) denss_nil)
    (denss_cons (dens_if (dent_w (denw_or (dent_val (den_isi isi_str (dv 0) rfl Z.isinstance_ rfl Z.str_ (by decide +kernel))) (denw_or1 (dent_val (den_isi isi_str (dv 1) rfl Z.isinstance_ rfl Z.str_ (by decide +kernel)))))) (denss_cons (dens_ret (den_and (den_isi isi_str (dv 0) rfl Z.isinstance_ rfl Z.str_ (by decide +kernel)) (den_and (den_isi isi_str (dv 1) rfl Z.isinstance_ rfl Z.str_ (by decide +kernel)) (den_one (den_cmp (opD_eq hr.units) (dv 0) (dv 1))))))
    denss_nil) denss_nil)
    (denss_cons (dens_ret (den_and (dene_isN (dv 0)) (den_one (dene_isN (dv 1)))))
    denss_nil)))))
theorem fn__law_same (d : Df K mg "_law_same" s__law_same ["a", "b"]) (Z : Blt2 mg) (Y : ImpsP mg) : Fd P w K mg base "_law_same" 6 2 F__law_same := by
  have aux : ∀ m, Fd P w K mg base "_law_same" (m + 1) 2 (FN__law_same m) := by
    intro m
    induction m with
    | zero => exact Fd.zero d sc__law_same rfl
    | succ m ih => exact fs__law_same d Z Y ih
  exact aux 5
theorem sc__law_in : FnScope ["x", "low", "high"] ["x", "low", "high"] (defScope s__law_in) := ⟨rfl, rfl, rfl, by decide +kernel, rfl, by decide +kernel, by decide +kernel⟩
theorem fn__law_in (d : Df K mg "_law_in" s__law_in ["x", "low", "high"]) (Z : Blt2 mg) (Y : ImpsP mg) : Fd P w K mg base "_law_in" 1 3 F__law_in := by
  have nd := sc__law_in.nd
  exact Fd.of (B := B__law_in) d sc__law_in rfl fun f cdv A outer s H E hr => (denss_cons (dens_ret (den_and (den_isi isi_int (dv 0) rfl Z.isinstance_ rfl Z.int_ (by decide +kernel)) (den_and (den_not (den_isi isi_bool (dv 0) rfl Z.isinstance_ rfl Z.bool_ (by decide +kernel))) (den_one (dene_chain opD_le opD_le (dv 1) (dv 0) (dv 2))))))
    denss_nil)
theorem sc__law_some : FnScope ["bag", "ranks1", "found", "rank"] ["bag", "ranks1"] (defScope s__law_some) := ⟨rfl, rfl, rfl, by decide +kernel, rfl, by decide +kernel, by decide +kernel⟩
theorem fn__law_some (d : Df K mg "_law_some" s__law_some ["bag", "ranks1"]) (Z : Blt2 mg) (Y : ImpsP mg) (h__law_take : FdIO P w K mg base "_law_take" 1 [some 0, none] F__law_take) : FdIO P w K mg base "_law_some" 2 [some 0, none] F__law_some := by
  have nd := sc__law_some.nd
  exact FdIO.of (B := B__law_some) d sc__law_some rfl fun f cdv A outer s H E hr => (denss_cons (dens_setLc (vs := [3]) 2 [("rank", 3)] rfl nd rfl rfl (sw_true rfl rfl rfl (by decide +kernel)) (deni_range1 rfl Z.range_ (dena_cons (dv 1) dena_nil)) (blkOk_by (by rfl)) (fun _ _ _ _ _ => (deng_name 3 nd rfl (by first | exact .inl rfl | exact .inr rfl))) (fun _ _ _ _ _ => (dents_one (dent_cmp opD_gt (den_callIO h__law_take (hr.mono (by decide)) rfl (denr_io 0 rfl (by first | exact .inl rfl | exact .inr (.inl rfl) | exact .inr (.inr rfl)) (denr_cons den_int denr_nil))) den_int))) (fun _ _ _ _ _ => (dv 3)))
    (denss_cons (dens_ret (den_if (dent_cmp (opD_ne hr.units) (dv 2) (den_lst dena_nil)) (den_callTy callD_tuple rfl Z.tuple_ (by decide +kernel) (dena_cons (dv 2) dena_nil)) (den_tup (dena_cons (den_callIO h__law_take (hr.mono (by decide)) rfl (denr_io 0 rfl (by first | exact .inl rfl | exact .inr (.inl rfl) | exact .inr (.inr rfl)) (denr_cons (dv 1) denr_nil))) dena_nil))))
    denss_nil))
theorem sc__law_hall : FnScope ["bag", "ranks1", "desks1", "most", "stay1", "alike", "many", "one", "ranks", "rank", "desks", "desk"] ["bag", "ranks1", "desks1", "most", "stay1", "alike"] (defScope s__law_hall) := ⟨rfl, rfl, rfl, by decide +kernel, rfl, by decide +kernel, by decide +kernel⟩
theorem fn__law_hall (d : Df K mg "_law_hall" s__law_hall ["bag", "ranks1", "desks1", "most", "stay1", "alike"]) (Z : Blt2 mg) (Y : ImpsP mg) (h__law_take : FdIO P w K mg base "_law_take" 1 [some 0, none] F__law_take) (h__law_some : FdIO P w K mg base "_law_some" 2 [some 0, none] F__law_some) : FdIO P w K mg base "_law_hall" 3 [some 0, none, none, none, none, none] F__law_hall := by
  have nd := sc__law_hall.nd
  exact FdIO.of (B := B__law_hall) d sc__law_hall rfl fun f cdv A outer s H E hr => (denss_cons (dens_set 6 nd rfl (by first | exact .inl rfl | exact .inr rfl) (den_bin opD_add den_int (den_callIO h__law_take (hr.mono (by decide)) rfl (denr_io 0 rfl (by first | exact .inl rfl | exact .inr (.inl rfl) | exact .inr (.inr rfl)) (denr_cons (dv 1) denr_nil)))))
    (denss_cons (dens_set 7 nd rfl (by first | exact .inl rfl | exact .inr rfl) (den_bin opD_add den_int (den_callIO h__law_take (hr.mono (by decide)) rfl (denr_io 0 rfl (by first | exact .inl rfl | exact .inr (.inl rfl) | exact .inr (.inr rfl)) (denr_cons (dv 4) denr_nil)))))
    (denss_cons (dens_setN 8 0 nd rfl (by first | exact .inl rfl | exact .inr rfl) (denn_lst dena_nil))
    (denss_cons (dens_for PassesOwn.never rfl (deni_range1 rfl Z.range_ (dena_cons (dv 6) dena_nil)) (deng_name 9 nd rfl (by first | exact .inl rfl | exact .inr rfl)) (denss_cons (dens_app 8 rfl (by first | exact .inl rfl | exact .inr (.inl rfl) | exact .inr (.inr rfl)) (den_tup (dena_cons (den_bin opD_add den_int (den_callIO h__law_take (hr.mono (by decide)) rfl (denr_io 0 rfl (by first | exact .inl rfl | exact .inr (.inl rfl) | exact .inr (.inr rfl)) (denr_cons (dv 3) denr_nil)))) (dena_cons (den_if (dent_val (dv 5)) (dv 7) (den_bin opD_add den_int (den_callIO h__law_take (hr.mono (by decide)) rfl (denr_io 0 rfl (by first | exact .inl rfl | exact .inr (.inl rfl) | exact .inr (.inr rfl)) (denr_cons (dv 4) denr_nil))))) dena_nil))))
    denss_nil))
    (denss_cons (dens_setN 10 0 nd rfl (by first | exact .inl rfl | exact .inr rfl) (denn_lst dena_nil))
    (denss_cons (dens_for PassesOwn.never rfl (deni_range1 rfl Z.range_ (dena_cons (den_bin opD_add den_int (den_callIO h__law_take (hr.mono (by decide)) rfl (denr_io 0 rfl (by first | exact .inl rfl | exact .inr (.inl rfl) | exact .inr (.inr rfl)) (denr_cons (dv 2) denr_nil)))) dena_nil)) (deng_name 11 nd rfl (by first | exact .inl rfl | exact .inr rfl)) (denss_cons (dens_app 10 rfl (by first | exact .inl rfl | exact .inr (.inl rfl) | exact .inr (.inr rfl)) (den_if (dent_w (denw_or (dent_val (dv 5)) (denw_or1 (dent_cmp (opD_eq hr.units) (den_callIO h__law_take (hr.mono (by decide)) rfl (denr_io 0 rfl (by first | exact .inl rfl | exact .inr (.inl rfl) | exact .inr (.inr rfl)) (denr_cons den_int denr_nil))) den_int)))) (den_tupRange rfl Z.tuple_ rfl Z.range_ rfl (dv 6)) (den_callIO h__law_some (hr.mono (by decide)) rfl (denr_io 0 rfl (by first | exact .inl rfl | exact .inr (.inl rfl) | exact .inr (.inr rfl)) (denr_cons (dv 6) denr_nil)))))
    denss_nil))
    (denss_frz 10 (denss_frz 8 (denss_cons (dens_ret (den_tup (dena_cons (den_callTy callD_tuple rfl Z.tuple_ (by decide +kernel) (dena_cons (dv 8) dena_nil)) (dena_cons (den_callTy callD_tuple rfl Z.tuple_ (by decide +kernel) (dena_cons (dv 10) dena_nil)) dena_nil))))
    denss_nil)))))))))
theorem sc__law_good : FnScope ["x", "rank", "desk", "last", "one"] ["x"] (defScope s__law_good) := ⟨rfl, rfl, rfl, by decide +kernel, rfl, by decide +kernel, by decide +kernel⟩
theorem fn__law_good (d : Df K mg "_law_good" s__law_good ["x"]) (Z : Blt2 mg) (Y : ImpsP mg) (h__law_in : Fd P w K mg base "_law_in" 1 3 F__law_in) : Fd P w K mg base "_law_good" 2 1 F__law_good := by
  have nd := sc__law_good.nd
  exact Fd.of (B := B__law_good) d sc__law_good rfl fun f cdv A outer s H E hr => (denss_cons (dens_if (dent_w (denw_or (dent_not (dent_val (den_isi isi_tuple (dv 0) rfl Z.isinstance_ rfl Z.tuple_ (by decide +kernel)))) (denw_or (dent_cmp (opD_ne hr.units) (den_callB callD_len rfl Z.len_ (by decide +kernel) (dena_cons (dv 0) dena_nil)) den_int) (denw_or (dent_not (dent_val (den_isi isi_tuple (den_ix (dv 0) den_int) rfl Z.isinstance_ rfl Z.tuple_ (by decide +kernel)))) (denw_or1 (dent_not (dent_val (den_isi isi_tuple (den_ix (dv 0) den_int) rfl Z.isinstance_ rfl Z.tuple_ (by decide +kernel))))))))) (denss_cons (dens_ret den_bl)
    denss_nil) denss_nil)
    (denss_cons (dens_if (dent_w (denw_or (dent_not (dent_chain opD_le opD_le den_int (den_callB callD_len rfl Z.len_ (by decide +kernel) (dena_cons (den_ix (dv 0) den_int) dena_nil)) den_int)) (denw_or1 (dent_not (dent_chain opD_le opD_le den_int (den_callB callD_len rfl Z.len_ (by decide +kernel) (dena_cons (den_ix (dv 0) den_int) dena_nil)) den_int))))) (denss_cons (dens_ret den_bl)
    denss_nil) denss_nil)
    (denss_cons (dens_for PassesOwn.never rfl (deni_seq (den_ix (dv 0) den_int)) (deng_name 1 nd rfl (by first | exact .inl rfl | exact .inr rfl)) (denss_cons (dens_if (dent_w (denw_or (dent_not (dent_val (den_isi isi_tuple (dv 1) rfl Z.isinstance_ rfl Z.tuple_ (by decide +kernel)))) (denw_or (dent_cmp (opD_ne hr.units) (den_callB callD_len rfl Z.len_ (by decide +kernel) (dena_cons (dv 1) dena_nil)) den_int) (denw_or (dent_not (dent_val (den_call h__law_in (hr.mono (by decide)) rfl (dena_cons (den_ix (dv 1) den_int) (dena_cons den_int (dena_cons den_int dena_nil)))))) (denw_or1 (dent_not (dent_val (den_call h__law_in (hr.mono (by decide)) rfl (dena_cons (den_ix (dv 1) den_int) (dena_cons den_int (dena_cons den_int dena_nil))))))))))) (denss_cons (dens_ret den_bl)
    denss_nil) denss_nil)
    denss_nil))
    (denss_cons (dens_for PassesOwn.never rfl (deni_seq (den_ix (dv 0) den_int)) (deng_name 2 nd rfl (by first | exact .inl rfl | exact .inr rfl)) (denss_cons (dens_if (dent_w (denw_or (dent_not (dent_val (den_isi isi_tuple (dv 2) rfl Z.isinstance_ rfl Z.tuple_ (by decide +kernel)))) (denw_or1 (dent_cmp (opD_eq hr.units) (dv 2) (den_tup dena_nil))))) (denss_cons (dens_ret den_bl)
    denss_nil) denss_nil)
    (denss_cons (dens_set 3 nd rfl (by first | exact .inl rfl | exact .inr rfl) (den_neg den_int))
    (denss_cons (dens_for PassesOwn.never rfl (deni_seq (dv 2)) (deng_name 4 nd rfl (by first | exact .inl rfl | exact .inr rfl)) (denss_cons (dens_if (dent_not (dent_val (den_call h__law_in (hr.mono (by decide)) rfl (dena_cons (dv 4) (dena_cons (den_bin opD_add (dv 3) den_int) (dena_cons (den_bin opD_sub (den_callB callD_len rfl Z.len_ (by decide +kernel) (dena_cons (den_ix (dv 0) den_int) dena_nil)) den_int) dena_nil)))))) (denss_cons (dens_ret den_bl)
    denss_nil) denss_nil)
    (denss_cons (dens_set 3 nd rfl (by first | exact .inl rfl | exact .inr rfl) (dv 4))
    denss_nil)))
    denss_nil))))
    (denss_cons (dens_ret den_bl)
    denss_nil)))))
end
end Dn
set_option maxHeartbeats 8000000
namespace Dn
open PySem PySem.Spec PyProof.Rows L2 HotX L2H LamX
section
variable {P : Program} {w : World} {K : PySem.W.Frag} {mg : Str → Option Value} {base : Heap}
abbrev s__law_odd : Stmt := topS 151
theorem sc__law_odd : FnScope ["bag", "x", "k", "odd"] ["bag", "x"] (defScope s__law_odd) := ⟨rfl, rfl, rfl, by decide +kernel, rfl, by decide +kernel, by decide +kernel⟩
theorem fs__law_odd (d : Df K mg "_law_odd" s__law_odd ["bag", "x"]) (Z : Blt2 mg) {k : Nat} {R : List D → Option (D × List D)} (hk : 1 ≤ k) (h__law_take : FdIO P w K mg base "_law_take" 1 [some 0, none] F__law_take) (h_rec : FdIO P w K mg base "_law_odd" k [some 0, none] R) :
    FdIO P w K mg base "_law_odd" (k + 1) [some 0, none] (fun ds => outIO [some 0, none] (B__law_odd R (envIO ["bag", "x", "k", "odd"] [some 0, none] ds))) := by
  have nd := sc__law_odd.nd
  exact FdIO.of (B := B__law_odd R) d sc__law_odd rfl fun f cdv A outer s H E hr => (denss_cons (dens_if (dent_w (denw_and (dent_val (den_isi isi_tuple (dv 1) rfl Z.isinstance_ rfl Z.tuple_ (by decide +kernel))) (denw_and (dent_cmp (opD_ne hr.units) (dv 1) (den_tup dena_nil)) (denw_and1 (dent_cmp opD_gt (den_callIO h__law_take (hr.mono hk) rfl (denr_io 0 rfl (by first | exact .inl rfl | exact .inr (.inl rfl) | exact .inr (.inr rfl)) (denr_cons den_int denr_nil))) den_int))))) (denss_cons (dens_set 2 nd rfl (by first | exact .inl rfl | exact .inr rfl) (den_callIO h__law_take (hr.mono hk) rfl (denr_io 0 rfl (by first | exact .inl rfl | exact .inr (.inl rfl) | exact .inr (.inr rfl)) (denr_cons (den_callB callD_len rfl Z.len_ (by decide +kernel) (dena_cons (dv 1) dena_nil)) denr_nil))))
    (denss_cons (dens_ret (den_bin opD_add (den_bin opD_add (den_slice (dv 1) deno_none (deno_some (dv 2))) (den_tup (dena_cons (den_callIO h_rec hr rfl (denr_io 0 rfl (by first | exact .inl rfl | exact .inr (.inl rfl) | exact .inr (.inr rfl)) (denr_cons (den_ix (dv 1) (dv 2)) denr_nil))) dena_nil))) (den_slice (dv 1) (deno_some (den_bin opD_add (dv 2) den_int)) deno_none)))
    denss_nil)) denss_nil)
    (denss_cons (dens_set 3 nd rfl (by first | exact .inl rfl | exact .inr rfl) (den_lst (dena_cons den_non (dena_cons den_bl (dena_cons den_bl (dena_cons (den_neg den_int) (dena_cons den_int (dena_cons den_int (dena_cons den_int (dena_cons den_int (dena_cons den_int (dena_cons den_str (dena_cons (den_tup dena_nil) (dena_cons (den_tup (dena_cons den_int dena_nil)) (dena_cons (den_tup (dena_cons den_int (dena_cons den_int dena_nil))) dena_nil)))))))))))))))
    (denss_cons (dens_ret (den_ix (den_bin opD_add (dv 3) (den_lst (dena_cons (den_if (dent_val (den_isi isi_tuple (dv 1) rfl Z.isinstance_ rfl Z.tuple_ (by decide +kernel))) (den_callTy callD_list rfl Z.list_ (by decide +kernel) (dena_cons (dv 1) dena_nil)) (dv 1)) dena_nil))) (den_callIO h__law_take (hr.mono hk) rfl (denr_io 0 rfl (by first | exact .inl rfl | exact .inr (.inl rfl) | exact .inr (.inr rfl)) (denr_cons den_int denr_nil)))))
    denss_nil)))
theorem fn__law_odd (d : Df K mg "_law_odd" s__law_odd ["bag", "x"]) (Z : Blt2 mg) (h__law_take : FdIO P w K mg base "_law_take" 1 [some 0, none] F__law_take) : FdIO P w K mg base "_law_odd" 6 [some 0, none] F__law_odd := by
  have aux : ∀ m, FdIO P w K mg base "_law_odd" (m + 1) [some 0, none] (FN__law_odd m) := by
    intro m
    induction m with
    | zero => exact FdIO.zero d sc__law_odd rfl
    | succ m ih => exact fs__law_odd d Z (by omega) h__law_take ih
  exact aux 5
abbrev s_law : Stmt := topS 153
theorem sc_law : FnScope ["script", "bag", "hall", "ranks", "desks", "some", "lone", "once", "x", "good", "turn"] ["script"] (defScope s_law) := ⟨rfl, rfl, rfl, by decide +kernel, rfl, by decide +kernel, by decide +kernel⟩
theorem fn_law {f T : Addr} {fd : FuncData} {q0 : Str} (d : Fun K "law" "law" s_law f fd) (Z : Blt2 mg) (h__law_bags : FdN P w K mg base "_law_bags" 2 2 2 F__law_bags) (h__law_hall : FdIO P w K mg base "_law_hall" 3 [some 0, none, none, none, none, none] F__law_hall) (h__law_odd : FdIO P w K mg base "_law_odd" 6 [some 0, none] F__law_odd) (h__law_good : Fd P w K mg base "_law_good" 2 1 F__law_good) (h__law_same : Fd P w K mg base "_law_same" 6 2 F__law_same) (h_is_hall : Fd P w K mg base "is_hall" 4 1 F_is_hall)
    (hJ : ∀ {f : Addr} {cdv : Value} {A : Around} {outer : List Env} {s : Shared} {H : Hp} {E : XK} {p1 p2 p3 p4 p5 p6 : Pos} {j : Nat}, Room 12 (A.deeper (envOfC "law" (defScope s_law) s.heap.objs.size f cdv)) → DenTJ T q0 (cxOf CX0 P w K mg base ["script", "bag", "hall", "ranks", "desks", "some", "lone", "once", "x", "good", "turn"] "law" (defScope s_law) f cdv A outer s H E).nox (.Call (.Name "_law_refused" p1) [.Call (.Name "_law_doors" p2) [.Name "x" p3] [] p4, .Constant (.str "NoHall") j p5] [] p6) (mRefused 8)) :
    FnOk P w K mg base CX0 13 f fd ["script"] (spJ T q0 F_law) := by
  have nd := sc_law.nd
  exact fnJ_of (B := B_law) d sc_law rfl fun cdv A outer s H E hr => (denssJ_cons (densJ_forOwn 1 PassesOwn.never rfl nd rfl (by first | exact .inl rfl | exact .inr rfl) (denn_call h__law_bags (hr.mono (by decide)) rfl (dena_cons (dv 0) (dena_cons den_int dena_nil))) (denssJ_consP (dens_set 2 nd rfl (by first | exact .inl rfl | exact .inr rfl) (den_callIO h__law_hall (hr.mono (by decide)) rfl (denr_io 1 rfl (by first | exact .inl rfl | exact .inr (.inl rfl) | exact .inr (.inr rfl)) (denr_cons den_int (denr_cons den_int (denr_cons den_int (denr_cons den_int (denr_cons den_bl denr_nil))))))))
    (denssJ_consP (dens_asg (dv 2) (deng_tup (n := 2) rfl (dengs_cons (deng_name 3 nd rfl (by first | exact .inl rfl | exact .inr rfl)) (dengs_cons (deng_name 4 nd rfl (by first | exact .inl rfl | exact .inr rfl)) dengs_nil))))
    (denssJ_consP (dens_set 5 nd rfl (by first | exact .inl rfl | exact .inr rfl) (den_lst (dena_cons (dv 2) (dena_cons (den_callTy callD_list rfl Z.list_ (by decide +kernel) (dena_cons (dv 2) dena_nil)) (dena_cons (den_tup (dena_cons (den_callTy callD_list rfl Z.list_ (by decide +kernel) (dena_cons (dv 3) dena_nil)) (dena_cons (dv 4) dena_nil))) (dena_cons (den_tup (dena_cons (dv 3) (dena_cons (den_callTy callD_list rfl Z.list_ (by decide +kernel) (dena_cons (dv 4) dena_nil)) dena_nil))) (dena_cons (den_tup (dena_cons (den_bin opD_repT (dv 3) den_int) (dena_cons (dv 4) dena_nil))) (dena_cons (den_tup (dena_cons (den_tup dena_nil) (dena_cons (dv 4) dena_nil))) dena_nil))))))))
    (denssJ_consP (dens_set 5 nd rfl (by first | exact .inl rfl | exact .inr rfl) (den_bin opD_add (dv 5) (den_lst (dena_cons (den_tup (dena_cons (dv 3) (dena_cons (den_bin opD_repT (dv 4) den_int) dena_nil))) (dena_cons (den_tup (dena_cons (dv 3) (dena_cons (den_tup dena_nil) dena_nil))) (dena_cons (den_tup (dena_cons (dv 3) (dena_cons (den_tup (dena_cons (den_tup dena_nil) dena_nil)) dena_nil))) (dena_cons (den_tup (dena_cons (dv 3) (dena_cons (den_tup (dena_cons (den_tup (dena_cons (den_callB callD_len rfl Z.len_ (by decide +kernel) (dena_cons (dv 3) dena_nil)) dena_nil)) dena_nil)) dena_nil))) (dena_cons (den_tup (dena_cons (dv 3) (dena_cons (den_tup (dena_cons (den_tup (dena_cons den_int (dena_cons den_int dena_nil))) dena_nil)) dena_nil))) dena_nil))))))))
    (denssJ_consP (dens_set 6 nd rfl (by first | exact .inl rfl | exact .inr rfl) (den_tup (dena_cons (den_tup (dena_cons den_int dena_nil)) dena_nil)))
    (denssJ_consP (dens_set 5 nd rfl (by first | exact .inl rfl | exact .inr rfl) (den_bin opD_add (dv 5) (den_lst (dena_cons (den_tup (dena_cons (den_tup (dena_cons (den_tup (dena_cons den_int (dena_cons den_int dena_nil))) dena_nil)) (dena_cons (dv 6) dena_nil))) (dena_cons (den_tup (dena_cons (den_tup (dena_cons (den_tup (dena_cons den_int (dena_cons den_int dena_nil))) dena_nil)) (dena_cons (dv 6) dena_nil))) (dena_cons (den_tup (dena_cons (den_tup (dena_cons (den_tup (dena_cons den_int (dena_cons den_int dena_nil))) dena_nil)) (dena_cons (dv 6) dena_nil))) (dena_cons (den_tup (dena_cons (den_tup (dena_cons (den_tup (dena_cons den_int (dena_cons den_int dena_nil))) dena_nil)) (dena_cons (dv 6) dena_nil))) dena_nil)))))))
    (denssJ_consP (dens_set 5 nd rfl (by first | exact .inl rfl | exact .inr rfl) (den_bin opD_add (dv 5) (den_lst (dena_cons (den_tup (dena_cons (den_tup (dena_cons (den_tup (dena_cons den_int (dena_cons den_int (dena_cons den_int dena_nil)))) dena_nil)) (dena_cons (dv 6) dena_nil))) (dena_cons (den_bin opD_add (dv 2) (den_tup (dena_cons (den_tup dena_nil) dena_nil))) dena_nil)))))
    (denssJ_consP (dens_set 7 nd rfl (by first | exact .inl rfl | exact .inr rfl) (den_callIO h__law_odd (hr.mono (by decide)) rfl (denr_io 1 rfl (by first | exact .inl rfl | exact .inr (.inl rfl) | exact .inr (.inr rfl)) (denr_cons (dv 2) denr_nil))))
    (denssJ_cons (densJ_for PassesOwn.never rfl (deni_seq (den_bin opD_add (den_bin opD_add (dv 5) (den_lst (dena_cons (dv 7) (dena_cons (den_callIO h__law_odd (hr.mono (by decide)) rfl (denr_io 1 rfl (by first | exact .inl rfl | exact .inr (.inl rfl) | exact .inr (.inr rfl)) (denr_cons (dv 7) denr_nil))) dena_nil)))) (den_frz (denn_lc (vs := [10]) [("turn", 10)] rfl nd (deni_range1 rfl Z.range_ (dena_cons den_int dena_nil)) (blkOk_by (by rfl)) (fun _ _ _ _ _ => (deng_name 10 nd rfl (by first | exact .inl rfl | exact .inr rfl))) (fun _ _ _ _ _ => dents_nil) (fun _ _ _ _ _ => (den_callIO h__law_odd (hr.mono (by decide)) rfl (denr_io 1 rfl (by first | exact .inl rfl | exact .inr (.inl rfl) | exact .inr (.inr rfl)) (denr_cons (dv 2) denr_nil)))))))) (deng_name 8 nd rfl (by first | exact .inl rfl | exact .inr rfl)) (denssJ_consP (dens_set 9 nd rfl (by first | exact .inl rfl | exact .inr rfl) (den_call h__law_good (hr.mono (by decide)) rfl (dena_cons (dv 8) dena_nil)))
    (denssJ_consP (dens_if (dent_not (dent_val (den_call h__law_same (hr.mono (by decide)) rfl (dena_cons (den_call h_is_hall (hr.mono (by decide)) rfl (dena_cons (dv 8) dena_nil)) (dena_cons (dv 9) dena_nil))))) (denss_cons (dens_ret den_bl)
    denss_nil) denss_nil)
    (denssJ_cons (densJ_if (dentJ_and (dent_not (dent_val (dv 9))) (dentJ_not (hJ hr))) (denssJ (denss_cons (dens_ret den_bl)
    denss_nil)) (denssJ denss_nil))
    (denssJ denss_nil)))))
    (denssJ denss_nil)))))))))))
    (denssJ (denss_cons (dens_ret den_bl)
    denss_nil)))
end
end Dn
set_option maxHeartbeats 8000000
namespace Dn
open PySem PySem.Spec PyProof.Rows L2 HotX L2H LamX
open Evl (Ex fresh_back)
abbrev s__law_doors : Stmt := topS 152
theorem sc__law_doors : FnScope ["x", "found"] ["x"] (defScope s__law_doors) := ⟨rfl, rfl, rfl, by decide +kernel, rfl, by decide +kernel, by decide +kernel⟩
def lamsE : Expr → List (Arguments × Expr × Scope)
  | .List es _ => es.filterMap fun e => match e with
    | .Lambda a b s _ => some (a, b, s)
    | _ => none
  | .BinOp _ _ (.List es _) _ => es.filterMap fun e => match e with
    | .Lambda a b s _ => some (a, b, s)
    | _ => none
  | _ => []
def lamsS : Stmt → List (Arguments × Expr × Scope)
  | .Assign _ e _ => lamsE e
  | .Return (some e) _ => lamsE e
  | _ => []
def lamT (i : Nat) : Option (Arguments × Expr × Scope) := ((defBody s__law_doors).flatMap lamsS)[i]?
/-- the lambdas of `_law_doors` -/
def DDoor : DLam := fun a b s => ∃ i, i < 26 ∧ lamT i = some (a, b, s)
theorem dd {a : Arguments} {b : Expr} {s : Scope} (i : Nat) (h : i < 26) (e : lamT i = some (a, b, s)) : DDoor a b s := ⟨i, h, e⟩
theorem fr1 {cl : List (Str × Addr)} {x : Str} {c : Addr} (h : cl = [(x, c)]) (scope : Scope) (hs : (scope.names.all fun y => !decide (y.2 = .free) || decide (y.1 = x)) = true) : ∀ y ∈ scope.names, y.2 = .free → ∃ c, cl.lookup y.1 = some c := fun y hy e => by
  have := List.all_eq_true.mp hs y hy
  simp [e] at this
  rw [h, this]
  exact ⟨c, by simp⟩
section
variable {P : Program} {w : World} {K : PySem.W.Frag} {mg : Str → Option Value} {base : Heap}
theorem fn__law_doors {f T c : Addr} {dV kV doc pm ct oc : Value} {an od : Option Addr} {osl : Array (Option Value)} (TB : TabB base mg c T)
    (lk : K.lookup f = some ⟨oc, od, .func (PySem.W.fnOf "_law_doors" "_law_doors" (defArgs s__law_doors) (defBody s__law_doors) (defScope s__law_doors) dV kV doc pm an (.ref c) ct), osl⟩) (hcd : PySem.W.codeIn K (.ref c) "_law_doors" = true) :
    FnOk P w K mg base CX0 1 f (PySem.W.fnOf "_law_doors" "_law_doors" (defArgs s__law_doors) (defBody s__law_doors) (defScope s__law_doors) dV kV doc pm an (.ref c) ct) ["x"] (spDoors DDoor T "_law_doors.<locals>.<lambda>" "x" 26) := by
  refine fn_doors lk hcd sc__law_doors rfl (fun _ => rfl) (by decide +kernel) fun A outer s H v E G hr ex tb => ?_
  have nd := sc__law_doors.nd
  have hc : (cxOf CX0 P w K mg base ["x", "found"] "_law_doors" (defScope s__law_doors) f (.ref c) A outer s H E).env.code = .ref c := rfl
  have fr : ∀ (scope : Scope), (scope.names.all fun y => !decide (y.2 = .free) || decide (y.1 = ("x" : Str))) = true → ∀ y ∈ scope.names, y.2 = .free → ∃ c, (cxOf CX0 P w K mg base ["x", "found"] "_law_doors" (defScope s__law_doors) f (.ref c) A outer s H E).env.cells.lookup y.1 = some c := fr1 (c := s.heap.objs.size + 1) rfl
  refine ⟨_, (psc_cons (ps_set (i := 1) nd rfl (by first | exact .inl rfl | exact .inr rfl) (pe_lst (pa_cons (pe_lamG TB hc rfl rfl rfl (fr _ (by rfl))) (pa_cons (pe_lamG TB hc rfl rfl rfl (fr _ (by rfl))) (pa_cons (pe_lamG TB hc rfl rfl rfl (fr _ (by rfl))) pa_nil)))))
    (psc_cons (ps_set (i := 1) nd rfl (by first | exact .inl rfl | exact .inr rfl) (pe_op op_cat (pv 1) (pe_lst (pa_cons (pe_lamG TB hc rfl rfl rfl (fr _ (by rfl))) (pa_cons (pe_lamG TB hc rfl rfl rfl (fr _ (by rfl))) pa_nil)))))
    (psc_cons (ps_set (i := 1) nd rfl (by first | exact .inl rfl | exact .inr rfl) (pe_op op_cat (pv 1) (pe_lst (pa_cons (pe_lamG TB hc rfl rfl rfl (fr _ (by rfl))) (pa_cons (pe_lamG TB hc rfl rfl rfl (fr _ (by rfl))) (pa_cons (pe_lamG TB hc rfl rfl rfl (fr _ (by rfl))) pa_nil))))))
    (psc_cons (ps_set (i := 1) nd rfl (by first | exact .inl rfl | exact .inr rfl) (pe_op op_cat (pv 1) (pe_lst (pa_cons (pe_lamG TB hc rfl rfl rfl (fr _ (by rfl))) (pa_cons (pe_lamG TB hc rfl rfl rfl (fr _ (by rfl))) pa_nil)))))
    (psc_cons (ps_set (i := 1) nd rfl (by first | exact .inl rfl | exact .inr rfl) (pe_op op_cat (pv 1) (pe_lst (pa_cons (pe_lamG TB hc rfl rfl rfl (fr _ (by rfl))) (pa_cons (pe_lamG TB hc rfl rfl rfl (fr _ (by rfl))) pa_nil)))))
    (psc_cons (ps_set (i := 1) nd rfl (by first | exact .inl rfl | exact .inr rfl) (pe_op op_cat (pv 1) (pe_lst (pa_cons (pe_lamG TB hc rfl rfl rfl (fr _ (by rfl))) (pa_cons (pe_lamG TB hc rfl rfl rfl (fr _ (by rfl))) pa_nil)))))
    (psc_cons (ps_set (i := 1) nd rfl (by first | exact .inl rfl | exact .inr rfl) (pe_op op_cat (pv 1) (pe_lst (pa_cons (pe_lamG TB hc rfl rfl rfl (fr _ (by rfl))) (pa_cons (pe_lamG TB hc rfl rfl rfl (fr _ (by rfl))) pa_nil)))))
    (psc_cons (ps_set (i := 1) nd rfl (by first | exact .inl rfl | exact .inr rfl) (pe_op op_cat (pv 1) (pe_lst (pa_cons (pe_lamG TB hc rfl rfl rfl (fr _ (by rfl))) (pa_cons (pe_lamG TB hc rfl rfl rfl (fr _ (by rfl))) pa_nil)))))
    (psc_cons (ps_set (i := 1) nd rfl (by first | exact .inl rfl | exact .inr rfl) (pe_op op_cat (pv 1) (pe_lst (pa_cons (pe_lamG TB hc rfl rfl rfl (fr _ (by rfl))) (pa_cons (pe_lamG TB hc rfl rfl rfl (fr _ (by rfl))) (pa_cons (pe_lamG TB hc rfl rfl rfl (fr _ (by rfl))) pa_nil))))))
    (psc_cons (ps_set (i := 1) nd rfl (by first | exact .inl rfl | exact .inr rfl) (pe_op op_cat (pv 1) (pe_lst (pa_cons (pe_lamG TB hc rfl rfl rfl (fr _ (by rfl))) (pa_cons (pe_lamG TB hc rfl rfl rfl (fr _ (by rfl))) (pa_cons (pe_lamG TB hc rfl rfl rfl (fr _ (by rfl))) pa_nil))))))
    (psc_ret (pe_op op_cat (pv 1) (pe_lst (pa_cons (pe_lamG TB hc rfl rfl rfl (fr _ (by rfl))) (pa_cons (pe_lamG TB hc rfl rfl rfl (fr _ (by rfl))) pa_nil))))))))))))))), fun R hR => ?_⟩
  refine rd_lst (n := 3) (lams_cons (dd 0 (by decide) rfl) (lams_cons (dd 1 (by decide) rfl) (lams_cons (dd 2 (by decide) rfl) lams_nil))) (by decide) ex tb fun p0 G0 H0 u0 f0 => ?_
  refine rd_more (m := 3) (n := 2) (lams_cons (dd 3 (by decide) rfl) (lams_cons (dd 4 (by decide) rfl) lams_nil)) (by decide) f0 rfl fun p1 G1 H1 u1 f1 => ?_
  refine rd_more (m := 5) (n := 3) (lams_cons (dd 5 (by decide) rfl) (lams_cons (dd 6 (by decide) rfl) (lams_cons (dd 7 (by decide) rfl) lams_nil))) (by decide) f1 rfl fun p2 G2 H2 u2 f2 => ?_
  refine rd_more (m := 8) (n := 2) (lams_cons (dd 8 (by decide) rfl) (lams_cons (dd 9 (by decide) rfl) lams_nil)) (by decide) f2 rfl fun p3 G3 H3 u3 f3 => ?_
  refine rd_more (m := 10) (n := 2) (lams_cons (dd 10 (by decide) rfl) (lams_cons (dd 11 (by decide) rfl) lams_nil)) (by decide) f3 rfl fun p4 G4 H4 u4 f4 => ?_
  refine rd_more (m := 12) (n := 2) (lams_cons (dd 12 (by decide) rfl) (lams_cons (dd 13 (by decide) rfl) lams_nil)) (by decide) f4 rfl fun p5 G5 H5 u5 f5 => ?_
  refine rd_more (m := 14) (n := 2) (lams_cons (dd 14 (by decide) rfl) (lams_cons (dd 15 (by decide) rfl) lams_nil)) (by decide) f5 rfl fun p6 G6 H6 u6 f6 => ?_
  refine rd_more (m := 16) (n := 2) (lams_cons (dd 16 (by decide) rfl) (lams_cons (dd 17 (by decide) rfl) lams_nil)) (by decide) f6 rfl fun p7 G7 H7 u7 f7 => ?_
  refine rd_more (m := 18) (n := 3) (lams_cons (dd 18 (by decide) rfl) (lams_cons (dd 19 (by decide) rfl) (lams_cons (dd 20 (by decide) rfl) lams_nil))) (by decide) f7 rfl fun p8 G8 H8 u8 f8 => ?_
  refine rd_more (m := 21) (n := 3) (lams_cons (dd 21 (by decide) rfl) (lams_cons (dd 22 (by decide) rfl) (lams_cons (dd 23 (by decide) rfl) lams_nil))) (by decide) f8 rfl fun p9 G9 H9 u9 f9 => ?_
  refine rd_more (m := 24) (n := 2) (lams_cons (dd 24 (by decide) rfl) (lams_cons (dd 25 (by decide) rfl) lams_nil)) (by decide) f9 rfl fun p10 G10 H10 u10 f10 => ?_
  exact hR p10 G10 H10 _ ((((((((((u0.trans f0.2.1.ne u1).trans f1.2.1.ne u2).trans f2.2.1.ne u3).trans f3.2.1.ne u4).trans f4.2.1.ne u5).trans f5.2.1.ne u6).trans f6.2.1.ne u7).trans f7.2.1.ne u8).trans f8.2.1.ne u9).trans f9.2.1.ne u10) f10 rfl
end
end Dn
set_option maxHeartbeats 8000000
namespace Dn
open PySem PySem.Spec PyProof.Rows L2 HotX L2H LamX
open Evl (Ex fresh_back)
/-- no hall -/
def noHall (d : D) : Prop := F_is_hall [d] = some (.bool false)
section
variable {P : Program} {w : World} {K : PySem.W.Frag} {mg : Str → Option Value} {base : Heap} {C : Addr}
theorem rr_need_hall (d : Df K mg "need_hall" s_need_hall ["thing"]) (R : RaC K mg "NoHall" C) (h_is_hall : Fd P w K mg base "is_hall" 4 1 F_is_hall) : RFn P w K mg base "need_hall" 5 1 0 noHall C := by
  have nd := sc_need_hall.nd
  refine RFn.of d sc_need_hall rfl fun f cdv A outer s H vs E G v d hr hl hv ex rp hb hE => ?_
  match vs, hl with
  | [a], _ =>
    cases hv
    refine raise_if (dent_not (dent_val (den_call h_is_hall (hr.mono (by decide)) rfl (dena_cons (dv 0) dena_nil)))) (L2N.ps_raise rfl takesE (R.make rfl)) ⟨fun a => H a = none, fun _ => 0, envOf ["thing"] [d], envOf ["thing"] [d], G, start_rep ex (fun _ h => h) (.cons rp .nil), ?_, fun G' H' g Dd => hE H' fun b o e => g.h b o e (some_ne e)⟩
    exact not_call hb
theorem sr_need_written : FnScope ["hall", "book", "looks"] ["hall", "book", "looks"] (defScope s_need_written) := ⟨rfl, rfl, rfl, by decide +kernel, rfl, by decide +kernel, by decide +kernel⟩
theorem rr_need_written (d : Df K mg "need_written" s_need_written ["hall", "book", "looks"]) (h_need_hall : RFn P w K mg base "need_hall" 5 1 0 noHall C) : RFn P w K mg base "need_written" 6 3 0 noHall C := by
  have nd := sr_need_written.nd
  refine RFn.of d sr_need_written rfl fun f cdv A outer s H vs E G v d hr hl hv ex rp hb hE => ?_
  obtain ⟨g_need_hall, gd_need_hall, ps_need_hall, m_need_hall, k_need_hall, b_need_hall, n_need_hall, F_need_hall⟩ := h_need_hall.ex
  match vs, hl with
  | [a0, a1, a2], _ =>
    cases hv
    exact ⟨_, pss_cons (ps_expr (pe_call F_need_hall (hr.mono (by decide)) rfl m_need_hall k_need_hall b_need_hall .nil passE (pa_cons (pv 0) pa_nil))) pss_never, fun Dd => ⟨_, rfl, rfl, G, _, d, rfl, ex, rp, hb, hE⟩⟩
abbrev sx_is_book : Stmt := topS 40
theorem sr_is_book : FnScope ["hall", "thing"] ["hall", "thing"] (defScope sx_is_book) := ⟨rfl, rfl, rfl, by decide +kernel, rfl, by decide +kernel, by decide +kernel⟩
theorem rr_is_book (d : Df K mg "is_book" sx_is_book ["hall", "thing"]) (h_need_hall : RFn P w K mg base "need_hall" 5 1 0 noHall C) : RFn P w K mg base "is_book" 6 2 0 noHall C := by
  have nd := sr_is_book.nd
  refine RFn.of d sr_is_book rfl fun f cdv A outer s H vs E G v d hr hl hv ex rp hb hE => ?_
  obtain ⟨g_need_hall, gd_need_hall, ps_need_hall, m_need_hall, k_need_hall, b_need_hall, n_need_hall, F_need_hall⟩ := h_need_hall.ex
  match vs, hl with
  | [a0, a1], _ =>
    cases hv
    exact ⟨_, pss_cons (ps_expr (pe_call F_need_hall (hr.mono (by decide)) rfl m_need_hall k_need_hall b_need_hall .nil passE (pa_cons (pv 0) pa_nil))) pss_never, fun Dd => ⟨_, rfl, rfl, G, _, d, rfl, ex, rp, hb, hE⟩⟩
abbrev sx_are_looks : Stmt := topS 41
theorem sr_are_looks : FnScope ["hall", "book", "thing"] ["hall", "book", "thing"] (defScope sx_are_looks) := ⟨rfl, rfl, rfl, by decide +kernel, rfl, by decide +kernel, by decide +kernel⟩
theorem rr_are_looks (d : Df K mg "are_looks" sx_are_looks ["hall", "book", "thing"]) (h_need_hall : RFn P w K mg base "need_hall" 5 1 0 noHall C) : RFn P w K mg base "are_looks" 6 3 0 noHall C := by
  have nd := sr_are_looks.nd
  refine RFn.of d sr_are_looks rfl fun f cdv A outer s H vs E G v d hr hl hv ex rp hb hE => ?_
  obtain ⟨g_need_hall, gd_need_hall, ps_need_hall, m_need_hall, k_need_hall, b_need_hall, n_need_hall, F_need_hall⟩ := h_need_hall.ex
  match vs, hl with
  | [a0, a1, a2], _ =>
    cases hv
    exact ⟨_, pss_cons (ps_expr (pe_call F_need_hall (hr.mono (by decide)) rfl m_need_hall k_need_hall b_need_hall .nil passE (pa_cons (pv 0) pa_nil))) pss_never, fun Dd => ⟨_, rfl, rfl, G, _, d, rfl, ex, rp, hb, hE⟩⟩
abbrev sx_run : Stmt := topS 118
theorem sr_run : FnScope ["hall", "comings"] ["hall", "comings"] (defScope sx_run) := ⟨rfl, rfl, rfl, by decide +kernel, rfl, by decide +kernel, by decide +kernel⟩
theorem rr_run (d : Df K mg "run" sx_run ["hall", "comings"]) (h_need_hall : RFn P w K mg base "need_hall" 5 1 0 noHall C) : RFn P w K mg base "run" 6 2 0 noHall C := by
  have nd := sr_run.nd
  refine RFn.of d sr_run rfl fun f cdv A outer s H vs E G v d hr hl hv ex rp hb hE => ?_
  obtain ⟨g_need_hall, gd_need_hall, ps_need_hall, m_need_hall, k_need_hall, b_need_hall, n_need_hall, F_need_hall⟩ := h_need_hall.ex
  match vs, hl with
  | [a0, a1], _ =>
    cases hv
    exact ⟨_, pss_cons (ps_expr (pe_call F_need_hall (hr.mono (by decide)) rfl m_need_hall k_need_hall b_need_hall .nil passE (pa_cons (pv 0) pa_nil))) pss_never, fun Dd => ⟨_, rfl, rfl, G, _, d, rfl, ex, rp, hb, hE⟩⟩
abbrev sx_is_story : Stmt := topS 119
theorem sr_is_story : FnScope ["hall", "book", "looks", "thing"] ["hall", "book", "looks", "thing"] (defScope sx_is_story) := ⟨rfl, rfl, rfl, by decide +kernel, rfl, by decide +kernel, by decide +kernel⟩
theorem rr_is_story (d : Df K mg "is_story" sx_is_story ["hall", "book", "looks", "thing"]) (h_need_hall : RFn P w K mg base "need_hall" 5 1 0 noHall C) : RFn P w K mg base "is_story" 6 4 0 noHall C := by
  have nd := sr_is_story.nd
  refine RFn.of d sr_is_story rfl fun f cdv A outer s H vs E G v d hr hl hv ex rp hb hE => ?_
  obtain ⟨g_need_hall, gd_need_hall, ps_need_hall, m_need_hall, k_need_hall, b_need_hall, n_need_hall, F_need_hall⟩ := h_need_hall.ex
  match vs, hl with
  | [a0, a1, a2, a3], _ =>
    cases hv
    exact ⟨_, pss_cons (ps_expr (pe_call F_need_hall (hr.mono (by decide)) rfl m_need_hall k_need_hall b_need_hall .nil passE (pa_cons (pv 0) pa_nil))) pss_never, fun Dd => ⟨_, rfl, rfl, G, _, d, rfl, ex, rp, hb, hE⟩⟩
abbrev sx_stairs : Stmt := topS 129
theorem sr_stairs : FnScope ["hall", "book", "looks", "rank", "columns"] ["hall", "book", "looks", "rank"] (defScope sx_stairs) := ⟨rfl, rfl, rfl, by decide +kernel, rfl, by decide +kernel, by decide +kernel⟩
theorem rr_stairs (d : Df K mg "stairs" sx_stairs ["hall", "book", "looks", "rank"]) (h_need_written : RFn P w K mg base "need_written" 6 3 0 noHall C) : RFn P w K mg base "stairs" 7 4 0 noHall C := by
  have nd := sr_stairs.nd
  refine RFn.of d sr_stairs rfl fun f cdv A outer s H vs E G v d hr hl hv ex rp hb hE => ?_
  obtain ⟨g_need_written, gd_need_written, ps_need_written, m_need_written, k_need_written, b_need_written, n_need_written, F_need_written⟩ := h_need_written.ex
  match vs, hl with
  | [a0, a1, a2, a3], _ =>
    cases hv
    exact ⟨_, pss_cons (ps_set (i := 4) nd rfl (by first | exact .inl rfl | exact .inr rfl) (pe_call F_need_written (hr.mono (by decide)) rfl m_need_written k_need_written b_need_written .nil passE (pa_cons (pv 0) (pa_cons (pv 1) (pa_cons (pv 2) pa_nil))))) pss_never, fun Dd => ⟨_, rfl, _, rfl, _, rfl, rfl, G, _, d, rfl, ex, rp, hb, hE⟩⟩
abbrev sx_can_be : Stmt := topS 130
theorem sr_can_be : FnScope ["hall", "book", "looks", "columns"] ["hall", "book", "looks"] (defScope sx_can_be) := ⟨rfl, rfl, rfl, by decide +kernel, rfl, by decide +kernel, by decide +kernel⟩
theorem rr_can_be (d : Df K mg "can_be" sx_can_be ["hall", "book", "looks"]) (h_need_written : RFn P w K mg base "need_written" 6 3 0 noHall C) : RFn P w K mg base "can_be" 7 3 0 noHall C := by
  have nd := sr_can_be.nd
  refine RFn.of d sr_can_be rfl fun f cdv A outer s H vs E G v d hr hl hv ex rp hb hE => ?_
  obtain ⟨g_need_written, gd_need_written, ps_need_written, m_need_written, k_need_written, b_need_written, n_need_written, F_need_written⟩ := h_need_written.ex
  match vs, hl with
  | [a0, a1, a2], _ =>
    cases hv
    exact ⟨_, pss_cons (ps_set (i := 3) nd rfl (by first | exact .inl rfl | exact .inr rfl) (pe_call F_need_written (hr.mono (by decide)) rfl m_need_written k_need_written b_need_written .nil passE (pa_cons (pv 0) (pa_cons (pv 1) (pa_cons (pv 2) pa_nil))))) pss_never, fun Dd => ⟨_, rfl, _, rfl, _, rfl, rfl, G, _, d, rfl, ex, rp, hb, hE⟩⟩
abbrev sx_first_bar : Stmt := topS 131
theorem sr_first_bar : FnScope ["hall", "book"] ["hall", "book"] (defScope sx_first_bar) := ⟨rfl, rfl, rfl, by decide +kernel, rfl, by decide +kernel, by decide +kernel⟩
theorem rr_first_bar (d : Df K mg "first_bar" sx_first_bar ["hall", "book"]) (h_need_hall : RFn P w K mg base "need_hall" 5 1 0 noHall C) : RFn P w K mg base "first_bar" 6 2 0 noHall C := by
  have nd := sr_first_bar.nd
  refine RFn.of d sr_first_bar rfl fun f cdv A outer s H vs E G v d hr hl hv ex rp hb hE => ?_
  obtain ⟨g_need_hall, gd_need_hall, ps_need_hall, m_need_hall, k_need_hall, b_need_hall, n_need_hall, F_need_hall⟩ := h_need_hall.ex
  match vs, hl with
  | [a0, a1], _ =>
    cases hv
    exact ⟨_, pss_cons (ps_expr (pe_call F_need_hall (hr.mono (by decide)) rfl m_need_hall k_need_hall b_need_hall .nil passE (pa_cons (pv 0) pa_nil))) pss_never, fun Dd => ⟨_, rfl, rfl, G, _, d, rfl, ex, rp, hb, hE⟩⟩
abbrev sx_bar : Stmt := topS 132
theorem sr_bar : FnScope ["hall", "book", "looks", "turns"] ["hall", "book", "looks"] (defScope sx_bar) := ⟨rfl, rfl, rfl, by decide +kernel, rfl, by decide +kernel, by decide +kernel⟩
theorem rr_bar (d : Df K mg "bar" sx_bar ["hall", "book", "looks"]) (h_need_written : RFn P w K mg base "need_written" 6 3 0 noHall C) (d_o : Df K mg "all_turns" s_all_turns ["hall", "columns"]) : RFn P w K mg base "bar" 7 3 0 noHall C := by
  have nd := sr_bar.nd
  refine RFn.of d sr_bar rfl fun f cdv A outer s H vs E G v d hr hl hv ex rp hb hE => ?_
  obtain ⟨g_need_written, gd_need_written, ps_need_written, m_need_written, k_need_written, b_need_written, n_need_written, F_need_written⟩ := h_need_written.ex
  obtain ⟨g_o, gd_o, m_o, f_o, b_o⟩ := d_o.ex
  have k_o := f_o.kp
  match vs, hl with
  | [a0, a1, a2], _ =>
    cases hv
    exact ⟨_, pss_cons (ps_set (i := 3) nd rfl (by first | exact .inl rfl | exact .inr rfl) (pe_call (fn_false (k := 1) (CX := CX0)) (hr.mono (by decide)) rfl m_o k_o b_o .nil pass0 (pa_cons (pv 0) (pa_cons (pe_call F_need_written (hr.mono (by decide)) rfl m_need_written k_need_written b_need_written .nil passE (pa_cons (pv 0) (pa_cons (pv 1) (pa_cons (pv 2) pa_nil)))) pa_nil)))) pss_never, fun Dd => ⟨_, rfl, ⟨_, rfl, _, rfl, _, rfl, rfl, G, _, d, rfl, ex, rp, hb, hE⟩⟩⟩
abbrev sx_is_bar : Stmt := topS 133
theorem sr_is_bar : FnScope ["hall", "book", "looks", "thing", "columns"] ["hall", "book", "looks", "thing"] (defScope sx_is_bar) := ⟨rfl, rfl, rfl, by decide +kernel, rfl, by decide +kernel, by decide +kernel⟩
theorem rr_is_bar (d : Df K mg "is_bar" sx_is_bar ["hall", "book", "looks", "thing"]) (h_need_written : RFn P w K mg base "need_written" 6 3 0 noHall C) : RFn P w K mg base "is_bar" 7 4 0 noHall C := by
  have nd := sr_is_bar.nd
  refine RFn.of d sr_is_bar rfl fun f cdv A outer s H vs E G v d hr hl hv ex rp hb hE => ?_
  obtain ⟨g_need_written, gd_need_written, ps_need_written, m_need_written, k_need_written, b_need_written, n_need_written, F_need_written⟩ := h_need_written.ex
  match vs, hl with
  | [a0, a1, a2, a3], _ =>
    cases hv
    exact ⟨_, pss_cons (ps_set (i := 4) nd rfl (by first | exact .inl rfl | exact .inr rfl) (pe_call F_need_written (hr.mono (by decide)) rfl m_need_written k_need_written b_need_written .nil passE (pa_cons (pv 0) (pa_cons (pv 1) (pa_cons (pv 2) pa_nil))))) pss_never, fun Dd => ⟨_, rfl, _, rfl, _, rfl, rfl, G, _, d, rfl, ex, rp, hb, hE⟩⟩
abbrev sx_how_many : Stmt := topS 111
theorem sr_how_many : FnScope ["hall", "book", "looks", "columns"] ["hall", "book", "looks"] (defScope sx_how_many) := ⟨rfl, rfl, rfl, by decide +kernel, rfl, by decide +kernel, by decide +kernel⟩
theorem rr_how_many (d : Df K mg "how_many" sx_how_many ["hall", "book", "looks"]) (h_need_written : RFn P w K mg base "need_written" 6 3 0 noHall C) : RFn P w K mg base "how_many" 7 3 0 noHall C := by
  have nd := sr_how_many.nd
  refine RFn.of d sr_how_many rfl fun f cdv A outer s H vs E G v d hr hl hv ex rp hb hE => ?_
  obtain ⟨g_need_written, gd_need_written, ps_need_written, m_need_written, k_need_written, b_need_written, n_need_written, F_need_written⟩ := h_need_written.ex
  match vs, hl with
  | [a0, a1, a2], _ =>
    cases hv
    exact ⟨_, pss_cons (ps_set (i := 3) nd rfl (by first | exact .inl rfl | exact .inr rfl) (pe_call F_need_written (hr.mono (by decide)) rfl m_need_written k_need_written b_need_written .nil passE (pa_cons (pv 0) (pa_cons (pv 1) (pa_cons (pv 2) pa_nil))))) pss_never, fun Dd => ⟨_, rfl, _, rfl, _, rfl, rfl, G, _, d, rfl, ex, rp, hb, hE⟩⟩
abbrev sx_how_many_of : Stmt := topS 112
theorem sr_how_many_of : FnScope ["hall", "book", "looks", "rank", "columns"] ["hall", "book", "looks", "rank"] (defScope sx_how_many_of) := ⟨rfl, rfl, rfl, by decide +kernel, rfl, by decide +kernel, by decide +kernel⟩
theorem rr_how_many_of (d : Df K mg "how_many_of" sx_how_many_of ["hall", "book", "looks", "rank"]) (h_need_written : RFn P w K mg base "need_written" 6 3 0 noHall C) : RFn P w K mg base "how_many_of" 7 4 0 noHall C := by
  have nd := sr_how_many_of.nd
  refine RFn.of d sr_how_many_of rfl fun f cdv A outer s H vs E G v d hr hl hv ex rp hb hE => ?_
  obtain ⟨g_need_written, gd_need_written, ps_need_written, m_need_written, k_need_written, b_need_written, n_need_written, F_need_written⟩ := h_need_written.ex
  match vs, hl with
  | [a0, a1, a2, a3], _ =>
    cases hv
    exact ⟨_, pss_cons (ps_set (i := 4) nd rfl (by first | exact .inl rfl | exact .inr rfl) (pe_call F_need_written (hr.mono (by decide)) rfl m_need_written k_need_written b_need_written .nil passE (pa_cons (pv 0) (pa_cons (pv 1) (pa_cons (pv 2) pa_nil))))) pss_never, fun Dd => ⟨_, rfl, _, rfl, _, rfl, rfl, G, _, d, rfl, ex, rp, hb, hE⟩⟩
abbrev sx_row_at : Stmt := topS 113
theorem sr_row_at : FnScope ["hall", "book", "looks", "rank", "number", "columns"] ["hall", "book", "looks", "rank", "number"] (defScope sx_row_at) := ⟨rfl, rfl, rfl, by decide +kernel, rfl, by decide +kernel, by decide +kernel⟩
theorem rr_row_at (d : Df K mg "row_at" sx_row_at ["hall", "book", "looks", "rank", "number"]) (h_need_written : RFn P w K mg base "need_written" 6 3 0 noHall C) : RFn P w K mg base "row_at" 7 5 0 noHall C := by
  have nd := sr_row_at.nd
  refine RFn.of d sr_row_at rfl fun f cdv A outer s H vs E G v d hr hl hv ex rp hb hE => ?_
  obtain ⟨g_need_written, gd_need_written, ps_need_written, m_need_written, k_need_written, b_need_written, n_need_written, F_need_written⟩ := h_need_written.ex
  match vs, hl with
  | [a0, a1, a2, a3, a4], _ =>
    cases hv
    exact ⟨_, pss_cons (ps_set (i := 5) nd rfl (by first | exact .inl rfl | exact .inr rfl) (pe_call F_need_written (hr.mono (by decide)) rfl m_need_written k_need_written b_need_written .nil passE (pa_cons (pv 0) (pa_cons (pv 1) (pa_cons (pv 2) pa_nil))))) pss_never, fun Dd => ⟨_, rfl, _, rfl, _, rfl, rfl, G, _, d, rfl, ex, rp, hb, hE⟩⟩
abbrev sx_number_of : Stmt := topS 114
theorem sr_number_of : FnScope ["hall", "book", "looks", "rank", "row", "columns"] ["hall", "book", "looks", "rank", "row"] (defScope sx_number_of) := ⟨rfl, rfl, rfl, by decide +kernel, rfl, by decide +kernel, by decide +kernel⟩
theorem rr_number_of (d : Df K mg "number_of" sx_number_of ["hall", "book", "looks", "rank", "row"]) (h_need_written : RFn P w K mg base "need_written" 6 3 0 noHall C) : RFn P w K mg base "number_of" 7 5 0 noHall C := by
  have nd := sr_number_of.nd
  refine RFn.of d sr_number_of rfl fun f cdv A outer s H vs E G v d hr hl hv ex rp hb hE => ?_
  obtain ⟨g_need_written, gd_need_written, ps_need_written, m_need_written, k_need_written, b_need_written, n_need_written, F_need_written⟩ := h_need_written.ex
  match vs, hl with
  | [a0, a1, a2, a3, a4], _ =>
    cases hv
    exact ⟨_, pss_cons (ps_set (i := 5) nd rfl (by first | exact .inl rfl | exact .inr rfl) (pe_call F_need_written (hr.mono (by decide)) rfl m_need_written k_need_written b_need_written .nil passE (pa_cons (pv 0) (pa_cons (pv 1) (pa_cons (pv 2) pa_nil))))) pss_never, fun Dd => ⟨_, rfl, _, rfl, _, rfl, rfl, G, _, d, rfl, ex, rp, hb, hE⟩⟩
abbrev sx_came : Stmt := topS 67
theorem sr_came : FnScope ["hall", "book", "looks", "rank", "comer", "columns"] ["hall", "book", "looks", "rank", "comer"] (defScope sx_came) := ⟨rfl, rfl, rfl, by decide +kernel, rfl, by decide +kernel, by decide +kernel⟩
theorem rr_came (d : Df K mg "came" sx_came ["hall", "book", "looks", "rank", "comer"]) (h_need_written : RFn P w K mg base "need_written" 6 3 0 noHall C) : RFn P w K mg base "came" 7 5 0 noHall C := by
  have nd := sr_came.nd
  refine RFn.of d sr_came rfl fun f cdv A outer s H vs E G v d hr hl hv ex rp hb hE => ?_
  obtain ⟨g_need_written, gd_need_written, ps_need_written, m_need_written, k_need_written, b_need_written, n_need_written, F_need_written⟩ := h_need_written.ex
  match vs, hl with
  | [a0, a1, a2, a3, a4], _ =>
    cases hv
    exact ⟨_, pss_cons (ps_set (i := 5) nd rfl (by first | exact .inl rfl | exact .inr rfl) (pe_call F_need_written (hr.mono (by decide)) rfl m_need_written k_need_written b_need_written .nil passE (pa_cons (pv 0) (pa_cons (pv 1) (pa_cons (pv 2) pa_nil))))) pss_never, fun Dd => ⟨_, rfl, _, rfl, _, rfl, rfl, G, _, d, rfl, ex, rp, hb, hE⟩⟩
abbrev sx_taken : Stmt := topS 68
theorem sr_taken : FnScope ["hall", "book", "rank", "comer"] ["hall", "book", "rank", "comer"] (defScope sx_taken) := ⟨rfl, rfl, rfl, by decide +kernel, rfl, by decide +kernel, by decide +kernel⟩
theorem rr_taken (d : Df K mg "taken" sx_taken ["hall", "book", "rank", "comer"]) (h_need_hall : RFn P w K mg base "need_hall" 5 1 0 noHall C) : RFn P w K mg base "taken" 6 4 0 noHall C := by
  have nd := sr_taken.nd
  refine RFn.of d sr_taken rfl fun f cdv A outer s H vs E G v d hr hl hv ex rp hb hE => ?_
  obtain ⟨g_need_hall, gd_need_hall, ps_need_hall, m_need_hall, k_need_hall, b_need_hall, n_need_hall, F_need_hall⟩ := h_need_hall.ex
  match vs, hl with
  | [a0, a1, a2, a3], _ =>
    cases hv
    exact ⟨_, pss_cons (ps_expr (pe_call F_need_hall (hr.mono (by decide)) rfl m_need_hall k_need_hall b_need_hall .nil passE (pa_cons (pv 0) pa_nil))) pss_never, fun Dd => ⟨_, rfl, rfl, G, _, d, rfl, ex, rp, hb, hE⟩⟩
abbrev sx_waits : Stmt := topS 69
theorem sr_waits : FnScope ["hall", "book", "looks", "rank", "columns"] ["hall", "book", "looks", "rank"] (defScope sx_waits) := ⟨rfl, rfl, rfl, by decide +kernel, rfl, by decide +kernel, by decide +kernel⟩
theorem rr_waits (d : Df K mg "waits" sx_waits ["hall", "book", "looks", "rank"]) (h_need_written : RFn P w K mg base "need_written" 6 3 0 noHall C) : RFn P w K mg base "waits" 7 4 0 noHall C := by
  have nd := sr_waits.nd
  refine RFn.of d sr_waits rfl fun f cdv A outer s H vs E G v d hr hl hv ex rp hb hE => ?_
  obtain ⟨g_need_written, gd_need_written, ps_need_written, m_need_written, k_need_written, b_need_written, n_need_written, F_need_written⟩ := h_need_written.ex
  match vs, hl with
  | [a0, a1, a2, a3], _ =>
    cases hv
    exact ⟨_, pss_cons (ps_set (i := 4) nd rfl (by first | exact .inl rfl | exact .inr rfl) (pe_call F_need_written (hr.mono (by decide)) rfl m_need_written k_need_written b_need_written .nil passE (pa_cons (pv 0) (pa_cons (pv 1) (pa_cons (pv 2) pa_nil))))) pss_never, fun Dd => ⟨_, rfl, _, rfl, _, rfl, rfl, G, _, d, rfl, ex, rp, hb, hE⟩⟩
abbrev sx_waiting : Stmt := topS 70
theorem sr_waiting : FnScope ["hall", "book", "looks", "rank", "tick", "columns"] ["hall", "book", "looks", "rank", "tick"] (defScope sx_waiting) := ⟨rfl, rfl, rfl, by decide +kernel, rfl, by decide +kernel, by decide +kernel⟩
theorem rr_waiting (d : Df K mg "waiting" sx_waiting ["hall", "book", "looks", "rank", "tick"]) (h_need_written : RFn P w K mg base "need_written" 6 3 0 noHall C) : RFn P w K mg base "waiting" 7 5 0 noHall C := by
  have nd := sr_waiting.nd
  refine RFn.of d sr_waiting rfl fun f cdv A outer s H vs E G v d hr hl hv ex rp hb hE => ?_
  obtain ⟨g_need_written, gd_need_written, ps_need_written, m_need_written, k_need_written, b_need_written, n_need_written, F_need_written⟩ := h_need_written.ex
  match vs, hl with
  | [a0, a1, a2, a3, a4], _ =>
    cases hv
    exact ⟨_, pss_cons (ps_set (i := 5) nd rfl (by first | exact .inl rfl | exact .inr rfl) (pe_call F_need_written (hr.mono (by decide)) rfl m_need_written k_need_written b_need_written .nil passE (pa_cons (pv 0) (pa_cons (pv 1) (pa_cons (pv 2) pa_nil))))) pss_never, fun Dd => ⟨_, rfl, _, rfl, _, rfl, rfl, G, _, d, rfl, ex, rp, hb, hE⟩⟩
abbrev sx_because : Stmt := topS 71
theorem sr_because : FnScope ["hall", "book", "looks", "rank", "other", "columns"] ["hall", "book", "looks", "rank", "other"] (defScope sx_because) := ⟨rfl, rfl, rfl, by decide +kernel, rfl, by decide +kernel, by decide +kernel⟩
theorem rr_because (d : Df K mg "because" sx_because ["hall", "book", "looks", "rank", "other"]) (h_need_written : RFn P w K mg base "need_written" 6 3 0 noHall C) : RFn P w K mg base "because" 7 5 0 noHall C := by
  have nd := sr_because.nd
  refine RFn.of d sr_because rfl fun f cdv A outer s H vs E G v d hr hl hv ex rp hb hE => ?_
  obtain ⟨g_need_written, gd_need_written, ps_need_written, m_need_written, k_need_written, b_need_written, n_need_written, F_need_written⟩ := h_need_written.ex
  match vs, hl with
  | [a0, a1, a2, a3, a4], _ =>
    cases hv
    exact ⟨_, pss_cons (ps_set (i := 5) nd rfl (by first | exact .inl rfl | exact .inr rfl) (pe_call F_need_written (hr.mono (by decide)) rfl m_need_written k_need_written b_need_written .nil passE (pa_cons (pv 0) (pa_cons (pv 1) (pa_cons (pv 2) pa_nil))))) pss_never, fun Dd => ⟨_, rfl, _, rfl, _, rfl, rfl, G, _, d, rfl, ex, rp, hb, hE⟩⟩
abbrev sx_nexts : Stmt := topS 97
theorem sr_nexts : FnScope ["hall", "book", "looks", "columns"] ["hall", "book", "looks"] (defScope sx_nexts) := ⟨rfl, rfl, rfl, by decide +kernel, rfl, by decide +kernel, by decide +kernel⟩
theorem rr_nexts (d : Df K mg "nexts" sx_nexts ["hall", "book", "looks"]) (h_need_written : RFn P w K mg base "need_written" 6 3 0 noHall C) : RFn P w K mg base "nexts" 7 3 0 noHall C := by
  have nd := sr_nexts.nd
  refine RFn.of d sr_nexts rfl fun f cdv A outer s H vs E G v d hr hl hv ex rp hb hE => ?_
  obtain ⟨g_need_written, gd_need_written, ps_need_written, m_need_written, k_need_written, b_need_written, n_need_written, F_need_written⟩ := h_need_written.ex
  match vs, hl with
  | [a0, a1, a2], _ =>
    cases hv
    exact ⟨_, pss_cons (ps_set (i := 3) nd rfl (by first | exact .inl rfl | exact .inr rfl) (pe_call F_need_written (hr.mono (by decide)) rfl m_need_written k_need_written b_need_written .nil passE (pa_cons (pv 0) (pa_cons (pv 1) (pa_cons (pv 2) pa_nil))))) pss_never, fun Dd => ⟨_, rfl, _, rfl, _, rfl, rfl, G, _, d, rfl, ex, rp, hb, hE⟩⟩
abbrev sx_best_look : Stmt := topS 98
theorem sr_best_look : FnScope ["hall", "book", "looks", "columns"] ["hall", "book", "looks"] (defScope sx_best_look) := ⟨rfl, rfl, rfl, by decide +kernel, rfl, by decide +kernel, by decide +kernel⟩
theorem rr_best_look (d : Df K mg "best_look" sx_best_look ["hall", "book", "looks"]) (h_need_written : RFn P w K mg base "need_written" 6 3 0 noHall C) : RFn P w K mg base "best_look" 7 3 0 noHall C := by
  have nd := sr_best_look.nd
  refine RFn.of d sr_best_look rfl fun f cdv A outer s H vs E G v d hr hl hv ex rp hb hE => ?_
  obtain ⟨g_need_written, gd_need_written, ps_need_written, m_need_written, k_need_written, b_need_written, n_need_written, F_need_written⟩ := h_need_written.ex
  match vs, hl with
  | [a0, a1, a2], _ =>
    cases hv
    exact ⟨_, pss_cons (ps_set (i := 3) nd rfl (by first | exact .inl rfl | exact .inr rfl) (pe_call F_need_written (hr.mono (by decide)) rfl m_need_written k_need_written b_need_written .nil passE (pa_cons (pv 0) (pa_cons (pv 1) (pa_cons (pv 2) pa_nil))))) pss_never, fun Dd => ⟨_, rfl, _, rfl, _, rfl, rfl, G, _, d, rfl, ex, rp, hb, hE⟩⟩
abbrev sx_mends : Stmt := topS 90
theorem sr_mends : FnScope ["hall", "book"] ["hall", "book"] (defScope sx_mends) := ⟨rfl, rfl, rfl, by decide +kernel, rfl, by decide +kernel, by decide +kernel⟩
theorem rr_mends (d : Df K mg "mends" sx_mends ["hall", "book"]) (h_need_hall : RFn P w K mg base "need_hall" 5 1 0 noHall C) : RFn P w K mg base "mends" 6 2 0 noHall C := by
  have nd := sr_mends.nd
  refine RFn.of d sr_mends rfl fun f cdv A outer s H vs E G v d hr hl hv ex rp hb hE => ?_
  obtain ⟨g_need_hall, gd_need_hall, ps_need_hall, m_need_hall, k_need_hall, b_need_hall, n_need_hall, F_need_hall⟩ := h_need_hall.ex
  match vs, hl with
  | [a0, a1], _ =>
    cases hv
    exact ⟨_, pss_cons (ps_expr (pe_call F_need_hall (hr.mono (by decide)) rfl m_need_hall k_need_hall b_need_hall .nil passE (pa_cons (pv 0) pa_nil))) pss_never, fun Dd => ⟨_, rfl, rfl, G, _, d, rfl, ex, rp, hb, hE⟩⟩
abbrev sx_stays : Stmt := topS 91
theorem sr_stays : FnScope ["hall", "book", "rank"] ["hall", "book", "rank"] (defScope sx_stays) := ⟨rfl, rfl, rfl, by decide +kernel, rfl, by decide +kernel, by decide +kernel⟩
theorem rr_stays (d : Df K mg "stays" sx_stays ["hall", "book", "rank"]) (h_need_hall : RFn P w K mg base "need_hall" 5 1 0 noHall C) : RFn P w K mg base "stays" 6 3 0 noHall C := by
  have nd := sr_stays.nd
  refine RFn.of d sr_stays rfl fun f cdv A outer s H vs E G v d hr hl hv ex rp hb hE => ?_
  obtain ⟨g_need_hall, gd_need_hall, ps_need_hall, m_need_hall, k_need_hall, b_need_hall, n_need_hall, F_need_hall⟩ := h_need_hall.ex
  match vs, hl with
  | [a0, a1, a2], _ =>
    cases hv
    exact ⟨_, pss_cons (ps_expr (pe_call F_need_hall (hr.mono (by decide)) rfl m_need_hall k_need_hall b_need_hall .nil passE (pa_cons (pv 0) pa_nil))) pss_never, fun Dd => ⟨_, rfl, rfl, G, _, d, rfl, ex, rp, hb, hE⟩⟩
abbrev sx_orders : Stmt := topS 104
theorem sr_orders : FnScope ["hall", "book"] ["hall", "book"] (defScope sx_orders) := ⟨rfl, rfl, rfl, by decide +kernel, rfl, by decide +kernel, by decide +kernel⟩
theorem rr_orders (d : Df K mg "orders" sx_orders ["hall", "book"]) (h_need_hall : RFn P w K mg base "need_hall" 5 1 0 noHall C) : RFn P w K mg base "orders" 6 2 0 noHall C := by
  have nd := sr_orders.nd
  refine RFn.of d sr_orders rfl fun f cdv A outer s H vs E G v d hr hl hv ex rp hb hE => ?_
  obtain ⟨g_need_hall, gd_need_hall, ps_need_hall, m_need_hall, k_need_hall, b_need_hall, n_need_hall, F_need_hall⟩ := h_need_hall.ex
  match vs, hl with
  | [a0, a1], _ =>
    cases hv
    exact ⟨_, pss_cons (ps_expr (pe_call F_need_hall (hr.mono (by decide)) rfl m_need_hall k_need_hall b_need_hall .nil passE (pa_cons (pv 0) pa_nil))) pss_never, fun Dd => ⟨_, rfl, rfl, G, _, d, rfl, ex, rp, hb, hE⟩⟩
abbrev sx_must_be_ahead : Stmt := topS 105
theorem sr_must_be_ahead : FnScope ["hall", "book"] ["hall", "book"] (defScope sx_must_be_ahead) := ⟨rfl, rfl, rfl, by decide +kernel, rfl, by decide +kernel, by decide +kernel⟩
theorem rr_must_be_ahead (d : Df K mg "must_be_ahead" sx_must_be_ahead ["hall", "book"]) (h_need_hall : RFn P w K mg base "need_hall" 5 1 0 noHall C) : RFn P w K mg base "must_be_ahead" 6 2 0 noHall C := by
  have nd := sr_must_be_ahead.nd
  refine RFn.of d sr_must_be_ahead rfl fun f cdv A outer s H vs E G v d hr hl hv ex rp hb hE => ?_
  obtain ⟨g_need_hall, gd_need_hall, ps_need_hall, m_need_hall, k_need_hall, b_need_hall, n_need_hall, F_need_hall⟩ := h_need_hall.ex
  match vs, hl with
  | [a0, a1], _ =>
    cases hv
    exact ⟨_, pss_cons (ps_expr (pe_call F_need_hall (hr.mono (by decide)) rfl m_need_hall k_need_hall b_need_hall .nil passE (pa_cons (pv 0) pa_nil))) pss_never, fun Dd => ⟨_, rfl, rfl, G, _, d, rfl, ex, rp, hb, hE⟩⟩
abbrev sx_first_taken : Stmt := topS 77
theorem sr_first_taken : FnScope ["hall", "book", "looks", "rank", "comer", "columns"] ["hall", "book", "looks", "rank", "comer"] (defScope sx_first_taken) := ⟨rfl, rfl, rfl, by decide +kernel, rfl, by decide +kernel, by decide +kernel⟩
theorem rr_first_taken (d : Df K mg "first_taken" sx_first_taken ["hall", "book", "looks", "rank", "comer"]) (h_need_written : RFn P w K mg base "need_written" 6 3 0 noHall C) : RFn P w K mg base "first_taken" 7 5 0 noHall C := by
  have nd := sr_first_taken.nd
  refine RFn.of d sr_first_taken rfl fun f cdv A outer s H vs E G v d hr hl hv ex rp hb hE => ?_
  obtain ⟨g_need_written, gd_need_written, ps_need_written, m_need_written, k_need_written, b_need_written, n_need_written, F_need_written⟩ := h_need_written.ex
  match vs, hl with
  | [a0, a1, a2, a3, a4], _ =>
    cases hv
    exact ⟨_, pss_cons (ps_set (i := 5) nd rfl (by first | exact .inl rfl | exact .inr rfl) (pe_call F_need_written (hr.mono (by decide)) rfl m_need_written k_need_written b_need_written .nil passE (pa_cons (pv 0) (pa_cons (pv 1) (pa_cons (pv 2) pa_nil))))) pss_never, fun Dd => ⟨_, rfl, _, rfl, _, rfl, rfl, G, _, d, rfl, ex, rp, hb, hE⟩⟩
abbrev s_Kept_init : Stmt := inClass (topS 87) 0
theorem sr_Kept : FnScope ["self", "hall"] ["self", "hall"] (defScope s_Kept_init) := ⟨rfl, rfl, rfl, by decide +kernel, rfl, by decide +kernel, by decide +kernel⟩
theorem rr_Kept {fI : Addr} {fdI : FuncData} (F : Fun K "__init__" "Kept.__init__" s_Kept_init fI fdI) (h_need_hall : RFn P w K mg base "need_hall" 5 1 0 noHall C) : FnOk P w K mg base (L2N.CX P w) 6 fI fdI ["self", "hall"] (spR 2 1 noHall C) := by
  have nd := sr_Kept.nd
  refine fn_raise F sr_Kept fun cdv A outer s H vs E G v d hr hl hv ex rp hb hE => ?_
  obtain ⟨g_need_hall, gd_need_hall, ps_need_hall, m_need_hall, k_need_hall, b_need_hall, n_need_hall, F_need_hall⟩ := h_need_hall.ex
  match vs, hl with
  | [a0, a1], _ =>
    cases hv
    exact ⟨_, pss_cons (ps_expr (pe_call F_need_hall (hr.mono (by decide)) rfl m_need_hall k_need_hall b_need_hall .nil passE (pa_cons (pv 1) pa_nil))) pss_never, fun Dd => ⟨_, rfl, rfl, G, _, d, rfl, ex, rp, hb, hE⟩⟩
def lamA (i : Nat) : Arguments := ((lamT i).getD (defArgs s__law_doors, .Name "" ⟨0, 0, 0, 0⟩, defScope s__law_doors)).1
def lamB (i : Nat) : Expr := ((lamT i).getD (defArgs s__law_doors, .Name "" ⟨0, 0, 0, 0⟩, defScope s__law_doors)).2.1
def lamS (i : Nat) : Scope := ((lamT i).getD (defArgs s__law_doors, .Name "" ⟨0, 0, 0, 0⟩, defScope s__law_doors)).2.2
theorem lam_eq {i : Nat} {a : Arguments} {b : Expr} {s : Scope} (e : lamT i = some (a, b, s)) : a = lamA i ∧ b = lamB i ∧ s = lamS i := by
  unfold lamA lamB lamS
  rw [e]
  exact ⟨rfl, rfl, rfl⟩
/-- all the defs that the lambdas call -/
structure Doors (P : Program) (w : World) (K : PySem.W.Frag) (mg : Str → Option Value) (base : Heap) (C CK fI : Addr) (fdI : FuncData) : Prop where
  h_is_book : RFn P w K mg base "is_book" 6 2 0 noHall C
  h_are_looks : RFn P w K mg base "are_looks" 6 3 0 noHall C
  h_run : RFn P w K mg base "run" 6 2 0 noHall C
  h_is_story : RFn P w K mg base "is_story" 6 4 0 noHall C
  h_stairs : RFn P w K mg base "stairs" 7 4 0 noHall C
  h_can_be : RFn P w K mg base "can_be" 7 3 0 noHall C
  h_first_bar : RFn P w K mg base "first_bar" 6 2 0 noHall C
  h_bar : RFn P w K mg base "bar" 7 3 0 noHall C
  h_is_bar : RFn P w K mg base "is_bar" 7 4 0 noHall C
  h_how_many : RFn P w K mg base "how_many" 7 3 0 noHall C
  h_how_many_of : RFn P w K mg base "how_many_of" 7 4 0 noHall C
  h_row_at : RFn P w K mg base "row_at" 7 5 0 noHall C
  h_number_of : RFn P w K mg base "number_of" 7 5 0 noHall C
  h_came : RFn P w K mg base "came" 7 5 0 noHall C
  h_taken : RFn P w K mg base "taken" 6 4 0 noHall C
  h_waits : RFn P w K mg base "waits" 7 4 0 noHall C
  h_waiting : RFn P w K mg base "waiting" 7 5 0 noHall C
  h_because : RFn P w K mg base "because" 7 5 0 noHall C
  h_nexts : RFn P w K mg base "nexts" 7 3 0 noHall C
  h_best_look : RFn P w K mg base "best_look" 7 3 0 noHall C
  h_mends : RFn P w K mg base "mends" 6 2 0 noHall C
  h_stays : RFn P w K mg base "stays" 6 3 0 noHall C
  h_orders : RFn P w K mg base "orders" 6 2 0 noHall C
  h_must_be_ahead : RFn P w K mg base "must_be_ahead" 6 2 0 noHall C
  h_first_taken : RFn P w K mg base "first_taken" 7 5 0 noHall C
  kept : FnOk P w K mg base (L2N.CX P w) 6 fI fdI ["self", "hall"] (spR 2 1 noHall C)
  keptB : Binds K fdI ["self", "hall"] []
  keptM : Mk K CK fI
  keptG : mg "Kept" = some (.ref CK)
abbrev RNo (G : Hp) (C : Addr) : Hp → VK → XK → Prop := fun H _ E => Ex G H ∧ ∀ H', Ex H H' → E (.ref C) none H'
theorem does_0 {CK fI : Addr} {fdI : FuncData} {q : Str} {G : Hp} {v : V} {d : D} (S : Doors P w K mg base C CK fI fdI) (rp : Rp G v d) (hb : noHall d) : Lam1 (lamS 0) "x" ∧ NoArgs (lamA 0) (lamB 0) (lamS 0) ∧ Does P w K mg base 8 q "x" (lamB 0) (lamS 0) v (RNo G C) := by
  refine ⟨lam1_by (by decide +kernel), fun _ _ _ _ _ => rfl, fun A outer s H E f cx c' hr => ?_⟩
  obtain ⟨g, gd, ps, hm, hk, hbi, hn, F⟩ := S.h_is_book.ex
  exact ⟨_, pe_call F (hr.mono (by decide)) rfl hm hk hbi .nil passL (pa_cons (pv 0) (pa_cons pe_non pa_nil)), fun Q ⟨ex, hE⟩ => ⟨_, rfl, rfl, G, v, d, rfl, ex, rp, hb, hE⟩⟩
theorem does_1 {CK fI : Addr} {fdI : FuncData} {q : Str} {G : Hp} {v : V} {d : D} (S : Doors P w K mg base C CK fI fdI) (rp : Rp G v d) (hb : noHall d) : Lam1 (lamS 1) "x" ∧ NoArgs (lamA 1) (lamB 1) (lamS 1) ∧ Does P w K mg base 8 q "x" (lamB 1) (lamS 1) v (RNo G C) := by
  refine ⟨lam1_by (by decide +kernel), fun _ _ _ _ _ => rfl, fun A outer s H E f cx c' hr => ?_⟩
  obtain ⟨g, gd, ps, hm, hk, hbi, hn, F⟩ := S.h_are_looks.ex
  exact ⟨_, pe_call F (hr.mono (by decide)) rfl hm hk hbi .nil passL (pa_cons (pv 0) (pa_cons pe_non (pa_cons pe_non pa_nil))), fun Q ⟨ex, hE⟩ => ⟨_, rfl, rfl, G, v, d, rfl, ex, rp, hb, hE⟩⟩
theorem does_2 {CK fI : Addr} {fdI : FuncData} {q : Str} {G : Hp} {v : V} {d : D} (S : Doors P w K mg base C CK fI fdI) (rp : Rp G v d) (hb : noHall d) : Lam1 (lamS 2) "x" ∧ NoArgs (lamA 2) (lamB 2) (lamS 2) ∧ Does P w K mg base 8 q "x" (lamB 2) (lamS 2) v (RNo G C) := by
  refine ⟨lam1_by (by decide +kernel), fun _ _ _ _ _ => rfl, fun A outer s H E f cx c' hr => ?_⟩
  obtain ⟨g, gd, ps, hm, hk, hbi, hn, F⟩ := S.h_run.ex
  exact ⟨_, pe_call F (hr.mono (by decide)) rfl hm hk hbi .nil passL (pa_cons (pv 0) (pa_cons pe_non pa_nil)), fun Q ⟨ex, hE⟩ => ⟨_, rfl, rfl, G, v, d, rfl, ex, rp, hb, hE⟩⟩
theorem does_3 {CK fI : Addr} {fdI : FuncData} {q : Str} {G : Hp} {v : V} {d : D} (S : Doors P w K mg base C CK fI fdI) (rp : Rp G v d) (hb : noHall d) : Lam1 (lamS 3) "x" ∧ NoArgs (lamA 3) (lamB 3) (lamS 3) ∧ Does P w K mg base 8 q "x" (lamB 3) (lamS 3) v (RNo G C) := by
  refine ⟨lam1_by (by decide +kernel), fun _ _ _ _ _ => rfl, fun A outer s H E f cx c' hr => ?_⟩
  obtain ⟨g, gd, ps, hm, hk, hbi, hn, F⟩ := S.h_is_story.ex
  exact ⟨_, pe_call F (hr.mono (by decide)) rfl hm hk hbi .nil passL (pa_cons (pv 0) (pa_cons pe_non (pa_cons pe_non (pa_cons pe_non pa_nil)))), fun Q ⟨ex, hE⟩ => ⟨_, rfl, rfl, G, v, d, rfl, ex, rp, hb, hE⟩⟩
theorem does_4 {CK fI : Addr} {fdI : FuncData} {q : Str} {G : Hp} {v : V} {d : D} (S : Doors P w K mg base C CK fI fdI) (rp : Rp G v d) (hb : noHall d) : Lam1 (lamS 4) "x" ∧ NoArgs (lamA 4) (lamB 4) (lamS 4) ∧ Does P w K mg base 8 q "x" (lamB 4) (lamS 4) v (RNo G C) := by
  refine ⟨lam1_by (by decide +kernel), fun _ _ _ _ _ => rfl, fun A outer s H E f cx c' hr => ?_⟩
  obtain ⟨g, gd, ps, hm, hk, hbi, hn, F⟩ := S.h_stairs.ex
  exact ⟨_, pe_call F (hr.mono (by decide)) rfl hm hk hbi .nil passL (pa_cons (pv 0) (pa_cons pe_non (pa_cons pe_non (pa_cons pe_non pa_nil)))), fun Q ⟨ex, hE⟩ => ⟨_, rfl, rfl, G, v, d, rfl, ex, rp, hb, hE⟩⟩
theorem does_5 {CK fI : Addr} {fdI : FuncData} {q : Str} {G : Hp} {v : V} {d : D} (S : Doors P w K mg base C CK fI fdI) (rp : Rp G v d) (hb : noHall d) : Lam1 (lamS 5) "x" ∧ NoArgs (lamA 5) (lamB 5) (lamS 5) ∧ Does P w K mg base 8 q "x" (lamB 5) (lamS 5) v (RNo G C) := by
  refine ⟨lam1_by (by decide +kernel), fun _ _ _ _ _ => rfl, fun A outer s H E f cx c' hr => ?_⟩
  obtain ⟨g, gd, ps, hm, hk, hbi, hn, F⟩ := S.h_can_be.ex
  exact ⟨_, pe_call F (hr.mono (by decide)) rfl hm hk hbi .nil passL (pa_cons (pv 0) (pa_cons pe_non (pa_cons pe_non pa_nil))), fun Q ⟨ex, hE⟩ => ⟨_, rfl, rfl, G, v, d, rfl, ex, rp, hb, hE⟩⟩
theorem does_6 {CK fI : Addr} {fdI : FuncData} {q : Str} {G : Hp} {v : V} {d : D} (S : Doors P w K mg base C CK fI fdI) (rp : Rp G v d) (hb : noHall d) : Lam1 (lamS 6) "x" ∧ NoArgs (lamA 6) (lamB 6) (lamS 6) ∧ Does P w K mg base 8 q "x" (lamB 6) (lamS 6) v (RNo G C) := by
  refine ⟨lam1_by (by decide +kernel), fun _ _ _ _ _ => rfl, fun A outer s H E f cx c' hr => ?_⟩
  obtain ⟨g, gd, ps, hm, hk, hbi, hn, F⟩ := S.h_first_bar.ex
  exact ⟨_, pe_call F (hr.mono (by decide)) rfl hm hk hbi .nil passL (pa_cons (pv 0) (pa_cons pe_non pa_nil)), fun Q ⟨ex, hE⟩ => ⟨_, rfl, rfl, G, v, d, rfl, ex, rp, hb, hE⟩⟩
theorem does_7 {CK fI : Addr} {fdI : FuncData} {q : Str} {G : Hp} {v : V} {d : D} (S : Doors P w K mg base C CK fI fdI) (rp : Rp G v d) (hb : noHall d) : Lam1 (lamS 7) "x" ∧ NoArgs (lamA 7) (lamB 7) (lamS 7) ∧ Does P w K mg base 8 q "x" (lamB 7) (lamS 7) v (RNo G C) := by
  refine ⟨lam1_by (by decide +kernel), fun _ _ _ _ _ => rfl, fun A outer s H E f cx c' hr => ?_⟩
  obtain ⟨g, gd, ps, hm, hk, hbi, hn, F⟩ := S.h_bar.ex
  exact ⟨_, pe_call F (hr.mono (by decide)) rfl hm hk hbi .nil passL (pa_cons (pv 0) (pa_cons pe_non (pa_cons pe_non pa_nil))), fun Q ⟨ex, hE⟩ => ⟨_, rfl, rfl, G, v, d, rfl, ex, rp, hb, hE⟩⟩
theorem does_8 {CK fI : Addr} {fdI : FuncData} {q : Str} {G : Hp} {v : V} {d : D} (S : Doors P w K mg base C CK fI fdI) (rp : Rp G v d) (hb : noHall d) : Lam1 (lamS 8) "x" ∧ NoArgs (lamA 8) (lamB 8) (lamS 8) ∧ Does P w K mg base 8 q "x" (lamB 8) (lamS 8) v (RNo G C) := by
  refine ⟨lam1_by (by decide +kernel), fun _ _ _ _ _ => rfl, fun A outer s H E f cx c' hr => ?_⟩
  obtain ⟨g, gd, ps, hm, hk, hbi, hn, F⟩ := S.h_is_bar.ex
  exact ⟨_, pe_call F (hr.mono (by decide)) rfl hm hk hbi .nil passL (pa_cons (pv 0) (pa_cons pe_non (pa_cons pe_non (pa_cons pe_non pa_nil)))), fun Q ⟨ex, hE⟩ => ⟨_, rfl, rfl, G, v, d, rfl, ex, rp, hb, hE⟩⟩
theorem does_9 {CK fI : Addr} {fdI : FuncData} {q : Str} {G : Hp} {v : V} {d : D} (S : Doors P w K mg base C CK fI fdI) (rp : Rp G v d) (hb : noHall d) : Lam1 (lamS 9) "x" ∧ NoArgs (lamA 9) (lamB 9) (lamS 9) ∧ Does P w K mg base 8 q "x" (lamB 9) (lamS 9) v (RNo G C) := by
  refine ⟨lam1_by (by decide +kernel), fun _ _ _ _ _ => rfl, fun A outer s H E f cx c' hr => ?_⟩
  obtain ⟨g, gd, ps, hm, hk, hbi, hn, F⟩ := S.h_how_many.ex
  exact ⟨_, pe_call F (hr.mono (by decide)) rfl hm hk hbi .nil passL (pa_cons (pv 0) (pa_cons pe_non (pa_cons pe_non pa_nil))), fun Q ⟨ex, hE⟩ => ⟨_, rfl, rfl, G, v, d, rfl, ex, rp, hb, hE⟩⟩
theorem does_10 {CK fI : Addr} {fdI : FuncData} {q : Str} {G : Hp} {v : V} {d : D} (S : Doors P w K mg base C CK fI fdI) (rp : Rp G v d) (hb : noHall d) : Lam1 (lamS 10) "x" ∧ NoArgs (lamA 10) (lamB 10) (lamS 10) ∧ Does P w K mg base 8 q "x" (lamB 10) (lamS 10) v (RNo G C) := by
  refine ⟨lam1_by (by decide +kernel), fun _ _ _ _ _ => rfl, fun A outer s H E f cx c' hr => ?_⟩
  obtain ⟨g, gd, ps, hm, hk, hbi, hn, F⟩ := S.h_how_many_of.ex
  exact ⟨_, pe_call F (hr.mono (by decide)) rfl hm hk hbi .nil passL (pa_cons (pv 0) (pa_cons pe_non (pa_cons pe_non (pa_cons pe_non pa_nil)))), fun Q ⟨ex, hE⟩ => ⟨_, rfl, rfl, G, v, d, rfl, ex, rp, hb, hE⟩⟩
theorem does_11 {CK fI : Addr} {fdI : FuncData} {q : Str} {G : Hp} {v : V} {d : D} (S : Doors P w K mg base C CK fI fdI) (rp : Rp G v d) (hb : noHall d) : Lam1 (lamS 11) "x" ∧ NoArgs (lamA 11) (lamB 11) (lamS 11) ∧ Does P w K mg base 8 q "x" (lamB 11) (lamS 11) v (RNo G C) := by
  refine ⟨lam1_by (by decide +kernel), fun _ _ _ _ _ => rfl, fun A outer s H E f cx c' hr => ?_⟩
  obtain ⟨g, gd, ps, hm, hk, hbi, hn, F⟩ := S.h_row_at.ex
  exact ⟨_, pe_call F (hr.mono (by decide)) rfl hm hk hbi .nil passL (pa_cons (pv 0) (pa_cons pe_non (pa_cons pe_non (pa_cons pe_non (pa_cons pe_non pa_nil))))), fun Q ⟨ex, hE⟩ => ⟨_, rfl, rfl, G, v, d, rfl, ex, rp, hb, hE⟩⟩
theorem does_12 {CK fI : Addr} {fdI : FuncData} {q : Str} {G : Hp} {v : V} {d : D} (S : Doors P w K mg base C CK fI fdI) (rp : Rp G v d) (hb : noHall d) : Lam1 (lamS 12) "x" ∧ NoArgs (lamA 12) (lamB 12) (lamS 12) ∧ Does P w K mg base 8 q "x" (lamB 12) (lamS 12) v (RNo G C) := by
  refine ⟨lam1_by (by decide +kernel), fun _ _ _ _ _ => rfl, fun A outer s H E f cx c' hr => ?_⟩
  obtain ⟨g, gd, ps, hm, hk, hbi, hn, F⟩ := S.h_number_of.ex
  exact ⟨_, pe_call F (hr.mono (by decide)) rfl hm hk hbi .nil passL (pa_cons (pv 0) (pa_cons pe_non (pa_cons pe_non (pa_cons pe_non (pa_cons pe_non pa_nil))))), fun Q ⟨ex, hE⟩ => ⟨_, rfl, rfl, G, v, d, rfl, ex, rp, hb, hE⟩⟩
theorem does_13 {CK fI : Addr} {fdI : FuncData} {q : Str} {G : Hp} {v : V} {d : D} (S : Doors P w K mg base C CK fI fdI) (rp : Rp G v d) (hb : noHall d) : Lam1 (lamS 13) "x" ∧ NoArgs (lamA 13) (lamB 13) (lamS 13) ∧ Does P w K mg base 8 q "x" (lamB 13) (lamS 13) v (RNo G C) := by
  refine ⟨lam1_by (by decide +kernel), fun _ _ _ _ _ => rfl, fun A outer s H E f cx c' hr => ?_⟩
  obtain ⟨g, gd, ps, hm, hk, hbi, hn, F⟩ := S.h_came.ex
  exact ⟨_, pe_call F (hr.mono (by decide)) rfl hm hk hbi .nil passL (pa_cons (pv 0) (pa_cons pe_non (pa_cons pe_non (pa_cons pe_non (pa_cons pe_non pa_nil))))), fun Q ⟨ex, hE⟩ => ⟨_, rfl, rfl, G, v, d, rfl, ex, rp, hb, hE⟩⟩
theorem does_14 {CK fI : Addr} {fdI : FuncData} {q : Str} {G : Hp} {v : V} {d : D} (S : Doors P w K mg base C CK fI fdI) (rp : Rp G v d) (hb : noHall d) : Lam1 (lamS 14) "x" ∧ NoArgs (lamA 14) (lamB 14) (lamS 14) ∧ Does P w K mg base 8 q "x" (lamB 14) (lamS 14) v (RNo G C) := by
  refine ⟨lam1_by (by decide +kernel), fun _ _ _ _ _ => rfl, fun A outer s H E f cx c' hr => ?_⟩
  obtain ⟨g, gd, ps, hm, hk, hbi, hn, F⟩ := S.h_taken.ex
  exact ⟨_, pe_call F (hr.mono (by decide)) rfl hm hk hbi .nil passL (pa_cons (pv 0) (pa_cons pe_non (pa_cons pe_non (pa_cons pe_non pa_nil)))), fun Q ⟨ex, hE⟩ => ⟨_, rfl, rfl, G, v, d, rfl, ex, rp, hb, hE⟩⟩
theorem does_15 {CK fI : Addr} {fdI : FuncData} {q : Str} {G : Hp} {v : V} {d : D} (S : Doors P w K mg base C CK fI fdI) (rp : Rp G v d) (hb : noHall d) : Lam1 (lamS 15) "x" ∧ NoArgs (lamA 15) (lamB 15) (lamS 15) ∧ Does P w K mg base 8 q "x" (lamB 15) (lamS 15) v (RNo G C) := by
  refine ⟨lam1_by (by decide +kernel), fun _ _ _ _ _ => rfl, fun A outer s H E f cx c' hr => ?_⟩
  obtain ⟨g, gd, ps, hm, hk, hbi, hn, F⟩ := S.h_waits.ex
  exact ⟨_, pe_call F (hr.mono (by decide)) rfl hm hk hbi .nil passL (pa_cons (pv 0) (pa_cons pe_non (pa_cons pe_non (pa_cons pe_non pa_nil)))), fun Q ⟨ex, hE⟩ => ⟨_, rfl, rfl, G, v, d, rfl, ex, rp, hb, hE⟩⟩
theorem does_16 {CK fI : Addr} {fdI : FuncData} {q : Str} {G : Hp} {v : V} {d : D} (S : Doors P w K mg base C CK fI fdI) (rp : Rp G v d) (hb : noHall d) : Lam1 (lamS 16) "x" ∧ NoArgs (lamA 16) (lamB 16) (lamS 16) ∧ Does P w K mg base 8 q "x" (lamB 16) (lamS 16) v (RNo G C) := by
  refine ⟨lam1_by (by decide +kernel), fun _ _ _ _ _ => rfl, fun A outer s H E f cx c' hr => ?_⟩
  obtain ⟨g, gd, ps, hm, hk, hbi, hn, F⟩ := S.h_waiting.ex
  exact ⟨_, pe_call F (hr.mono (by decide)) rfl hm hk hbi .nil passL (pa_cons (pv 0) (pa_cons pe_non (pa_cons pe_non (pa_cons pe_non (pa_cons pe_non pa_nil))))), fun Q ⟨ex, hE⟩ => ⟨_, rfl, rfl, G, v, d, rfl, ex, rp, hb, hE⟩⟩
theorem does_17 {CK fI : Addr} {fdI : FuncData} {q : Str} {G : Hp} {v : V} {d : D} (S : Doors P w K mg base C CK fI fdI) (rp : Rp G v d) (hb : noHall d) : Lam1 (lamS 17) "x" ∧ NoArgs (lamA 17) (lamB 17) (lamS 17) ∧ Does P w K mg base 8 q "x" (lamB 17) (lamS 17) v (RNo G C) := by
  refine ⟨lam1_by (by decide +kernel), fun _ _ _ _ _ => rfl, fun A outer s H E f cx c' hr => ?_⟩
  obtain ⟨g, gd, ps, hm, hk, hbi, hn, F⟩ := S.h_because.ex
  exact ⟨_, pe_call F (hr.mono (by decide)) rfl hm hk hbi .nil passL (pa_cons (pv 0) (pa_cons pe_non (pa_cons pe_non (pa_cons pe_non (pa_cons pe_non pa_nil))))), fun Q ⟨ex, hE⟩ => ⟨_, rfl, rfl, G, v, d, rfl, ex, rp, hb, hE⟩⟩
theorem does_18 {CK fI : Addr} {fdI : FuncData} {q : Str} {G : Hp} {v : V} {d : D} (S : Doors P w K mg base C CK fI fdI) (rp : Rp G v d) (hb : noHall d) : Lam1 (lamS 18) "x" ∧ NoArgs (lamA 18) (lamB 18) (lamS 18) ∧ Does P w K mg base 8 q "x" (lamB 18) (lamS 18) v (RNo G C) := by
  refine ⟨lam1_by (by decide +kernel), fun _ _ _ _ _ => rfl, fun A outer s H E f cx c' hr => ?_⟩
  obtain ⟨g, gd, ps, hm, hk, hbi, hn, F⟩ := S.h_nexts.ex
  exact ⟨_, pe_call F (hr.mono (by decide)) rfl hm hk hbi .nil passL (pa_cons (pv 0) (pa_cons pe_non (pa_cons pe_non pa_nil))), fun Q ⟨ex, hE⟩ => ⟨_, rfl, rfl, G, v, d, rfl, ex, rp, hb, hE⟩⟩
theorem does_19 {CK fI : Addr} {fdI : FuncData} {q : Str} {G : Hp} {v : V} {d : D} (S : Doors P w K mg base C CK fI fdI) (rp : Rp G v d) (hb : noHall d) : Lam1 (lamS 19) "x" ∧ NoArgs (lamA 19) (lamB 19) (lamS 19) ∧ Does P w K mg base 8 q "x" (lamB 19) (lamS 19) v (RNo G C) := by
  refine ⟨lam1_by (by decide +kernel), fun _ _ _ _ _ => rfl, fun A outer s H E f cx c' hr => ?_⟩
  obtain ⟨g, gd, ps, hm, hk, hbi, hn, F⟩ := S.h_best_look.ex
  exact ⟨_, pe_call F (hr.mono (by decide)) rfl hm hk hbi .nil passL (pa_cons (pv 0) (pa_cons pe_non (pa_cons pe_non pa_nil))), fun Q ⟨ex, hE⟩ => ⟨_, rfl, rfl, G, v, d, rfl, ex, rp, hb, hE⟩⟩
theorem does_20 {CK fI : Addr} {fdI : FuncData} {q : Str} {G : Hp} {v : V} {d : D} (S : Doors P w K mg base C CK fI fdI) (rp : Rp G v d) (hb : noHall d) : Lam1 (lamS 20) "x" ∧ NoArgs (lamA 20) (lamB 20) (lamS 20) ∧ Does P w K mg base 8 q "x" (lamB 20) (lamS 20) v (RNo G C) := by
  refine ⟨lam1_by (by decide +kernel), fun _ _ _ _ _ => rfl, fun A outer s H E f cx c' hr => ?_⟩
  obtain ⟨g, gd, ps, hm, hk, hbi, hn, F⟩ := S.h_mends.ex
  exact ⟨_, pe_call F (hr.mono (by decide)) rfl hm hk hbi .nil passL (pa_cons (pv 0) (pa_cons pe_non pa_nil)), fun Q ⟨ex, hE⟩ => ⟨_, rfl, rfl, G, v, d, rfl, ex, rp, hb, hE⟩⟩
theorem does_21 {CK fI : Addr} {fdI : FuncData} {q : Str} {G : Hp} {v : V} {d : D} (S : Doors P w K mg base C CK fI fdI) (rp : Rp G v d) (hb : noHall d) : Lam1 (lamS 21) "x" ∧ NoArgs (lamA 21) (lamB 21) (lamS 21) ∧ Does P w K mg base 8 q "x" (lamB 21) (lamS 21) v (RNo G C) := by
  refine ⟨lam1_by (by decide +kernel), fun _ _ _ _ _ => rfl, fun A outer s H E f cx c' hr => ?_⟩
  obtain ⟨g, gd, ps, hm, hk, hbi, hn, F⟩ := S.h_stays.ex
  exact ⟨_, pe_call F (hr.mono (by decide)) rfl hm hk hbi .nil passL (pa_cons (pv 0) (pa_cons pe_non (pa_cons pe_non pa_nil))), fun Q ⟨ex, hE⟩ => ⟨_, rfl, rfl, G, v, d, rfl, ex, rp, hb, hE⟩⟩
theorem does_22 {CK fI : Addr} {fdI : FuncData} {q : Str} {G : Hp} {v : V} {d : D} (S : Doors P w K mg base C CK fI fdI) (rp : Rp G v d) (hb : noHall d) : Lam1 (lamS 22) "x" ∧ NoArgs (lamA 22) (lamB 22) (lamS 22) ∧ Does P w K mg base 8 q "x" (lamB 22) (lamS 22) v (RNo G C) := by
  refine ⟨lam1_by (by decide +kernel), fun _ _ _ _ _ => rfl, fun A outer s H E f cx c' hr => ?_⟩
  obtain ⟨g, gd, ps, hm, hk, hbi, hn, F⟩ := S.h_orders.ex
  exact ⟨_, pe_call F (hr.mono (by decide)) rfl hm hk hbi .nil passL (pa_cons (pv 0) (pa_cons pe_non pa_nil)), fun Q ⟨ex, hE⟩ => ⟨_, rfl, rfl, G, v, d, rfl, ex, rp, hb, hE⟩⟩
theorem does_23 {CK fI : Addr} {fdI : FuncData} {q : Str} {G : Hp} {v : V} {d : D} (S : Doors P w K mg base C CK fI fdI) (rp : Rp G v d) (hb : noHall d) : Lam1 (lamS 23) "x" ∧ NoArgs (lamA 23) (lamB 23) (lamS 23) ∧ Does P w K mg base 8 q "x" (lamB 23) (lamS 23) v (RNo G C) := by
  refine ⟨lam1_by (by decide +kernel), fun _ _ _ _ _ => rfl, fun A outer s H E f cx c' hr => ?_⟩
  obtain ⟨g, gd, ps, hm, hk, hbi, hn, F⟩ := S.h_must_be_ahead.ex
  exact ⟨_, pe_call F (hr.mono (by decide)) rfl hm hk hbi .nil passL (pa_cons (pv 0) (pa_cons pe_non pa_nil)), fun Q ⟨ex, hE⟩ => ⟨_, rfl, rfl, G, v, d, rfl, ex, rp, hb, hE⟩⟩
theorem does_24 {CK fI : Addr} {fdI : FuncData} {q : Str} {G : Hp} {v : V} {d : D} (S : Doors P w K mg base C CK fI fdI) (rp : Rp G v d) (hb : noHall d) : Lam1 (lamS 24) "x" ∧ NoArgs (lamA 24) (lamB 24) (lamS 24) ∧ Does P w K mg base 8 q "x" (lamB 24) (lamS 24) v (RNo G C) := by
  refine ⟨lam1_by (by decide +kernel), fun _ _ _ _ _ => rfl, fun A outer s H E f cx c' hr => ?_⟩
  obtain ⟨g, gd, ps, hm, hk, hbi, hn, F⟩ := S.h_first_taken.ex
  exact ⟨_, pe_call F (hr.mono (by decide)) rfl hm hk hbi .nil passL (pa_cons (pv 0) (pa_cons pe_non (pa_cons pe_non (pa_cons pe_non (pa_cons pe_non pa_nil))))), fun Q ⟨ex, hE⟩ => ⟨_, rfl, rfl, G, v, d, rfl, ex, rp, hb, hE⟩⟩
theorem does_25 {CK fI : Addr} {fdI : FuncData} {q : Str} {G : Hp} {v : V} {d : D} (S : Doors P w K mg base C CK fI fdI) (rp : Rp G v d) (hb : noHall d) : Lam1 (lamS 25) "x" ∧ NoArgs (lamA 25) (lamB 25) (lamS 25) ∧ Does P w K mg base 8 q "x" (lamB 25) (lamS 25) v (RNo G C) := by
  refine ⟨lam1_by (by decide +kernel), fun _ _ _ _ _ => rfl, fun A outer s H E f cx c' hr => ?_⟩
  refine ⟨_, pe_make S.keptM S.kept (hr.mono (by decide)) rfl S.keptG S.keptB .nil passL (pa_cons (pv 0) pa_nil), fun Q ⟨ex, hE⟩ => ⟨_, rfl, fun x dx hx hdx ne => ?_⟩⟩
  have e2 : Ex H (upd (upd H dx (.own x)) x (.ins CK dx [])) := (Ex.new hdx).trans (Ex.new (by rw [upd_ne (Ne.symm ne)]; exact hx))
  exact ⟨rfl, G, v, d, rfl, ex.trans e2, rp, hb, fun H' e => hE H' (e2.trans e)⟩
theorem does_all {CK fI : Addr} {fdI : FuncData} {q : Str} {G : Hp} {v : V} {d : D} (S : Doors P w K mg base C CK fI fdI) (rp : Rp G v d) (hb : noHall d) {a : Arguments} {b : Expr} {s : Scope} (h : DDoor a b s) : Lam1 s "x" ∧ NoArgs a b s ∧ Does P w K mg base 8 q "x" b s v (RNo G C) := by
  obtain ⟨i, hi, e⟩ := h
  obtain ⟨rfl, rfl, rfl⟩ := lam_eq e
  match i, hi with
  | 0, _ => exact does_0 S rp hb
  | 1, _ => exact does_1 S rp hb
  | 2, _ => exact does_2 S rp hb
  | 3, _ => exact does_3 S rp hb
  | 4, _ => exact does_4 S rp hb
  | 5, _ => exact does_5 S rp hb
  | 6, _ => exact does_6 S rp hb
  | 7, _ => exact does_7 S rp hb
  | 8, _ => exact does_8 S rp hb
  | 9, _ => exact does_9 S rp hb
  | 10, _ => exact does_10 S rp hb
  | 11, _ => exact does_11 S rp hb
  | 12, _ => exact does_12 S rp hb
  | 13, _ => exact does_13 S rp hb
  | 14, _ => exact does_14 S rp hb
  | 15, _ => exact does_15 S rp hb
  | 16, _ => exact does_16 S rp hb
  | 17, _ => exact does_17 S rp hb
  | 18, _ => exact does_18 S rp hb
  | 19, _ => exact does_19 S rp hb
  | 20, _ => exact does_20 S rp hb
  | 21, _ => exact does_21 S rp hb
  | 22, _ => exact does_22 S rp hb
  | 23, _ => exact does_23 S rp hb
  | 24, _ => exact does_24 S rp hb
  | 25, _ => exact does_25 S rp hb
  | n + 26, hi => exact absurd hi (by omega)
end
end Dn
set_option maxHeartbeats 4000000
namespace Dn
open PySem PySem.Spec PyProof.Rows L2 HotX L2H
abbrev s__law_kind : Stmt := topS 145
theorem sc__law_kind : FnScope ["e", "some", "words", "word", "good"] ["e"] (defScope s__law_kind) := ⟨rfl, rfl, rfl, by decide +kernel, rfl, by decide +kernel, by decide +kernel⟩
abbrev cxKind (P : Program) (w : World) (K : PySem.W.Frag) (mg : Str → Option Value) (base : Heap) (f : Addr) (cd : Value) (A : Around) (outer : List Env) (s : Shared) (H : Hp) (p : Addr × Obj) : Cx :=
  cxH CX0 P w K mg base ["e", "some", "words", "word", "good"] "_law_kind" (defScope s__law_kind) f cd A outer s H E0 p
theorem boot_isi : bootBuiltins "isinstance" = some (.builtin "isinstance") := by decide +kernel
section
variable {P : Program} {w : World} {K : PySem.W.Frag} {mg : Str → Option Value} {base : Heap} {f : Addr} {cd : Value} {A : Around} {outer : List Env} {s : Shared} {H : Hp} {p : Addr × Obj} {c : Nat → Addr} {D : Addr} {k : Nat}
theorem kind_body (F : KCls K mg c D k) (Z : Blt2 mg) (hot : Hot1 A p) (pin : PinOk outer H s p) (hz : Zc (.ref D) none p.2) {Q : VK} (q : ∀ H', (∀ b o, H b = some o → H' b = some o) → Q (.str (kNames.getD k "")) H') :
    ∃ t, PSs (cxKind P w K mg base f cd A outer s H p) (defBody s__law_kind) t ∧ t { nx := fun _ H' => Q .non H', rt := Q } [some (.ref p.1), none, none, none, none] H := by
  have nd := sc__law_kind.nd
  have hc : HotCx (cxKind P w K mg base f cd A outer s H p) p.1 := hotCx_cxH hot pin
  have hf : ∃ vs, p.2.data = .fields vs := by obtain ⟨_, vs, e, _⟩ := hot; exact ⟨vs, e⟩
  have hi : CallR (cxKind P w K mg base f cd A outer s H p) (.builtin "isinstance") (rIsK K D p.1) := call_isK (X := cxKind P w K mg base f cd A outer s H p) F.exc (List.mem_singleton.mpr rfl) hz hf
  refine ⟨_, pss_cons (ps_set (i := 1) nd rfl (by first | exact .inl rfl | exact .inr rfl) (pe_lst (pa_cons (pe_callB hi rfl Z.isinstance_ boot_isi (pa_cons (pv 0) (pa_cons (pe_glob (v := .ref (c 0)) rfl F.m0 rfl) pa_nil)))
    (pa_cons (pe_callB hi rfl Z.isinstance_ boot_isi (pa_cons (pv 0) (pa_cons (pe_glob (v := .ref (c 1)) rfl F.m1 rfl) pa_nil)))
    (pa_cons (pe_callB hi rfl Z.isinstance_ boot_isi (pa_cons (pv 0) (pa_cons (pe_glob (v := .ref (c 2)) rfl F.m2 rfl) pa_nil)))
    (pa_cons (pe_callB hi rfl Z.isinstance_ boot_isi (pa_cons (pv 0) (pa_cons (pe_glob (v := .ref (c 3)) rfl F.m3 rfl) pa_nil))) pa_nil))))))
    (pss_cons (ps_set (i := 1) nd rfl (by first | exact .inl rfl | exact .inr rfl) (pe_op op_cat (pv 1) (pe_lst (pa_cons (pe_callB hi rfl Z.isinstance_ boot_isi (pa_cons (pv 0) (pa_cons (pe_glob (v := .ref (c 4)) rfl F.m4 rfl) pa_nil)))
    (pa_cons (pe_callB hi rfl Z.isinstance_ boot_isi (pa_cons (pv 0) (pa_cons (pe_glob (v := .ref (c 5)) rfl F.m5 rfl) pa_nil)))
    (pa_cons (pe_callB hi rfl Z.isinstance_ boot_isi (pa_cons (pv 0) (pa_cons (pe_glob (v := .ref (c 6)) rfl F.m6 rfl) pa_nil)))
    (pa_cons (pe_callB hi rfl Z.isinstance_ boot_isi (pa_cons (pv 0) (pa_cons (pe_glob (v := .ref (c 7)) rfl F.m7 rfl) pa_nil))) pa_nil)))))))
    (pss_cons (ps_set (i := 1) nd rfl (by first | exact .inl rfl | exact .inr rfl) (pe_op op_cat (pv 1) (pe_lst (pa_cons (pe_callB hi rfl Z.isinstance_ boot_isi (pa_cons (pv 0) (pa_cons (pe_glob (v := .ref (c 8)) rfl F.m8 rfl) pa_nil)))
    (pa_cons (pe_callB hi rfl Z.isinstance_ boot_isi (pa_cons (pv 0) (pa_cons (pe_glob (v := .ref (c 9)) rfl F.m9 rfl) pa_nil)))
    (pa_cons (pe_callB hi rfl Z.isinstance_ boot_isi (pa_cons (pv 0) (pa_cons (pe_glob (v := .ref (c 10)) rfl F.m10 rfl) pa_nil)))
    (pa_cons (pe_callB hi rfl Z.isinstance_ boot_isi (pa_cons (pv 0) (pa_cons (pe_glob (v := .ref (c 11)) rfl F.m11 rfl) pa_nil))) pa_nil)))))))
    (pss_cons (ps_set (i := 2) nd rfl (by first | exact .inl rfl | exact .inr rfl) (pe_lst (pa_cons pe_str (pa_cons pe_str (pa_cons pe_str (pa_cons pe_str (pa_cons pe_str (pa_cons pe_str (pa_cons pe_str (pa_cons pe_str (pa_cons pe_str pa_nil)))))))))))
    (pss_cons (ps_set (i := 2) nd rfl (by first | exact .inl rfl | exact .inr rfl) (pe_op op_cat (pv 2) (pe_lst (pa_cons pe_str (pa_cons pe_str (pa_cons pe_str pa_nil))))))
    (pss_one (ps_ret (pe_bm PySem.F.plainAttrs_str PySem.F.slot_str_join PySem.F.type_str_join mt_join pe_str (pa_cons
      (pe_lcH (own := [("word", 3), ("good", 4)]) (g := L2.gTup K 2 (gCons (gName 3) (gCons (gName 4) gNil))) (tt := tB (tVar 4)) hc nd (pi_zipH hc rfl Z.zip_ (pa_cons (pv 2) (pa_cons (pv 1) pa_nil))) (blkOk_by (by rfl))
        (fun _ _ _ _ _ hb => pg_tupH hb (pgs_cons (pg_name (i := 3) nd rfl (by first | exact .inl rfl | exact .inr rfl)) (pgs_cons (pg_name (i := 4) nd rfl (by first | exact .inl rfl | exact .inr rfl)) pgs_nil)))
        (fun _ _ _ _ _ _ => pts_one (pt_val (pv 4))) (fun _ _ _ _ _ _ => pv 3)) pa_nil)))))))), ?_⟩
  refine rd_seq (rd_is4 F 0 1 2 3 (by decide) (by decide) (by decide) (by decide) rfl fun p1 n1 => ?_)
  refine rd_seq (rd_cat4 F 4 5 6 7 (by decide) (by decide) (by decide) (by decide) rfl rfl upd_same (by show 8 ≤ sizeLine; decide) fun p3 H3 k3 e3 => ?_)
  refine rd_seq (rd_cat4 F 8 9 10 11 (by decide) (by decide) (by decide) (by decide) rfl rfl e3 (by show 12 ≤ sizeLine; decide) fun p5 H5 k5 e5 => ?_)
  refine rd_seq (i := 2) ⟨by show 9 ≤ sizeLine; decide, fun p6 n6 => ?_⟩
  refine rd_seq (rd_cat3 rfl upd_same (by show 12 ≤ sizeLine; decide) fun p8 H8 k8 e8 => ?_)
  refine ⟨rfl, rd_kindlc F.k12 e8 (k8 _ _ (upd_keep n6 e5)) fun D' H' nD eD kp => ?_⟩
  refine ⟨"", D', [kNames.getD k ""], rfl, rfl, .inl (.inl (.of eD)), ?_, ?_⟩
  · have := F.k12
    have : k = 0 ∨ k = 1 ∨ k = 2 ∨ k = 3 ∨ k = 4 ∨ k = 5 ∨ k = 6 ∨ k = 7 ∨ k = 8 ∨ k = 9 ∨ k = 10 ∨ k = 11 := by omega
    rcases this with h | h | h | h | h | h | h | h | h | h | h | h <;> subst h <;> decide
  · have e : Txt.join "" [kNames.getD k ""] = kNames.getD k "" := by
      have := F.k12
      have : k = 0 ∨ k = 1 ∨ k = 2 ∨ k = 3 ∨ k = 4 ∨ k = 5 ∨ k = 6 ∨ k = 7 ∨ k = 8 ∨ k = 9 ∨ k = 10 ∨ k = 11 := by omega
      rcases this with h | h | h | h | h | h | h | h | h | h | h | h <;> subst h <;> rfl
    rw [e]
    exact q H' fun b o h => kp _ _ (k8 _ _ (upd_keep n6 (k5 _ _ (k3 _ _ (upd_keep n1 h)))))
theorem run_kind {fd : FuncData} {j : Nat} (F : KCls K mg c D k) (Z : Blt2 mg) (Fk : Fun K "_law_kind" "_law_kind" s__law_kind f fd) (hr : RoomH j A) (e0 : Env0 P w K mg base A outer s H) (hot : Hot1 A p) (pin : PinOk outer H s p) (hz : Zc (.ref D) none p.2) {Q : VK} {E : XK}
    (q : ∀ H', (∀ b o, H b = some o → H' b = some o) → Q (.str (kNames.getD k "")) H') : codeAny (model P w) A (.call (.ref f) ⟨[.ref p.1], []⟩) (CR CX0 outer P w H s Q E) s := by
  have hb : Binds K fd ["e"] [] := Fk.binds fun _ _ _ _ _ _ us hl => match us, hl with | [_], _ => rfl
  have KX : K.In s.heap := e0.mod.kin.keeps fun b o e => (e0.bs b o e).1
  have bind := hb s [.ref p.1] KX rfl
  obtain ⟨oc, od, kV, doc, pm, an, cdv, ct, osl, rfl, lk, hcd⟩ := Fk.ex
  refine codeAny_call_function hr.depth (KX _ _ lk) rfl sc__law_kind.co sc__law_kind.gen rfl (PySem.W.codeRec_of KX hcd) (bind _ _ _ _ ?_)
  refine wpAny_newFunctionEnv_cells sc__law_kind.kind (fun y hy => ?_) fun env he s1 x => ?_
  · have ey : y.1 = "e" := by simpa using (List.of_mem_zip (show (y.1, y.2) ∈ (["e"] : List Str).zip [Value.ref p.1] from hy)).1
    rw [ey]
    exact .inl (show (defScope s__law_kind).names.lookup ("e" : Str) = some NameKind.local by decide +kernel)
  · subst he
    refine ⟨(e0.mod.nolimit.keeps fun b o e => (e0.bs b o e).1).keeps x.toInCall.keep, codeAny_func ?_⟩
    obtain ⟨t, ht, hq⟩ := kind_body (P := P) (w := w) (base := base) (f := f) (cd := cdv) (A := A) (outer := outer) (s := s) (H := H) (p := p) F Z hot pin hz q
    have I : Inv (cxKind P w K mg base f cdv A outer s H p) [] (L2.start ["e", "some", "words", "word", "good"] [V.ref p.1]) H s1 := inv_startH sc__law_kind pin e0 rfl (.cons rfl .nil) x
    refine wpAny_mono (ht.run [] s1 _ H _ I hq) (fun fl s' hs => ?_) fun e s' hs => wpAny_mono hs (fun _ _ z => z) fun _ _ z => z
    cases fl with
    | ret u =>
      obtain ⟨v, σ', H', J, rv, q'⟩ := hs
      exact ⟨v, H', J.os, J.bare, J.base, J.hok, rv, q'⟩
    | next =>
      obtain ⟨σ', H', J, q'⟩ := hs
      exact ⟨V.non, H', J.os, J.bare, J.base, J.hok, rfl, q'⟩
    | brk => obtain ⟨_, _, _, z⟩ := hs; exact False.elim z
    | cont => obtain ⟨_, _, _, z⟩ := hs; exact False.elim z
end
theorem pe_kind {X : Cx} {f : Addr} {fd : FuncData} {j i : Nat} {a : Addr} {oe : Obj} {cls : Value} {d : Option Addr} {pn : List (Addr × Obj)} {p1 p2 pos : Pos} (Fk : Fun X.K "_law_kind" "_law_kind" s__law_kind f fd) (hm : X.mg "_law_kind" = some (.ref f)) (Z : Blt2 X.mg) (hr : RoomH j X.A)
    (hz : L2N.Zn cls d oe) (hf : ∃ vs, oe.data = .fields vs) (hg : Gl X "_law_kind") (hv : PE (X.suite a ((a, oe) :: pn)) (.Name "e" p2) (tVar i)) :
    PE (X.suite a ((a, oe) :: pn)) (.Call (.Name "_law_kind" p1) [.Name "e" p2] [] pos) (tKind X.K X.mg i a cls d) := by
  refine ⟨fun pins s σ H Q I h => ?_⟩
  obtain ⟨hσ, c, D, k, rfl, rfl, F, q⟩ := h
  have hg' : Gl (X.suite a ((a, oe) :: pn)) "_law_kind" := hg
  refine wpAny_Call_Name_kw (ld_glob I hg' hm ?_ (by decide))
  refine PySem.W.callWith_K (h₀ := X.base) I.ok.mod.kin Fk.kp (thn ((pa_cons hv pa_nil).run pos pins s σ H (fun xs H1 => xs = [.ref a] ∧ H1 = H) I ⟨_, hσ, rfl, rfl⟩) fun us s1 hh => ?_) (by rfl) (by rfl)
  obtain ⟨xs, H1, I1, r1, ex, eH⟩ := hh
  subst ex
  rw [eH] at I1
  refine ⟨I1.kIn, ?_⟩
  cases r1 with
  | cons r rr =>
    cases rr
    cases r
    obtain ⟨vs, hd⟩ := hf
    have P1 := I1.pin (a, oe) (List.mem_append_left _ (List.mem_cons_self ..))
    have pin : PinOk X.stack H s1 (a, oe) := ⟨P1.1, P1.2.1, fun hm => (List.mem_cons.mp (I1.stkSub a hm)).elim P1.2.2.1 P1.2.2.2.1, P1.2.2.2.2⟩
    have hot : Hot1 (X.suite a ((a, oe) :: pn)).A (a, oe) := ⟨rfl, vs, hd, hz.2.2 vs hd⟩
    refine wpAny_call (codeAny_mono (run_kind (P := X.prog) (w := X.w) (base := X.base) (A := (X.suite a ((a, oe) :: pn)).A) (E := fun _ _ _ => False) F Z Fk (j := j) ⟨hr.dp, hr.un⟩ I1.env0 hot pin hz.zc q) fun r s' hq => ?_)
    cases r with
    | error e => exact False.elim hq
    | ok fl =>
      cases fl with
      | ret u => exact I1.after hq
      | next => exact False.elim hq
      | brk => exact False.elim hq
      | cont => exact False.elim hq
end Dn
set_option maxHeartbeats 4000000
namespace Dn
open PySem PySem.Spec PyProof.Rows L2 HotX L2H LamX
open Evl (Ex fresh_back)
abbrev s__law_tried : Stmt := topS 146
theorem sc__law_tried : FnScope ["deed", "found", "e"] ["deed"] (defScope s__law_tried) := ⟨rfl, rfl, rfl, by decide +kernel, rfl, by decide +kernel, by decide +kernel⟩
section
variable {P : Program} {w : World} {K : PySem.W.Frag} {mg : Str → Option Value} {base : Heap}
theorem fn_tried {f fk cH : Addr} {fd fdk : FuncData} {j : Nat} (F : Fun K "_law_tried" "_law_tried" s__law_tried f fd) (Fk : Fun K "_law_kind" "_law_kind" s__law_kind fk fdk) (hmk : mg "_law_kind" = some (.ref fk)) (hmH : mg "HallError" = some (.ref cH)) (Z : Blt2 mg) :
    FnOk P w K mg base CX0 (j + 2) f fd ["deed"] (spTried P w K mg base j cH) := by
  refine F.ok sc__law_tried (fun vs H Q E ⟨u, e, _⟩ => by rw [e]; rfl) fun cdv A outer s H vs Q E hr hsp => ?_
  obtain ⟨u, rfl, hsp⟩ := hsp
  have nd := sc__law_tried.nd
  refine ⟨_, pss_cons (ps_set (i := 1) nd rfl (by first | exact .inl rfl | exact .inr rfl) (pe_tup (pa_cons pe_str pa_nil)))
    (pss_cons (L2N.ps_try_as (i := 2) rfl rfl nd rfl rfl ⟨rfl, by decide, .inl hmH⟩ (Wout := fun _ _ _ _ => False) (fun _ _ ⟨_, _, _, _, _, _, _, _, _, _, _, _, _, _, _, _, z⟩ => z)
      (fun W pn xe tk hp => pss_one (ps_set (i := 1) nd rfl (by first | exact .inl rfl | exact .inr rfl) (pe_tup (pa_cons pe_str (pa_cons (pe_deed' (P := P) (w := w) (K := K) (mg := mg) (base := base) (i := 0) (j := j) tk hr rfl (.inl rfl) rfl rfl rfl rfl rfl) pa_nil)))))
      (fun a oe cls d pn hz hf => pss_one (ps_set (i := 1) nd rfl (by first | exact .inl rfl | exact .inr rfl) (pe_tup (pa_cons (pe_kind (i := 2) Fk hmk Z (j := j + 1) ⟨hr.dp, hr.un⟩ hz hf rfl (pv 2)) pa_nil)))))
    (pss_one (ps_ret (pv 1)))), rd_tried ⟨u, rfl, hsp⟩⟩
end
end Dn
set_option maxHeartbeats 4000000
namespace Dn
open PySem PySem.Spec PyProof.Rows L2 HotX L2H LamX
open Evl (Ex fresh_back)
abbrev s__law_refused : Stmt := topS 147
theorem sc__law_refused : FnScope ["doors", "word", "door"] ["doors", "word"] (defScope s__law_refused) := ⟨rfl, rfl, rfl, by decide +kernel, rfl, by decide +kernel, by decide +kernel⟩
section
variable {P : Program} {w : World} {K : PySem.W.Frag} {mg : Str → Option Value} {base : Heap}
theorem fn_refused {f ft cH : Addr} {fd fdt : FuncData} {j : Nat} (F : Fun K "_law_refused" "_law_refused" s__law_refused f fd) (Ft : Fun K "_law_tried" "_law_tried" s__law_tried ft fdt) (hmt : mg "_law_tried" = some (.ref ft)) (T : FnOk P w K mg base CX0 (j + 2) ft fdt ["deed"] (spTried P w K mg base j cH)) :
    FnOk P w K mg base CX0 (j + 3) f fd ["doors", "word"] (spRefused P w K mg base j cH) := by
  have hb : Binds K fdt ["deed"] [] := Ft.binds fun _ _ _ _ _ _ us hl => match us, hl with | [_], _ => rfl
  refine F.ok sc__law_refused (fun vs H Q E ⟨p, us, D, k, c, e, _⟩ => by rw [e]; rfl) fun cdv A outer s H vs Q E hr hsp => ?_
  have nd := sc__law_refused.nd
  have hu : (A.deeper (envOfC "_law_refused" (defScope s__law_refused) s.heap.objs.size f cdv)).units + 64 < cLine := by have := hr.un; omega
  refine ⟨_, pss_one (ps_ret (pe_cmpR (op_eqD hu) (pe_lc (own := [("door", 2)]) (g := gName 2) rfl nd (pi_list (pv 0)) (blkOk_by (by rfl)) (fun _ _ _ _ _ => pg_name (i := 2) nd rfl (by first | exact .inl rfl | exact .inr rfl))
      (fun _ _ _ _ _ => pts_one (pt_cmpR (op_neDK rfl hu) (pe_call T hr rfl hmt Ft.kp hb .nil pass0 (pa_cons (pv 2) pa_nil)) (pe_tup (pa_cons (pv 1) pa_nil)) rfl)) (fun _ _ _ _ _ => pe_int)) (pe_lst pa_nil) rfl)), ?_⟩
  obtain ⟨p, us, D, k, c, rfl, hp, F, hx, hall, hQ⟩ := hsp
  refine ⟨_, rfl, p, rfl, ⟨us, .inl (.inl hp)⟩, fun B hB => ?_⟩
  refine ⟨fun i m H' => m = us.length - i ∧ i ≤ us.length ∧ Ex H H' ∧ H' B = some (.lst []), ⟨_, rfl, Nat.zero_le _, Ex.new hB, upd_same⟩, fun i m H' ⟨em, hi, eH, eB⟩ => ?_⟩
  have sq : ∀ {H'' : Hp}, Ex H H'' → SqL K H'' p us := fun e => .inl (.inl (e _ _ hp))
  by_cases hlt : i < us.length
  · refine .inr ⟨⟨us, us[i], sq eH, List.getElem?_eq_getElem hlt⟩, fun H'' => Ex H H'' ∧ H'' B = some (.lst []), fun H'' ⟨e1, e2⟩ => ⟨us.length - (i + 1), by omega, rfl, by omega, e1, e2⟩, ?_⟩
    rintro x H'' ⟨rfl, hx2⟩
    have ex : x = us[i] := by
      have := hx2 us (sq eH)
      rw [List.getElem?_eq_getElem hlt] at this
      exact (Option.some.inj this).symm
    subst ex
    refine ⟨rfl, rd_ne1 rfl ?_⟩
    refine Refuses.tried ((hall _ (List.getElem_mem hlt)).mono eH) F hx fun T1 H1 e1 t1 => ?_
    refine ⟨_, rfl, by show 1 ≤ sizeLine; decide, fun T2 n2 => ?_⟩
    have t1' : upd H1 T2 (.tup [.str (kNames.getD k "")]) T1 = some (.tup [.str (kNames.getD k "")]) := upd_keep n2 t1
    refine ⟨.tuple [.str (kNames.getD k "")], .tuple [.str (kNames.getD k "")], .tup (.inl (.of t1')) (.cons (.str _) .nil), .tup (.inl (.of upd_same)) (.cons (.str _) .nil), shaped_1 F.k12, shaped_1 F.k12, ?_⟩
    refine ⟨_, rfl, ?_⟩
    rw [eqv_self1]
    exact ⟨fun b o e => upd_keep n2 (e1 _ _ (eH _ _ e)), upd_keep n2 (e1 _ _ eB)⟩
  · have e0 : i = us.length := by omega
    refine .inl ⟨⟨us, sq eH, by omega⟩, ?_⟩
    refine ⟨by show 0 ≤ sizeLine; decide, fun B2 n2 => ⟨.list [], .list [], .lst (.inl (.of (upd_keep n2 eB))) .nil, .lst (.inl (.of upd_same)) .nil, rfl, rfl, ?_⟩⟩
    exact hQ _ fun b o e => upd_keep n2 (eH _ _ e)
end
end Dn
set_option maxHeartbeats 8000000
namespace Dn
open PySem PySem.Spec PyProof.Rows L2 HotX L2H LamX
open Evl (Ex fresh_back)
theorem LamV.refuses {P : Program} {w : World} {K : PySem.W.Frag} {mg : Str → Option Value} {base : Heap} {C CK fI cx : Addr} {fdI : FuncData} {q : Str} {G G' H' : Hp} {v u : V} {d : D} (S : Doors P w K mg base C CK fI fdI) (rp : Rp G v d) (hb : noHall d) (h : LamV DDoor G' q [("x", cx)] u) (kc : G' cx = some (CellO cx v)) (eG : Ex G G') (eH : Ex G' H') (n : G cx = none) :
    Refuses P w K mg base 8 C u H' := by
  obtain ⟨f, params, body, scope, c', rfl, dd, hf, hc⟩ := h
  obtain ⟨h1, h2, h3⟩ := does_all (q := q) S rp hb dd
  exact ⟨f, q, "x", params, body, scope, cx, c', v, G, rfl, eH _ _ hf, eH _ _ kc, eH _ _ hc, h1, h2, eG.trans eH, n, h3⟩
theorem dentJ_doors {X : Cx} {T C cH CK fI fr fo : Addr} {frd fod fdI : FuncData} {c : Nat → Addr} {ix j : Nat} {q0 : Str} {p1 p2 p3 p4 p5 p6 : Pos}
    (Do : FnOk X.prog X.w X.K X.mg X.base CX0 1 fo fod ["x"] (spDoors DDoor T q0 "x" 26)) (bo : Binds X.K fod ["x"] []) (mo : X.mg "_law_doors" = some (.ref fo)) (ko : PySem.W.keepIn X.K (.ref fo) = true) (go : Gl X "_law_doors")
    (Re : FnOk X.prog X.w X.K X.mg X.base CX0 11 fr frd ["doors", "word"] (spRefused X.prog X.w X.K X.mg X.base 8 cH)) (br : Binds X.K frd ["doors", "word"] []) (mr : X.mg "_law_refused" = some (.ref fr)) (kr : PySem.W.keepIn X.K (.ref fr) = true) (gr : Gl X "_law_refused")
    (S : Doors X.prog X.w X.K X.mg X.base C CK fI fdI) (KC : KCls X.K X.mg c C 0) (hx1 : PySem.W.exmOne X.K (.ref C) (.ref cH) = some true) (hr : Room 12 X.A) (hx : PE X (.Name "x" p3) (tVar ix)) :
    DenTJ T q0 X (.Call (.Name "_law_refused" p1) [.Call (.Name "_law_doors" p2) [.Name "x" p3] [] p4, .Constant (.str "NoHall") j p5] [] p6) (mRefused ix) := by
  refine ⟨_, pt_val (pe_call Re (hr.mono (by decide)) gr mr kr br .nil pass0 (pa_cons (pe_call Do (hr.mono (by decide)) go mo ko bo .nil pass0 (pa_cons hx pa_nil)) (pa_cons pe_str pa_nil))), fun P b σ env G H d env' nT rr tb h Q q => ?_⟩
  unfold mRefused at h
  split at h
  · rename_i d0 he
    split at h
    · rename_i hF
      cases h
      obtain ⟨L, hL, hrep⟩ := rr.rep
      obtain ⟨v, hσ, rp⟩ := hrep ix _ he
      have rp : Rp G v d0 := rp
      refine ⟨v, hσ, G, v, rfl, rr.sub, tb, fun p cx G' H' pu sf kc hn => ?_⟩
      obtain ⟨exs, tbs, us, hp, hl, hv⟩ := sf
      refine ⟨p, us, C, 0, c, rfl, hp, KC, hx1, fun u hu => (hv u hu).refuses S rp hF kc pu.g pu.s (fresh_back rr.sub hn), fun H2 e2 => ⟨true, rfl, ?_⟩⟩
      have nHT : H T ≠ none := tb.ne
      have h2 : ∀ a o, H a = some o → a ≠ T → H2 a = some o := fun a o e n => e2 _ _ (pu.h a o e n)
      have fr : ∀ a, H2 a = none → P a := fun a ha => by
        refine rr.fresh a ?_
        cases z : H a with
        | none => rfl
        | some o =>
          exfalso
          by_cases haT : a = T
          · obtain ⟨_, ps, e, _⟩ := tbs
            rw [haT, e2 _ _ e] at ha
            cases ha
          · rw [h2 a o z haT] at ha
            cases ha
      refine q G' H2 ⟨pu.g, fun a o e n => h2 a o e fun z => n (.inr z), fun a n e => pu.n a (fun z => n (.inl (rr.fresh a z))) e⟩ (rr.keep pu.g (pu.s.trans e2) fr fun a ha hg hh => ⟨ha, pu.n a hh hg, fun o e => h2 a o e fun z => nT (by rw [← z]; exact ha)⟩) ?_
      obtain ⟨t0, ps, t1, t2, t3⟩ := tbs
      exact ⟨t0, ps, e2 _ _ t1, t2, t3⟩
    · cases h
  · cases h
end Dn
set_option maxHeartbeats 0
namespace Dn
open PySem PySem.Spec PyProof.Rows L2 HotX L2H LamX
section
variable {P : Program} {w : World} {K : PySem.W.Frag} {mg : Str → Option Value} {base h : Heap}
theorem fu_is_tuple (c : He.SaysD faD fnD K) : ∃ fd, Fun K "is_tuple" "is_tuple" s_is_tuple (He.ga K "is_tuple") fd ∧ Binds K fd ["thing", "least", "most"] [] := by
  obtain ⟨fd, F⟩ := c.def_ 0 (d := d_is_tuple) rfl
  obtain ⟨oc, od, dV, kV, doc, pm, an, cdv, ct, osl, e1, e2, e3, e4, e5⟩ := F.ex
  rcases e4 with ⟨_, e4⟩ | ⟨e4, _⟩
  · subst e4
    exact ⟨fd, ⟨⟨oc, od, kV, doc, pm, an, cdv, ct, osl, e1, e2, e3⟩, F.kp⟩, F.bindsN fun _ _ _ _ _ _ us hl => match us, hl with | [_, _, _], _ => rfl⟩
  · exact absurd rfl e4
theorem df_is_tuple (X : K.In h) (G : h.Ns mainGlobals mg) (c : He.SaysD faD fnD K) : Df K mg "is_tuple" s_is_tuple ["thing", "least", "most"] := by
  obtain ⟨fd, F, b⟩ := fu_is_tuple c
  exact ⟨_, fd, He.glo_ok X G (c.fact 0 (f := .glo "is_tuple") rfl), F, b⟩
theorem fu_is_whole (c : He.SaysD faD fnD K) : ∃ fd, Fun K "is_whole" "is_whole" s_is_whole (He.ga K "is_whole") fd ∧ Binds K fd ["thing"] [] := by
  obtain ⟨fd, F⟩ := c.def_ 1 (d := d_is_whole) rfl
  obtain ⟨oc, od, dV, kV, doc, pm, an, cdv, ct, osl, e1, e2, e3, e4, e5⟩ := F.ex
  rcases e4 with ⟨_, e4⟩ | ⟨e4, _⟩
  · subst e4
    exact ⟨fd, ⟨⟨oc, od, kV, doc, pm, an, cdv, ct, osl, e1, e2, e3⟩, F.kp⟩, F.bindsN fun _ _ _ _ _ _ us hl => match us, hl with | [_], _ => rfl⟩
  · exact absurd rfl e4
theorem df_is_whole (X : K.In h) (G : h.Ns mainGlobals mg) (c : He.SaysD faD fnD K) : Df K mg "is_whole" s_is_whole ["thing"] := by
  obtain ⟨fd, F, b⟩ := fu_is_whole c
  exact ⟨_, fd, He.glo_ok X G (c.fact 1 (f := .glo "is_whole") rfl), F, b⟩
theorem fu__are_desks (c : He.SaysD faD fnD K) : ∃ fd, Fun K "_are_desks" "_are_desks" s__are_desks (He.ga K "_are_desks") fd ∧ Binds K fd ["thing", "ranks"] [] := by
  obtain ⟨fd, F⟩ := c.def_ 2 (d := d__are_desks) rfl
  obtain ⟨oc, od, dV, kV, doc, pm, an, cdv, ct, osl, e1, e2, e3, e4, e5⟩ := F.ex
  rcases e4 with ⟨_, e4⟩ | ⟨e4, _⟩
  · subst e4
    exact ⟨fd, ⟨⟨oc, od, kV, doc, pm, an, cdv, ct, osl, e1, e2, e3⟩, F.kp⟩, F.bindsN fun _ _ _ _ _ _ us hl => match us, hl with | [_, _], _ => rfl⟩
  · exact absurd rfl e4
theorem df__are_desks (X : K.In h) (G : h.Ns mainGlobals mg) (c : He.SaysD faD fnD K) : Df K mg "_are_desks" s__are_desks ["thing", "ranks"] := by
  obtain ⟨fd, F, b⟩ := fu__are_desks c
  exact ⟨_, fd, He.glo_ok X G (c.fact 2 (f := .glo "_are_desks") rfl), F, b⟩
theorem fu_are_whole (c : He.SaysD faD fnD K) : ∃ fd, Fun K "are_whole" "are_whole" s_are_whole (He.ga K "are_whole") fd ∧ Binds K fd ["things"] [] := by
  obtain ⟨fd, F⟩ := c.def_ 3 (d := d_are_whole) rfl
  obtain ⟨oc, od, dV, kV, doc, pm, an, cdv, ct, osl, e1, e2, e3, e4, e5⟩ := F.ex
  rcases e4 with ⟨_, e4⟩ | ⟨e4, _⟩
  · subst e4
    exact ⟨fd, ⟨⟨oc, od, kV, doc, pm, an, cdv, ct, osl, e1, e2, e3⟩, F.kp⟩, F.bindsN fun _ _ _ _ _ _ us hl => match us, hl with | [_], _ => rfl⟩
  · exact absurd rfl e4
theorem df_are_whole (X : K.In h) (G : h.Ns mainGlobals mg) (c : He.SaysD faD fnD K) : Df K mg "are_whole" s_are_whole ["things"] := by
  obtain ⟨fd, F, b⟩ := fu_are_whole c
  exact ⟨_, fd, He.glo_ok X G (c.fact 3 (f := .glo "are_whole") rfl), F, b⟩
theorem fu__are_ranks (c : He.SaysD faD fnD K) : ∃ fd, Fun K "_are_ranks" "_are_ranks" s__are_ranks (He.ga K "_are_ranks") fd ∧ Binds K fd ["thing"] [] := by
  obtain ⟨fd, F⟩ := c.def_ 4 (d := d__are_ranks) rfl
  obtain ⟨oc, od, dV, kV, doc, pm, an, cdv, ct, osl, e1, e2, e3, e4, e5⟩ := F.ex
  rcases e4 with ⟨_, e4⟩ | ⟨e4, _⟩
  · subst e4
    exact ⟨fd, ⟨⟨oc, od, kV, doc, pm, an, cdv, ct, osl, e1, e2, e3⟩, F.kp⟩, F.bindsN fun _ _ _ _ _ _ us hl => match us, hl with | [_], _ => rfl⟩
  · exact absurd rfl e4
theorem df__are_ranks (X : K.In h) (G : h.Ns mainGlobals mg) (c : He.SaysD faD fnD K) : Df K mg "_are_ranks" s__are_ranks ["thing"] := by
  obtain ⟨fd, F, b⟩ := fu__are_ranks c
  exact ⟨_, fd, He.glo_ok X G (c.fact 4 (f := .glo "_are_ranks") rfl), F, b⟩
theorem fu_is_hall (c : He.SaysD faD fnD K) : ∃ fd, Fun K "is_hall" "is_hall" s_is_hall (He.ga K "is_hall") fd ∧ Binds K fd ["thing"] [] := by
  obtain ⟨fd, F⟩ := c.def_ 5 (d := d_is_hall) rfl
  obtain ⟨oc, od, dV, kV, doc, pm, an, cdv, ct, osl, e1, e2, e3, e4, e5⟩ := F.ex
  rcases e4 with ⟨_, e4⟩ | ⟨e4, _⟩
  · subst e4
    exact ⟨fd, ⟨⟨oc, od, kV, doc, pm, an, cdv, ct, osl, e1, e2, e3⟩, F.kp⟩, F.bindsN fun _ _ _ _ _ _ us hl => match us, hl with | [_], _ => rfl⟩
  · exact absurd rfl e4
theorem df_is_hall (X : K.In h) (G : h.Ns mainGlobals mg) (c : He.SaysD faD fnD K) : Df K mg "is_hall" s_is_hall ["thing"] := by
  obtain ⟨fd, F, b⟩ := fu_is_hall c
  exact ⟨_, fd, He.glo_ok X G (c.fact 5 (f := .glo "is_hall") rfl), F, b⟩
theorem fu__law_well (c : He.SaysD faD fnD K) : ∃ fd, Fun K "_law_well" "_law_well" s__law_well (He.ga K "_law_well") fd ∧ Binds K fd ["cell", "turn"] [] := by
  obtain ⟨fd, F⟩ := c.def_ 6 (d := d__law_well) rfl
  obtain ⟨oc, od, dV, kV, doc, pm, an, cdv, ct, osl, e1, e2, e3, e4, e5⟩ := F.ex
  rcases e4 with ⟨_, e4⟩ | ⟨e4, _⟩
  · subst e4
    exact ⟨fd, ⟨⟨oc, od, kV, doc, pm, an, cdv, ct, osl, e1, e2, e3⟩, F.kp⟩, F.bindsN fun _ _ _ _ _ _ us hl => match us, hl with | [_, _], _ => rfl⟩
  · exact absurd rfl e4
theorem df__law_well (X : K.In h) (G : h.Ns mainGlobals mg) (c : He.SaysD faD fnD K) : Df K mg "_law_well" s__law_well ["cell", "turn"] := by
  obtain ⟨fd, F, b⟩ := fu__law_well c
  exact ⟨_, fd, He.glo_ok X G (c.fact 6 (f := .glo "_law_well") rfl), F, b⟩
theorem fu__law_bags (c : He.SaysD faD fnD K) : ∃ fd, Fun K "_law_bags" "_law_bags" s__law_bags (He.ga K "_law_bags") fd ∧ Binds K fd ["script", "most"] [] := by
  obtain ⟨fd, F⟩ := c.def_ 7 (d := d__law_bags) rfl
  obtain ⟨oc, od, dV, kV, doc, pm, an, cdv, ct, osl, e1, e2, e3, e4, e5⟩ := F.ex
  rcases e4 with ⟨_, e4⟩ | ⟨e4, _⟩
  · subst e4
    exact ⟨fd, ⟨⟨oc, od, kV, doc, pm, an, cdv, ct, osl, e1, e2, e3⟩, F.kp⟩, F.bindsN fun _ _ _ _ _ _ us hl => match us, hl with | [_, _], _ => rfl⟩
  · exact absurd rfl e4
theorem df__law_bags (X : K.In h) (G : h.Ns mainGlobals mg) (c : He.SaysD faD fnD K) : Df K mg "_law_bags" s__law_bags ["script", "most"] := by
  obtain ⟨fd, F, b⟩ := fu__law_bags c
  exact ⟨_, fd, He.glo_ok X G (c.fact 7 (f := .glo "_law_bags") rfl), F, b⟩
theorem fu__law_same (c : He.SaysD faD fnD K) : ∃ fd, Fun K "_law_same" "_law_same" s__law_same (He.ga K "_law_same") fd ∧ Binds K fd ["a", "b"] [] := by
  obtain ⟨fd, F⟩ := c.def_ 8 (d := d__law_same) rfl
  obtain ⟨oc, od, dV, kV, doc, pm, an, cdv, ct, osl, e1, e2, e3, e4, e5⟩ := F.ex
  rcases e4 with ⟨_, e4⟩ | ⟨e4, _⟩
  · subst e4
    exact ⟨fd, ⟨⟨oc, od, kV, doc, pm, an, cdv, ct, osl, e1, e2, e3⟩, F.kp⟩, F.bindsN fun _ _ _ _ _ _ us hl => match us, hl with | [_, _], _ => rfl⟩
  · exact absurd rfl e4
theorem df__law_same (X : K.In h) (G : h.Ns mainGlobals mg) (c : He.SaysD faD fnD K) : Df K mg "_law_same" s__law_same ["a", "b"] := by
  obtain ⟨fd, F, b⟩ := fu__law_same c
  exact ⟨_, fd, He.glo_ok X G (c.fact 8 (f := .glo "_law_same") rfl), F, b⟩
theorem fu__law_take (c : He.SaysD faD fnD K) : ∃ fd, Fun K "_law_take" "_law_take" s__law_take (He.ga K "_law_take") fd ∧ Binds K fd ["bag", "many"] [] := by
  obtain ⟨fd, F⟩ := c.def_ 9 (d := d__law_take) rfl
  obtain ⟨oc, od, dV, kV, doc, pm, an, cdv, ct, osl, e1, e2, e3, e4, e5⟩ := F.ex
  rcases e4 with ⟨_, e4⟩ | ⟨e4, _⟩
  · subst e4
    exact ⟨fd, ⟨⟨oc, od, kV, doc, pm, an, cdv, ct, osl, e1, e2, e3⟩, F.kp⟩, F.bindsN fun _ _ _ _ _ _ us hl => match us, hl with | [_, _], _ => rfl⟩
  · exact absurd rfl e4
theorem df__law_take (X : K.In h) (G : h.Ns mainGlobals mg) (c : He.SaysD faD fnD K) : Df K mg "_law_take" s__law_take ["bag", "many"] := by
  obtain ⟨fd, F, b⟩ := fu__law_take c
  exact ⟨_, fd, He.glo_ok X G (c.fact 9 (f := .glo "_law_take") rfl), F, b⟩
theorem fu__law_some (c : He.SaysD faD fnD K) : ∃ fd, Fun K "_law_some" "_law_some" s__law_some (He.ga K "_law_some") fd ∧ Binds K fd ["bag", "ranks1"] [] := by
  obtain ⟨fd, F⟩ := c.def_ 10 (d := d__law_some) rfl
  obtain ⟨oc, od, dV, kV, doc, pm, an, cdv, ct, osl, e1, e2, e3, e4, e5⟩ := F.ex
  rcases e4 with ⟨_, e4⟩ | ⟨e4, _⟩
  · subst e4
    exact ⟨fd, ⟨⟨oc, od, kV, doc, pm, an, cdv, ct, osl, e1, e2, e3⟩, F.kp⟩, F.bindsN fun _ _ _ _ _ _ us hl => match us, hl with | [_, _], _ => rfl⟩
  · exact absurd rfl e4
theorem df__law_some (X : K.In h) (G : h.Ns mainGlobals mg) (c : He.SaysD faD fnD K) : Df K mg "_law_some" s__law_some ["bag", "ranks1"] := by
  obtain ⟨fd, F, b⟩ := fu__law_some c
  exact ⟨_, fd, He.glo_ok X G (c.fact 10 (f := .glo "_law_some") rfl), F, b⟩
theorem fu__law_hall (c : He.SaysD faD fnD K) : ∃ fd, Fun K "_law_hall" "_law_hall" s__law_hall (He.ga K "_law_hall") fd ∧ Binds K fd ["bag", "ranks1", "desks1", "most", "stay1", "alike"] [] := by
  obtain ⟨fd, F⟩ := c.def_ 11 (d := d__law_hall) rfl
  obtain ⟨oc, od, dV, kV, doc, pm, an, cdv, ct, osl, e1, e2, e3, e4, e5⟩ := F.ex
  rcases e4 with ⟨_, e4⟩ | ⟨e4, _⟩
  · subst e4
    exact ⟨fd, ⟨⟨oc, od, kV, doc, pm, an, cdv, ct, osl, e1, e2, e3⟩, F.kp⟩, F.bindsN fun _ _ _ _ _ _ us hl => match us, hl with | [_, _, _, _, _, _], _ => rfl⟩
  · exact absurd rfl e4
theorem df__law_hall (X : K.In h) (G : h.Ns mainGlobals mg) (c : He.SaysD faD fnD K) : Df K mg "_law_hall" s__law_hall ["bag", "ranks1", "desks1", "most", "stay1", "alike"] := by
  obtain ⟨fd, F, b⟩ := fu__law_hall c
  exact ⟨_, fd, He.glo_ok X G (c.fact 11 (f := .glo "_law_hall") rfl), F, b⟩
theorem fu__law_in (c : He.SaysD faD fnD K) : ∃ fd, Fun K "_law_in" "_law_in" s__law_in (He.ga K "_law_in") fd ∧ Binds K fd ["x", "low", "high"] [] := by
  obtain ⟨fd, F⟩ := c.def_ 12 (d := d__law_in) rfl
  obtain ⟨oc, od, dV, kV, doc, pm, an, cdv, ct, osl, e1, e2, e3, e4, e5⟩ := F.ex
  rcases e4 with ⟨_, e4⟩ | ⟨e4, _⟩
  · subst e4
    exact ⟨fd, ⟨⟨oc, od, kV, doc, pm, an, cdv, ct, osl, e1, e2, e3⟩, F.kp⟩, F.bindsN fun _ _ _ _ _ _ us hl => match us, hl with | [_, _, _], _ => rfl⟩
  · exact absurd rfl e4
theorem df__law_in (X : K.In h) (G : h.Ns mainGlobals mg) (c : He.SaysD faD fnD K) : Df K mg "_law_in" s__law_in ["x", "low", "high"] := by
  obtain ⟨fd, F, b⟩ := fu__law_in c
  exact ⟨_, fd, He.glo_ok X G (c.fact 12 (f := .glo "_law_in") rfl), F, b⟩
theorem fu__law_good (c : He.SaysD faD fnD K) : ∃ fd, Fun K "_law_good" "_law_good" s__law_good (He.ga K "_law_good") fd ∧ Binds K fd ["x"] [] := by
  obtain ⟨fd, F⟩ := c.def_ 13 (d := d__law_good) rfl
  obtain ⟨oc, od, dV, kV, doc, pm, an, cdv, ct, osl, e1, e2, e3, e4, e5⟩ := F.ex
  rcases e4 with ⟨_, e4⟩ | ⟨e4, _⟩
  · subst e4
    exact ⟨fd, ⟨⟨oc, od, kV, doc, pm, an, cdv, ct, osl, e1, e2, e3⟩, F.kp⟩, F.bindsN fun _ _ _ _ _ _ us hl => match us, hl with | [_], _ => rfl⟩
  · exact absurd rfl e4
theorem df__law_good (X : K.In h) (G : h.Ns mainGlobals mg) (c : He.SaysD faD fnD K) : Df K mg "_law_good" s__law_good ["x"] := by
  obtain ⟨fd, F, b⟩ := fu__law_good c
  exact ⟨_, fd, He.glo_ok X G (c.fact 13 (f := .glo "_law_good") rfl), F, b⟩
theorem fu_need_hall (c : He.SaysD faD fnD K) : ∃ fd, Fun K "need_hall" "need_hall" s_need_hall (He.ga K "need_hall") fd ∧ Binds K fd ["thing"] [] := by
  obtain ⟨fd, F⟩ := c.def_ 14 (d := d_need_hall) rfl
  obtain ⟨oc, od, dV, kV, doc, pm, an, cdv, ct, osl, e1, e2, e3, e4, e5⟩ := F.ex
  rcases e4 with ⟨_, e4⟩ | ⟨e4, _⟩
  · subst e4
    exact ⟨fd, ⟨⟨oc, od, kV, doc, pm, an, cdv, ct, osl, e1, e2, e3⟩, F.kp⟩, F.bindsN fun _ _ _ _ _ _ us hl => match us, hl with | [_], _ => rfl⟩
  · exact absurd rfl e4
theorem df_need_hall (X : K.In h) (G : h.Ns mainGlobals mg) (c : He.SaysD faD fnD K) : Df K mg "need_hall" s_need_hall ["thing"] := by
  obtain ⟨fd, F, b⟩ := fu_need_hall c
  exact ⟨_, fd, He.glo_ok X G (c.fact 14 (f := .glo "need_hall") rfl), F, b⟩
theorem fu_need_written (c : He.SaysD faD fnD K) : ∃ fd, Fun K "need_written" "need_written" s_need_written (He.ga K "need_written") fd ∧ Binds K fd ["hall", "book", "looks"] [] := by
  obtain ⟨fd, F⟩ := c.def_ 15 (d := d_need_written) rfl
  obtain ⟨oc, od, dV, kV, doc, pm, an, cdv, ct, osl, e1, e2, e3, e4, e5⟩ := F.ex
  rcases e4 with ⟨_, e4⟩ | ⟨e4, _⟩
  · subst e4
    exact ⟨fd, ⟨⟨oc, od, kV, doc, pm, an, cdv, ct, osl, e1, e2, e3⟩, F.kp⟩, F.bindsN fun _ _ _ _ _ _ us hl => match us, hl with | [_, _, _], _ => rfl⟩
  · exact absurd rfl e4
theorem df_need_written (X : K.In h) (G : h.Ns mainGlobals mg) (c : He.SaysD faD fnD K) : Df K mg "need_written" s_need_written ["hall", "book", "looks"] := by
  obtain ⟨fd, F, b⟩ := fu_need_written c
  exact ⟨_, fd, He.glo_ok X G (c.fact 15 (f := .glo "need_written") rfl), F, b⟩
theorem fu_all_turns (c : He.SaysD faD fnD K) : ∃ fd, Fun K "all_turns" "all_turns" s_all_turns (He.ga K "all_turns") fd ∧ Binds K fd ["hall", "columns"] [] := by
  obtain ⟨fd, F⟩ := c.def_ 16 (d := d_all_turns) rfl
  obtain ⟨oc, od, dV, kV, doc, pm, an, cdv, ct, osl, e1, e2, e3, e4, e5⟩ := F.ex
  rcases e4 with ⟨_, e4⟩ | ⟨e4, _⟩
  · subst e4
    exact ⟨fd, ⟨⟨oc, od, kV, doc, pm, an, cdv, ct, osl, e1, e2, e3⟩, F.kp⟩, F.bindsN fun _ _ _ _ _ _ us hl => match us, hl with | [_, _], _ => rfl⟩
  · exact absurd rfl e4
theorem df_all_turns (X : K.In h) (G : h.Ns mainGlobals mg) (c : He.SaysD faD fnD K) : Df K mg "all_turns" s_all_turns ["hall", "columns"] := by
  obtain ⟨fd, F, b⟩ := fu_all_turns c
  exact ⟨_, fd, He.glo_ok X G (c.fact 16 (f := .glo "all_turns") rfl), F, b⟩
theorem fu_is_book (c : He.SaysD faD fnD K) : ∃ fd, Fun K "is_book" "is_book" sx_is_book (He.ga K "is_book") fd ∧ Binds K fd ["hall", "thing"] [] := by
  obtain ⟨fd, F⟩ := c.def_ 17 (d := d_is_book) rfl
  obtain ⟨oc, od, dV, kV, doc, pm, an, cdv, ct, osl, e1, e2, e3, e4, e5⟩ := F.ex
  rcases e4 with ⟨_, e4⟩ | ⟨e4, _⟩
  · subst e4
    exact ⟨fd, ⟨⟨oc, od, kV, doc, pm, an, cdv, ct, osl, e1, e2, e3⟩, F.kp⟩, F.bindsN fun _ _ _ _ _ _ us hl => match us, hl with | [_, _], _ => rfl⟩
  · exact absurd rfl e4
theorem df_is_book (X : K.In h) (G : h.Ns mainGlobals mg) (c : He.SaysD faD fnD K) : Df K mg "is_book" sx_is_book ["hall", "thing"] := by
  obtain ⟨fd, F, b⟩ := fu_is_book c
  exact ⟨_, fd, He.glo_ok X G (c.fact 17 (f := .glo "is_book") rfl), F, b⟩
theorem fu_are_looks (c : He.SaysD faD fnD K) : ∃ fd, Fun K "are_looks" "are_looks" sx_are_looks (He.ga K "are_looks") fd ∧ Binds K fd ["hall", "book", "thing"] [] := by
  obtain ⟨fd, F⟩ := c.def_ 18 (d := d_are_looks) rfl
  obtain ⟨oc, od, dV, kV, doc, pm, an, cdv, ct, osl, e1, e2, e3, e4, e5⟩ := F.ex
  rcases e4 with ⟨_, e4⟩ | ⟨e4, _⟩
  · subst e4
    exact ⟨fd, ⟨⟨oc, od, kV, doc, pm, an, cdv, ct, osl, e1, e2, e3⟩, F.kp⟩, F.bindsN fun _ _ _ _ _ _ us hl => match us, hl with | [_, _, _], _ => rfl⟩
  · exact absurd rfl e4
theorem df_are_looks (X : K.In h) (G : h.Ns mainGlobals mg) (c : He.SaysD faD fnD K) : Df K mg "are_looks" sx_are_looks ["hall", "book", "thing"] := by
  obtain ⟨fd, F, b⟩ := fu_are_looks c
  exact ⟨_, fd, He.glo_ok X G (c.fact 18 (f := .glo "are_looks") rfl), F, b⟩
theorem fu_run (c : He.SaysD faD fnD K) : ∃ fd, Fun K "run" "run" sx_run (He.ga K "run") fd ∧ Binds K fd ["hall", "comings"] [] := by
  obtain ⟨fd, F⟩ := c.def_ 19 (d := d_run) rfl
  obtain ⟨oc, od, dV, kV, doc, pm, an, cdv, ct, osl, e1, e2, e3, e4, e5⟩ := F.ex
  rcases e4 with ⟨_, e4⟩ | ⟨e4, _⟩
  · subst e4
    exact ⟨fd, ⟨⟨oc, od, kV, doc, pm, an, cdv, ct, osl, e1, e2, e3⟩, F.kp⟩, F.bindsN fun _ _ _ _ _ _ us hl => match us, hl with | [_, _], _ => rfl⟩
  · exact absurd rfl e4
theorem df_run (X : K.In h) (G : h.Ns mainGlobals mg) (c : He.SaysD faD fnD K) : Df K mg "run" sx_run ["hall", "comings"] := by
  obtain ⟨fd, F, b⟩ := fu_run c
  exact ⟨_, fd, He.glo_ok X G (c.fact 19 (f := .glo "run") rfl), F, b⟩
theorem fu_is_story (c : He.SaysD faD fnD K) : ∃ fd, Fun K "is_story" "is_story" sx_is_story (He.ga K "is_story") fd ∧ Binds K fd ["hall", "book", "looks", "thing"] [] := by
  obtain ⟨fd, F⟩ := c.def_ 20 (d := d_is_story) rfl
  obtain ⟨oc, od, dV, kV, doc, pm, an, cdv, ct, osl, e1, e2, e3, e4, e5⟩ := F.ex
  rcases e4 with ⟨_, e4⟩ | ⟨e4, _⟩
  · subst e4
    exact ⟨fd, ⟨⟨oc, od, kV, doc, pm, an, cdv, ct, osl, e1, e2, e3⟩, F.kp⟩, F.bindsN fun _ _ _ _ _ _ us hl => match us, hl with | [_, _, _, _], _ => rfl⟩
  · exact absurd rfl e4
theorem df_is_story (X : K.In h) (G : h.Ns mainGlobals mg) (c : He.SaysD faD fnD K) : Df K mg "is_story" sx_is_story ["hall", "book", "looks", "thing"] := by
  obtain ⟨fd, F, b⟩ := fu_is_story c
  exact ⟨_, fd, He.glo_ok X G (c.fact 20 (f := .glo "is_story") rfl), F, b⟩
theorem fu_stairs (c : He.SaysD faD fnD K) : ∃ fd, Fun K "stairs" "stairs" sx_stairs (He.ga K "stairs") fd ∧ Binds K fd ["hall", "book", "looks", "rank"] [] := by
  obtain ⟨fd, F⟩ := c.def_ 21 (d := d_stairs) rfl
  obtain ⟨oc, od, dV, kV, doc, pm, an, cdv, ct, osl, e1, e2, e3, e4, e5⟩ := F.ex
  rcases e4 with ⟨_, e4⟩ | ⟨e4, _⟩
  · subst e4
    exact ⟨fd, ⟨⟨oc, od, kV, doc, pm, an, cdv, ct, osl, e1, e2, e3⟩, F.kp⟩, F.bindsN fun _ _ _ _ _ _ us hl => match us, hl with | [_, _, _, _], _ => rfl⟩
  · exact absurd rfl e4
theorem df_stairs (X : K.In h) (G : h.Ns mainGlobals mg) (c : He.SaysD faD fnD K) : Df K mg "stairs" sx_stairs ["hall", "book", "looks", "rank"] := by
  obtain ⟨fd, F, b⟩ := fu_stairs c
  exact ⟨_, fd, He.glo_ok X G (c.fact 21 (f := .glo "stairs") rfl), F, b⟩
theorem fu_can_be (c : He.SaysD faD fnD K) : ∃ fd, Fun K "can_be" "can_be" sx_can_be (He.ga K "can_be") fd ∧ Binds K fd ["hall", "book", "looks"] [] := by
  obtain ⟨fd, F⟩ := c.def_ 22 (d := d_can_be) rfl
  obtain ⟨oc, od, dV, kV, doc, pm, an, cdv, ct, osl, e1, e2, e3, e4, e5⟩ := F.ex
  rcases e4 with ⟨_, e4⟩ | ⟨e4, _⟩
  · subst e4
    exact ⟨fd, ⟨⟨oc, od, kV, doc, pm, an, cdv, ct, osl, e1, e2, e3⟩, F.kp⟩, F.bindsN fun _ _ _ _ _ _ us hl => match us, hl with | [_, _, _], _ => rfl⟩
  · exact absurd rfl e4
theorem df_can_be (X : K.In h) (G : h.Ns mainGlobals mg) (c : He.SaysD faD fnD K) : Df K mg "can_be" sx_can_be ["hall", "book", "looks"] := by
  obtain ⟨fd, F, b⟩ := fu_can_be c
  exact ⟨_, fd, He.glo_ok X G (c.fact 22 (f := .glo "can_be") rfl), F, b⟩
theorem fu_first_bar (c : He.SaysD faD fnD K) : ∃ fd, Fun K "first_bar" "first_bar" sx_first_bar (He.ga K "first_bar") fd ∧ Binds K fd ["hall", "book"] [] := by
  obtain ⟨fd, F⟩ := c.def_ 23 (d := d_first_bar) rfl
  obtain ⟨oc, od, dV, kV, doc, pm, an, cdv, ct, osl, e1, e2, e3, e4, e5⟩ := F.ex
  rcases e4 with ⟨_, e4⟩ | ⟨e4, _⟩
  · subst e4
    exact ⟨fd, ⟨⟨oc, od, kV, doc, pm, an, cdv, ct, osl, e1, e2, e3⟩, F.kp⟩, F.bindsN fun _ _ _ _ _ _ us hl => match us, hl with | [_, _], _ => rfl⟩
  · exact absurd rfl e4
theorem df_first_bar (X : K.In h) (G : h.Ns mainGlobals mg) (c : He.SaysD faD fnD K) : Df K mg "first_bar" sx_first_bar ["hall", "book"] := by
  obtain ⟨fd, F, b⟩ := fu_first_bar c
  exact ⟨_, fd, He.glo_ok X G (c.fact 23 (f := .glo "first_bar") rfl), F, b⟩
theorem fu_bar (c : He.SaysD faD fnD K) : ∃ fd, Fun K "bar" "bar" sx_bar (He.ga K "bar") fd ∧ Binds K fd ["hall", "book", "looks"] [] := by
  obtain ⟨fd, F⟩ := c.def_ 24 (d := d_bar) rfl
  obtain ⟨oc, od, dV, kV, doc, pm, an, cdv, ct, osl, e1, e2, e3, e4, e5⟩ := F.ex
  rcases e4 with ⟨_, e4⟩ | ⟨e4, _⟩
  · subst e4
    exact ⟨fd, ⟨⟨oc, od, kV, doc, pm, an, cdv, ct, osl, e1, e2, e3⟩, F.kp⟩, F.bindsN fun _ _ _ _ _ _ us hl => match us, hl with | [_, _, _], _ => rfl⟩
  · exact absurd rfl e4
theorem df_bar (X : K.In h) (G : h.Ns mainGlobals mg) (c : He.SaysD faD fnD K) : Df K mg "bar" sx_bar ["hall", "book", "looks"] := by
  obtain ⟨fd, F, b⟩ := fu_bar c
  exact ⟨_, fd, He.glo_ok X G (c.fact 24 (f := .glo "bar") rfl), F, b⟩
theorem fu_is_bar (c : He.SaysD faD fnD K) : ∃ fd, Fun K "is_bar" "is_bar" sx_is_bar (He.ga K "is_bar") fd ∧ Binds K fd ["hall", "book", "looks", "thing"] [] := by
  obtain ⟨fd, F⟩ := c.def_ 25 (d := d_is_bar) rfl
  obtain ⟨oc, od, dV, kV, doc, pm, an, cdv, ct, osl, e1, e2, e3, e4, e5⟩ := F.ex
  rcases e4 with ⟨_, e4⟩ | ⟨e4, _⟩
  · subst e4
    exact ⟨fd, ⟨⟨oc, od, kV, doc, pm, an, cdv, ct, osl, e1, e2, e3⟩, F.kp⟩, F.bindsN fun _ _ _ _ _ _ us hl => match us, hl with | [_, _, _, _], _ => rfl⟩
  · exact absurd rfl e4
theorem df_is_bar (X : K.In h) (G : h.Ns mainGlobals mg) (c : He.SaysD faD fnD K) : Df K mg "is_bar" sx_is_bar ["hall", "book", "looks", "thing"] := by
  obtain ⟨fd, F, b⟩ := fu_is_bar c
  exact ⟨_, fd, He.glo_ok X G (c.fact 25 (f := .glo "is_bar") rfl), F, b⟩
theorem fu_how_many (c : He.SaysD faD fnD K) : ∃ fd, Fun K "how_many" "how_many" sx_how_many (He.ga K "how_many") fd ∧ Binds K fd ["hall", "book", "looks"] [] := by
  obtain ⟨fd, F⟩ := c.def_ 26 (d := d_how_many) rfl
  obtain ⟨oc, od, dV, kV, doc, pm, an, cdv, ct, osl, e1, e2, e3, e4, e5⟩ := F.ex
  rcases e4 with ⟨_, e4⟩ | ⟨e4, _⟩
  · subst e4
    exact ⟨fd, ⟨⟨oc, od, kV, doc, pm, an, cdv, ct, osl, e1, e2, e3⟩, F.kp⟩, F.bindsN fun _ _ _ _ _ _ us hl => match us, hl with | [_, _, _], _ => rfl⟩
  · exact absurd rfl e4
theorem df_how_many (X : K.In h) (G : h.Ns mainGlobals mg) (c : He.SaysD faD fnD K) : Df K mg "how_many" sx_how_many ["hall", "book", "looks"] := by
  obtain ⟨fd, F, b⟩ := fu_how_many c
  exact ⟨_, fd, He.glo_ok X G (c.fact 26 (f := .glo "how_many") rfl), F, b⟩
theorem fu_how_many_of (c : He.SaysD faD fnD K) : ∃ fd, Fun K "how_many_of" "how_many_of" sx_how_many_of (He.ga K "how_many_of") fd ∧ Binds K fd ["hall", "book", "looks", "rank"] [] := by
  obtain ⟨fd, F⟩ := c.def_ 27 (d := d_how_many_of) rfl
  obtain ⟨oc, od, dV, kV, doc, pm, an, cdv, ct, osl, e1, e2, e3, e4, e5⟩ := F.ex
  rcases e4 with ⟨_, e4⟩ | ⟨e4, _⟩
  · subst e4
    exact ⟨fd, ⟨⟨oc, od, kV, doc, pm, an, cdv, ct, osl, e1, e2, e3⟩, F.kp⟩, F.bindsN fun _ _ _ _ _ _ us hl => match us, hl with | [_, _, _, _], _ => rfl⟩
  · exact absurd rfl e4
theorem df_how_many_of (X : K.In h) (G : h.Ns mainGlobals mg) (c : He.SaysD faD fnD K) : Df K mg "how_many_of" sx_how_many_of ["hall", "book", "looks", "rank"] := by
  obtain ⟨fd, F, b⟩ := fu_how_many_of c
  exact ⟨_, fd, He.glo_ok X G (c.fact 27 (f := .glo "how_many_of") rfl), F, b⟩
theorem fu_row_at (c : He.SaysD faD fnD K) : ∃ fd, Fun K "row_at" "row_at" sx_row_at (He.ga K "row_at") fd ∧ Binds K fd ["hall", "book", "looks", "rank", "number"] [] := by
  obtain ⟨fd, F⟩ := c.def_ 28 (d := d_row_at) rfl
  obtain ⟨oc, od, dV, kV, doc, pm, an, cdv, ct, osl, e1, e2, e3, e4, e5⟩ := F.ex
  rcases e4 with ⟨_, e4⟩ | ⟨e4, _⟩
  · subst e4
    exact ⟨fd, ⟨⟨oc, od, kV, doc, pm, an, cdv, ct, osl, e1, e2, e3⟩, F.kp⟩, F.bindsN fun _ _ _ _ _ _ us hl => match us, hl with | [_, _, _, _, _], _ => rfl⟩
  · exact absurd rfl e4
theorem df_row_at (X : K.In h) (G : h.Ns mainGlobals mg) (c : He.SaysD faD fnD K) : Df K mg "row_at" sx_row_at ["hall", "book", "looks", "rank", "number"] := by
  obtain ⟨fd, F, b⟩ := fu_row_at c
  exact ⟨_, fd, He.glo_ok X G (c.fact 28 (f := .glo "row_at") rfl), F, b⟩
theorem fu_number_of (c : He.SaysD faD fnD K) : ∃ fd, Fun K "number_of" "number_of" sx_number_of (He.ga K "number_of") fd ∧ Binds K fd ["hall", "book", "looks", "rank", "row"] [] := by
  obtain ⟨fd, F⟩ := c.def_ 29 (d := d_number_of) rfl
  obtain ⟨oc, od, dV, kV, doc, pm, an, cdv, ct, osl, e1, e2, e3, e4, e5⟩ := F.ex
  rcases e4 with ⟨_, e4⟩ | ⟨e4, _⟩
  · subst e4
    exact ⟨fd, ⟨⟨oc, od, kV, doc, pm, an, cdv, ct, osl, e1, e2, e3⟩, F.kp⟩, F.bindsN fun _ _ _ _ _ _ us hl => match us, hl with | [_, _, _, _, _], _ => rfl⟩
  · exact absurd rfl e4
theorem df_number_of (X : K.In h) (G : h.Ns mainGlobals mg) (c : He.SaysD faD fnD K) : Df K mg "number_of" sx_number_of ["hall", "book", "looks", "rank", "row"] := by
  obtain ⟨fd, F, b⟩ := fu_number_of c
  exact ⟨_, fd, He.glo_ok X G (c.fact 29 (f := .glo "number_of") rfl), F, b⟩
theorem fu_came (c : He.SaysD faD fnD K) : ∃ fd, Fun K "came" "came" sx_came (He.ga K "came") fd ∧ Binds K fd ["hall", "book", "looks", "rank", "comer"] [] := by
  obtain ⟨fd, F⟩ := c.def_ 30 (d := d_came) rfl
  obtain ⟨oc, od, dV, kV, doc, pm, an, cdv, ct, osl, e1, e2, e3, e4, e5⟩ := F.ex
  rcases e4 with ⟨_, e4⟩ | ⟨e4, _⟩
  · subst e4
    exact ⟨fd, ⟨⟨oc, od, kV, doc, pm, an, cdv, ct, osl, e1, e2, e3⟩, F.kp⟩, F.bindsN fun _ _ _ _ _ _ us hl => match us, hl with | [_, _, _, _, _], _ => rfl⟩
  · exact absurd rfl e4
theorem df_came (X : K.In h) (G : h.Ns mainGlobals mg) (c : He.SaysD faD fnD K) : Df K mg "came" sx_came ["hall", "book", "looks", "rank", "comer"] := by
  obtain ⟨fd, F, b⟩ := fu_came c
  exact ⟨_, fd, He.glo_ok X G (c.fact 30 (f := .glo "came") rfl), F, b⟩
theorem fu_taken (c : He.SaysD faD fnD K) : ∃ fd, Fun K "taken" "taken" sx_taken (He.ga K "taken") fd ∧ Binds K fd ["hall", "book", "rank", "comer"] [] := by
  obtain ⟨fd, F⟩ := c.def_ 31 (d := d_taken) rfl
  obtain ⟨oc, od, dV, kV, doc, pm, an, cdv, ct, osl, e1, e2, e3, e4, e5⟩ := F.ex
  rcases e4 with ⟨_, e4⟩ | ⟨e4, _⟩
  · subst e4
    exact ⟨fd, ⟨⟨oc, od, kV, doc, pm, an, cdv, ct, osl, e1, e2, e3⟩, F.kp⟩, F.bindsN fun _ _ _ _ _ _ us hl => match us, hl with | [_, _, _, _], _ => rfl⟩
  · exact absurd rfl e4
theorem df_taken (X : K.In h) (G : h.Ns mainGlobals mg) (c : He.SaysD faD fnD K) : Df K mg "taken" sx_taken ["hall", "book", "rank", "comer"] := by
  obtain ⟨fd, F, b⟩ := fu_taken c
  exact ⟨_, fd, He.glo_ok X G (c.fact 31 (f := .glo "taken") rfl), F, b⟩
theorem fu_waits (c : He.SaysD faD fnD K) : ∃ fd, Fun K "waits" "waits" sx_waits (He.ga K "waits") fd ∧ Binds K fd ["hall", "book", "looks", "rank"] [] := by
  obtain ⟨fd, F⟩ := c.def_ 32 (d := d_waits) rfl
  obtain ⟨oc, od, dV, kV, doc, pm, an, cdv, ct, osl, e1, e2, e3, e4, e5⟩ := F.ex
  rcases e4 with ⟨_, e4⟩ | ⟨e4, _⟩
  · subst e4
    exact ⟨fd, ⟨⟨oc, od, kV, doc, pm, an, cdv, ct, osl, e1, e2, e3⟩, F.kp⟩, F.bindsN fun _ _ _ _ _ _ us hl => match us, hl with | [_, _, _, _], _ => rfl⟩
  · exact absurd rfl e4
theorem df_waits (X : K.In h) (G : h.Ns mainGlobals mg) (c : He.SaysD faD fnD K) : Df K mg "waits" sx_waits ["hall", "book", "looks", "rank"] := by
  obtain ⟨fd, F, b⟩ := fu_waits c
  exact ⟨_, fd, He.glo_ok X G (c.fact 32 (f := .glo "waits") rfl), F, b⟩
theorem fu_waiting (c : He.SaysD faD fnD K) : ∃ fd, Fun K "waiting" "waiting" sx_waiting (He.ga K "waiting") fd ∧ Binds K fd ["hall", "book", "looks", "rank", "tick"] [] := by
  obtain ⟨fd, F⟩ := c.def_ 33 (d := d_waiting) rfl
  obtain ⟨oc, od, dV, kV, doc, pm, an, cdv, ct, osl, e1, e2, e3, e4, e5⟩ := F.ex
  rcases e4 with ⟨_, e4⟩ | ⟨e4, _⟩
  · subst e4
    exact ⟨fd, ⟨⟨oc, od, kV, doc, pm, an, cdv, ct, osl, e1, e2, e3⟩, F.kp⟩, F.bindsN fun _ _ _ _ _ _ us hl => match us, hl with | [_, _, _, _, _], _ => rfl⟩
  · exact absurd rfl e4
theorem df_waiting (X : K.In h) (G : h.Ns mainGlobals mg) (c : He.SaysD faD fnD K) : Df K mg "waiting" sx_waiting ["hall", "book", "looks", "rank", "tick"] := by
  obtain ⟨fd, F, b⟩ := fu_waiting c
  exact ⟨_, fd, He.glo_ok X G (c.fact 33 (f := .glo "waiting") rfl), F, b⟩
theorem fu_because (c : He.SaysD faD fnD K) : ∃ fd, Fun K "because" "because" sx_because (He.ga K "because") fd ∧ Binds K fd ["hall", "book", "looks", "rank", "other"] [] := by
  obtain ⟨fd, F⟩ := c.def_ 34 (d := d_because) rfl
  obtain ⟨oc, od, dV, kV, doc, pm, an, cdv, ct, osl, e1, e2, e3, e4, e5⟩ := F.ex
  rcases e4 with ⟨_, e4⟩ | ⟨e4, _⟩
  · subst e4
    exact ⟨fd, ⟨⟨oc, od, kV, doc, pm, an, cdv, ct, osl, e1, e2, e3⟩, F.kp⟩, F.bindsN fun _ _ _ _ _ _ us hl => match us, hl with | [_, _, _, _, _], _ => rfl⟩
  · exact absurd rfl e4
theorem df_because (X : K.In h) (G : h.Ns mainGlobals mg) (c : He.SaysD faD fnD K) : Df K mg "because" sx_because ["hall", "book", "looks", "rank", "other"] := by
  obtain ⟨fd, F, b⟩ := fu_because c
  exact ⟨_, fd, He.glo_ok X G (c.fact 34 (f := .glo "because") rfl), F, b⟩
theorem fu_nexts (c : He.SaysD faD fnD K) : ∃ fd, Fun K "nexts" "nexts" sx_nexts (He.ga K "nexts") fd ∧ Binds K fd ["hall", "book", "looks"] [] := by
  obtain ⟨fd, F⟩ := c.def_ 35 (d := d_nexts) rfl
  obtain ⟨oc, od, dV, kV, doc, pm, an, cdv, ct, osl, e1, e2, e3, e4, e5⟩ := F.ex
  rcases e4 with ⟨_, e4⟩ | ⟨e4, _⟩
  · subst e4
    exact ⟨fd, ⟨⟨oc, od, kV, doc, pm, an, cdv, ct, osl, e1, e2, e3⟩, F.kp⟩, F.bindsN fun _ _ _ _ _ _ us hl => match us, hl with | [_, _, _], _ => rfl⟩
  · exact absurd rfl e4
theorem df_nexts (X : K.In h) (G : h.Ns mainGlobals mg) (c : He.SaysD faD fnD K) : Df K mg "nexts" sx_nexts ["hall", "book", "looks"] := by
  obtain ⟨fd, F, b⟩ := fu_nexts c
  exact ⟨_, fd, He.glo_ok X G (c.fact 35 (f := .glo "nexts") rfl), F, b⟩
theorem fu_best_look (c : He.SaysD faD fnD K) : ∃ fd, Fun K "best_look" "best_look" sx_best_look (He.ga K "best_look") fd ∧ Binds K fd ["hall", "book", "looks"] [] := by
  obtain ⟨fd, F⟩ := c.def_ 36 (d := d_best_look) rfl
  obtain ⟨oc, od, dV, kV, doc, pm, an, cdv, ct, osl, e1, e2, e3, e4, e5⟩ := F.ex
  rcases e4 with ⟨_, e4⟩ | ⟨e4, _⟩
  · subst e4
    exact ⟨fd, ⟨⟨oc, od, kV, doc, pm, an, cdv, ct, osl, e1, e2, e3⟩, F.kp⟩, F.bindsN fun _ _ _ _ _ _ us hl => match us, hl with | [_, _, _], _ => rfl⟩
  · exact absurd rfl e4
theorem df_best_look (X : K.In h) (G : h.Ns mainGlobals mg) (c : He.SaysD faD fnD K) : Df K mg "best_look" sx_best_look ["hall", "book", "looks"] := by
  obtain ⟨fd, F, b⟩ := fu_best_look c
  exact ⟨_, fd, He.glo_ok X G (c.fact 36 (f := .glo "best_look") rfl), F, b⟩
theorem fu_mends (c : He.SaysD faD fnD K) : ∃ fd, Fun K "mends" "mends" sx_mends (He.ga K "mends") fd ∧ Binds K fd ["hall", "book"] [] := by
  obtain ⟨fd, F⟩ := c.def_ 37 (d := d_mends) rfl
  obtain ⟨oc, od, dV, kV, doc, pm, an, cdv, ct, osl, e1, e2, e3, e4, e5⟩ := F.ex
  rcases e4 with ⟨_, e4⟩ | ⟨e4, _⟩
  · subst e4
    exact ⟨fd, ⟨⟨oc, od, kV, doc, pm, an, cdv, ct, osl, e1, e2, e3⟩, F.kp⟩, F.bindsN fun _ _ _ _ _ _ us hl => match us, hl with | [_, _], _ => rfl⟩
  · exact absurd rfl e4
theorem df_mends (X : K.In h) (G : h.Ns mainGlobals mg) (c : He.SaysD faD fnD K) : Df K mg "mends" sx_mends ["hall", "book"] := by
  obtain ⟨fd, F, b⟩ := fu_mends c
  exact ⟨_, fd, He.glo_ok X G (c.fact 37 (f := .glo "mends") rfl), F, b⟩
theorem fu_stays (c : He.SaysD faD fnD K) : ∃ fd, Fun K "stays" "stays" sx_stays (He.ga K "stays") fd ∧ Binds K fd ["hall", "book", "rank"] [] := by
  obtain ⟨fd, F⟩ := c.def_ 38 (d := d_stays) rfl
  obtain ⟨oc, od, dV, kV, doc, pm, an, cdv, ct, osl, e1, e2, e3, e4, e5⟩ := F.ex
  rcases e4 with ⟨_, e4⟩ | ⟨e4, _⟩
  · subst e4
    exact ⟨fd, ⟨⟨oc, od, kV, doc, pm, an, cdv, ct, osl, e1, e2, e3⟩, F.kp⟩, F.bindsN fun _ _ _ _ _ _ us hl => match us, hl with | [_, _, _], _ => rfl⟩
  · exact absurd rfl e4
theorem df_stays (X : K.In h) (G : h.Ns mainGlobals mg) (c : He.SaysD faD fnD K) : Df K mg "stays" sx_stays ["hall", "book", "rank"] := by
  obtain ⟨fd, F, b⟩ := fu_stays c
  exact ⟨_, fd, He.glo_ok X G (c.fact 38 (f := .glo "stays") rfl), F, b⟩
theorem fu_orders (c : He.SaysD faD fnD K) : ∃ fd, Fun K "orders" "orders" sx_orders (He.ga K "orders") fd ∧ Binds K fd ["hall", "book"] [] := by
  obtain ⟨fd, F⟩ := c.def_ 39 (d := d_orders) rfl
  obtain ⟨oc, od, dV, kV, doc, pm, an, cdv, ct, osl, e1, e2, e3, e4, e5⟩ := F.ex
  rcases e4 with ⟨_, e4⟩ | ⟨e4, _⟩
  · subst e4
    exact ⟨fd, ⟨⟨oc, od, kV, doc, pm, an, cdv, ct, osl, e1, e2, e3⟩, F.kp⟩, F.bindsN fun _ _ _ _ _ _ us hl => match us, hl with | [_, _], _ => rfl⟩
  · exact absurd rfl e4
theorem df_orders (X : K.In h) (G : h.Ns mainGlobals mg) (c : He.SaysD faD fnD K) : Df K mg "orders" sx_orders ["hall", "book"] := by
  obtain ⟨fd, F, b⟩ := fu_orders c
  exact ⟨_, fd, He.glo_ok X G (c.fact 39 (f := .glo "orders") rfl), F, b⟩
theorem fu_must_be_ahead (c : He.SaysD faD fnD K) : ∃ fd, Fun K "must_be_ahead" "must_be_ahead" sx_must_be_ahead (He.ga K "must_be_ahead") fd ∧ Binds K fd ["hall", "book"] [] := by
  obtain ⟨fd, F⟩ := c.def_ 40 (d := d_must_be_ahead) rfl
  obtain ⟨oc, od, dV, kV, doc, pm, an, cdv, ct, osl, e1, e2, e3, e4, e5⟩ := F.ex
  rcases e4 with ⟨_, e4⟩ | ⟨e4, _⟩
  · subst e4
    exact ⟨fd, ⟨⟨oc, od, kV, doc, pm, an, cdv, ct, osl, e1, e2, e3⟩, F.kp⟩, F.bindsN fun _ _ _ _ _ _ us hl => match us, hl with | [_, _], _ => rfl⟩
  · exact absurd rfl e4
theorem df_must_be_ahead (X : K.In h) (G : h.Ns mainGlobals mg) (c : He.SaysD faD fnD K) : Df K mg "must_be_ahead" sx_must_be_ahead ["hall", "book"] := by
  obtain ⟨fd, F, b⟩ := fu_must_be_ahead c
  exact ⟨_, fd, He.glo_ok X G (c.fact 40 (f := .glo "must_be_ahead") rfl), F, b⟩
theorem fu_first_taken (c : He.SaysD faD fnD K) : ∃ fd, Fun K "first_taken" "first_taken" sx_first_taken (He.ga K "first_taken") fd ∧ Binds K fd ["hall", "book", "looks", "rank", "comer"] [] := by
  obtain ⟨fd, F⟩ := c.def_ 41 (d := d_first_taken) rfl
  obtain ⟨oc, od, dV, kV, doc, pm, an, cdv, ct, osl, e1, e2, e3, e4, e5⟩ := F.ex
  rcases e4 with ⟨_, e4⟩ | ⟨e4, _⟩
  · subst e4
    exact ⟨fd, ⟨⟨oc, od, kV, doc, pm, an, cdv, ct, osl, e1, e2, e3⟩, F.kp⟩, F.bindsN fun _ _ _ _ _ _ us hl => match us, hl with | [_, _, _, _, _], _ => rfl⟩
  · exact absurd rfl e4
theorem df_first_taken (X : K.In h) (G : h.Ns mainGlobals mg) (c : He.SaysD faD fnD K) : Df K mg "first_taken" sx_first_taken ["hall", "book", "looks", "rank", "comer"] := by
  obtain ⟨fd, F, b⟩ := fu_first_taken c
  exact ⟨_, fd, He.glo_ok X G (c.fact 41 (f := .glo "first_taken") rfl), F, b⟩
theorem fu__law_odd (c : He.SaysD faD fnD K) : ∃ fd, Fun K "_law_odd" "_law_odd" s__law_odd (He.ga K "_law_odd") fd ∧ Binds K fd ["bag", "x"] [] := by
  obtain ⟨fd, F⟩ := c.def_ 42 (d := d__law_odd) rfl
  obtain ⟨oc, od, dV, kV, doc, pm, an, cdv, ct, osl, e1, e2, e3, e4, e5⟩ := F.ex
  rcases e4 with ⟨_, e4⟩ | ⟨e4, _⟩
  · subst e4
    exact ⟨fd, ⟨⟨oc, od, kV, doc, pm, an, cdv, ct, osl, e1, e2, e3⟩, F.kp⟩, F.bindsN fun _ _ _ _ _ _ us hl => match us, hl with | [_, _], _ => rfl⟩
  · exact absurd rfl e4
theorem df__law_odd (X : K.In h) (G : h.Ns mainGlobals mg) (c : He.SaysD faD fnD K) : Df K mg "_law_odd" s__law_odd ["bag", "x"] := by
  obtain ⟨fd, F, b⟩ := fu__law_odd c
  exact ⟨_, fd, He.glo_ok X G (c.fact 42 (f := .glo "_law_odd") rfl), F, b⟩
theorem fu__law_kind (c : He.SaysD faD fnD K) : ∃ fd, Fun K "_law_kind" "_law_kind" s__law_kind (He.ga K "_law_kind") fd ∧ Binds K fd ["e"] [] := by
  obtain ⟨fd, F⟩ := c.def_ 43 (d := d__law_kind) rfl
  obtain ⟨oc, od, dV, kV, doc, pm, an, cdv, ct, osl, e1, e2, e3, e4, e5⟩ := F.ex
  rcases e4 with ⟨_, e4⟩ | ⟨e4, _⟩
  · subst e4
    exact ⟨fd, ⟨⟨oc, od, kV, doc, pm, an, cdv, ct, osl, e1, e2, e3⟩, F.kp⟩, F.bindsN fun _ _ _ _ _ _ us hl => match us, hl with | [_], _ => rfl⟩
  · exact absurd rfl e4
theorem fu__law_tried (c : He.SaysD faD fnD K) : ∃ fd, Fun K "_law_tried" "_law_tried" s__law_tried (He.ga K "_law_tried") fd ∧ Binds K fd ["deed"] [] := by
  obtain ⟨fd, F⟩ := c.def_ 44 (d := d__law_tried) rfl
  obtain ⟨oc, od, dV, kV, doc, pm, an, cdv, ct, osl, e1, e2, e3, e4, e5⟩ := F.ex
  rcases e4 with ⟨_, e4⟩ | ⟨e4, _⟩
  · subst e4
    exact ⟨fd, ⟨⟨oc, od, kV, doc, pm, an, cdv, ct, osl, e1, e2, e3⟩, F.kp⟩, F.bindsN fun _ _ _ _ _ _ us hl => match us, hl with | [_], _ => rfl⟩
  · exact absurd rfl e4
theorem fu__law_refused (c : He.SaysD faD fnD K) : ∃ fd, Fun K "_law_refused" "_law_refused" s__law_refused (He.ga K "_law_refused") fd ∧ Binds K fd ["doors", "word"] [] := by
  obtain ⟨fd, F⟩ := c.def_ 45 (d := d__law_refused) rfl
  obtain ⟨oc, od, dV, kV, doc, pm, an, cdv, ct, osl, e1, e2, e3, e4, e5⟩ := F.ex
  rcases e4 with ⟨_, e4⟩ | ⟨e4, _⟩
  · subst e4
    exact ⟨fd, ⟨⟨oc, od, kV, doc, pm, an, cdv, ct, osl, e1, e2, e3⟩, F.kp⟩, F.bindsN fun _ _ _ _ _ _ us hl => match us, hl with | [_, _], _ => rfl⟩
  · exact absurd rfl e4
theorem blt_ok (X : K.In h) (G : h.Ns mainGlobals mg) (c : He.SaysD faD fnD K) : Blt2 mg :=
  { len_ := He.free_ok X G (c.fact 52 (f := .free "len") rfl), sum_ := He.free_ok X G (c.fact 53 (f := .free "sum") rfl), all_ := He.free_ok X G (c.fact 54 (f := .free "all") rfl), any_ := He.free_ok X G (c.fact 55 (f := .free "any") rfl), tuple_ := He.free_ok X G (c.fact 56 (f := .free "tuple") rfl), list_ := He.free_ok X G (c.fact 57 (f := .free "list") rfl), sorted_ := He.free_ok X G (c.fact 58 (f := .free "sorted") rfl), max_ := He.free_ok X G (c.fact 59 (f := .free "max") rfl), min_ := He.free_ok X G (c.fact 60 (f := .free "min") rfl), range_ := He.free_ok X G (c.fact 61 (f := .free "range") rfl), zip_ := He.free_ok X G (c.fact 62 (f := .free "zip") rfl), enumerate_ := He.free_ok X G (c.fact 63 (f := .free "enumerate") rfl), reversed_ := He.free_ok X G (c.fact 64 (f := .free "reversed") rfl), set_ := He.free_ok X G (c.fact 65 (f := .free "set") rfl), isinstance_ := He.free_ok X G (c.fact 66 (f := .free "isinstance") rfl), int_ := He.free_ok X G (c.fact 67 (f := .free "int") rfl), bool_ := He.free_ok X G (c.fact 68 (f := .free "bool") rfl), str_ := He.free_ok X G (c.fact 69 (f := .free "str") rfl), type_ := He.free_ok X G (c.fact 70 (f := .free "type") rfl) }
theorem ba {a b : Bool} (h : (a && b) = true) : a = true ∧ b = true := Bool.and_eq_true_iff.mp h
theorem exc_ok {D : Addr} (h : excB K D = true) : ExcC K D := by
  unfold excB at h
  obtain ⟨h1, h⟩ := ba h
  obtain ⟨h2, h⟩ := ba h
  obtain ⟨h3, h⟩ := ba h
  obtain ⟨h4, h⟩ := ba h
  obtain ⟨h5, h⟩ := ba h
  obtain ⟨h6, h⟩ := ba h
  obtain ⟨h7, h8⟩ := ba h
  exact ⟨He.eqO_ok h1, He.eqO_ok h2, of_decide_eq_true h3, h4, He.eqO_ok h5, He.eqO_ok h6, of_decide_eq_true h7, of_decide_eq_true h8⟩
theorem kcls_ok (X : K.In h) (G : h.Ns mainGlobals mg) (c : He.SaysD faD fnD K) (hk : kitB K = true) (he : excB K (He.ga K "NoHall") = true) : KCls K mg (fun i => He.ga K (kNames.getD i "")) (He.ga K "NoHall") 0 where
  exc := exc_ok he
  k12 := by decide
  m0 := He.glo_ok X G (c.fact 71 (f := .glo "NoHall") rfl)
  m1 := He.glo_ok X G (c.fact 72 (f := .glo "NoBook") rfl)
  m2 := He.glo_ok X G (c.fact 73 (f := .glo "NoLooks") rfl)
  m3 := He.glo_ok X G (c.fact 74 (f := .glo "NoRank") rfl)
  m4 := He.glo_ok X G (c.fact 75 (f := .glo "NoComings") rfl)
  m5 := He.glo_ok X G (c.fact 76 (f := .glo "NoComer") rfl)
  m6 := He.glo_ok X G (c.fact 77 (f := .glo "NoTick") rfl)
  m7 := He.glo_ok X G (c.fact 78 (f := .glo "NoNumber") rfl)
  m8 := He.glo_ok X G (c.fact 79 (f := .glo "NotAlike") rfl)
  m9 := He.glo_ok X G (c.fact 80 (f := .glo "NoRow") rfl)
  m10 := He.glo_ok X G (c.fact 81 (f := .glo "CantBe") rfl)
  m11 := He.glo_ok X G (c.fact 82 (f := .glo "NothingLeft") rfl)
  kit := fun i hi => of_decide_eq_true (List.all_eq_true.mp hk i (List.mem_range.mpr hi))
theorem all_ok (X : K.In h) (G : h.Ns mainGlobals mg) (c : He.SaysD faD fnD K) (ca : exK K = true) : ∃ (f : Addr) (fd : FuncData), mg "law" = some (.ref f) ∧ (∀ (s : Shared) (v : Value), BindsTo s fd ⟨[v], []⟩ [("script", v)]) ∧
    ∀ base : Heap, TabB base mg (He.cT K ("_law_doors", none)).1 (He.cT K ("_law_doors", none)).2 → FnOk P w K mg base CX0 20 f fd ["script"] (spJ (He.cT K ("_law_doors", none)).2 "_law_doors.<locals>.<lambda>" F_law) := by
  obtain ⟨ca1, ca⟩ := ba ca
  obtain ⟨ca2, ca⟩ := ba ca
  obtain ⟨ca3, ca4⟩ := ba ca
  have Z : Blt2 mg := blt_ok X G c
  have Y : ImpsP mg := ⟨⟨PySem.W.mg_of X G (He.eqO_ok (ba ca2).1)⟩, PySem.W.mg_of X G (He.eqO_ok (ba ca2).2)⟩
  have g_DESKS_AT_MOST : ∃ t, mg "DESKS_AT_MOST" = some (.int (3) t) := He.int_ok X G (c.fact 48 (f := .int "DESKS_AT_MOST" (3)) rfl)
  have g_RANKS_AT_MOST : ∃ t, mg "RANKS_AT_MOST" = some (.int (4) t) := He.int_ok X G (c.fact 49 (f := .int "RANKS_AT_MOST" (4)) rfl)
  have g_STAY_AT_MOST : ∃ t, mg "STAY_AT_MOST" = some (.int (10) t) := He.int_ok X G (c.fact 50 (f := .int "STAY_AT_MOST" (10)) rfl)
  have g_COME_AT_MOST : ∃ t, mg "COME_AT_MOST" = some (.int (5) t) := He.int_ok X G (c.fact 51 (f := .int "COME_AT_MOST" (5)) rfl)
  have KC := kcls_ok X G c ca3 ca4
  obtain ⟨x1, x2, x3, x4⟩ := He.exc_ok (c.fact 85 (f := .exc "NoHall") rfl)
  have R : RaC K mg "NoHall" (He.ga K "NoHall") := ⟨⟨_, _, _, _, PySem.F.excBase_ValueError, x1⟩, He.glo_ok X G (c.fact 71 (f := .glo "NoHall") rfl), x2, x3, x4⟩
  have hx := He.exm_ok (c.fact 86 (f := .exm "NoHall" "HallError" true) rfl)
  have hH := He.glo_ok X G (c.fact 83 (f := .glo "HallError") rfl)
  have MK := He.mkr_ok (c.fact 87 (f := .mkr "Kept") rfl)
  have gK := He.glo_ok X G (c.fact 84 (f := .glo "Kept") rfl)
  obtain ⟨fdK, FK⟩ := c.def_ 48 (d := d_Kept_init) rfl
  obtain ⟨fdk, Fk, bk⟩ := fu__law_kind c
  obtain ⟨fdt, Ft, bt⟩ := fu__law_tried c
  obtain ⟨fdr, Fr, br⟩ := fu__law_refused c
  obtain ⟨fdo, Fo⟩ := c.def_ 46 (d := d__law_doors) rfl
  have gk := He.glo_ok X G (c.fact 43 (f := .glo "_law_kind") rfl)
  have gt := He.glo_ok X G (c.fact 44 (f := .glo "_law_tried") rfl)
  have gr := He.glo_ok X G (c.fact 45 (f := .glo "_law_refused") rfl)
  have go := He.glo_ok X G (c.fact 46 (f := .glo "_law_doors") rfl)
  have FKf : Fun K "__init__" "Kept.__init__" s_Kept_init (He.ma K (He.ga K "Kept") "__init__") fdK ∧ Binds K fdK ["self", "hall"] [] := by
    obtain ⟨oc, od, dV, kV, doc, pm, an, cdv, ct, osl, e1, e2, e3, e4, e5⟩ := FK.ex
    rcases e4 with ⟨_, e4⟩ | ⟨e4, _⟩
    · subst e4
      exact ⟨⟨⟨oc, od, kV, doc, pm, an, cdv, ct, osl, e1, e2, e3⟩, FK.kp⟩, FK.bindsN fun _ _ _ _ _ _ us hl => match us, hl with | [_, _], _ => rfl⟩
    · exact absurd rfl e4
  have bo : Binds K fdo ["x"] [] := Fo.bindsN fun _ _ _ _ _ _ us hl => match us, hl with | [_], _ => rfl
  have kr := Fr.kp
  have ko := Fo.kp
  obtain ⟨fd, F⟩ := c.def_ 47 (d := d_law) rfl
  have hb := FunD.bindsA (ps := ["script"]) F fun _ _ _ _ _ _ us hl => match us, hl with | [_], _ => rfl
  obtain ⟨oc, od, dV, kV, doc, pm, an, cdv, ct, osl, e1, e2, e3, e4, e5⟩ := F.ex
  rcases e4 with ⟨_, e4⟩ | ⟨e4, _⟩
  · subst e4
    refine ⟨_, fd, He.glo_ok X G (c.fact 47 (f := .glo "law") rfl), fun s v => hb s [v] rfl, fun base TB => ?_⟩
    have h_is_tuple := fn_is_tuple (P := P) (w := w) (base := base) (df_is_tuple X G c) Z Y
    have h_is_whole := fn_is_whole (P := P) (w := w) (base := base) (df_is_whole X G c) Z Y
    have h__are_desks := fn__are_desks (P := P) (w := w) (base := base) (df__are_desks X G c) Z Y h_is_tuple h_is_whole g_DESKS_AT_MOST
    have h_are_whole := fn_are_whole (P := P) (w := w) (base := base) (df_are_whole X G c) Z Y h_is_whole
    have h__are_ranks := fn__are_ranks (P := P) (w := w) (base := base) (df__are_ranks X G c) Z Y h_is_tuple h_are_whole g_RANKS_AT_MOST g_STAY_AT_MOST g_COME_AT_MOST
    have h_is_hall := fn_is_hall (P := P) (w := w) (base := base) (df_is_hall X G c) Z Y h_is_tuple h__are_desks h__are_ranks
    have h__law_well := fn__law_well (P := P) (w := w) (base := base) (df__law_well X G c) Z Y
    have h__law_bags := fn__law_bags (P := P) (w := w) (base := base) (df__law_bags X G c) Z Y h__law_well
    have h__law_same := fn__law_same (P := P) (w := w) (base := base) (df__law_same X G c) Z Y
    have h__law_take := fn__law_take (P := P) (w := w) (base := base) (df__law_take X G c) Z Y
    have h__law_some := fn__law_some (P := P) (w := w) (base := base) (df__law_some X G c) Z Y h__law_take
    have h__law_hall := fn__law_hall (P := P) (w := w) (base := base) (df__law_hall X G c) Z Y h__law_take h__law_some
    have h__law_in := fn__law_in (P := P) (w := w) (base := base) (df__law_in X G c) Z Y
    have h__law_good := fn__law_good (P := P) (w := w) (base := base) (df__law_good X G c) Z Y h__law_in
    have h__law_odd := fn__law_odd (P := P) (w := w) (base := base) (df__law_odd X G c) Z h__law_take
    have r_need_hall := rr_need_hall (P := P) (w := w) (base := base) (df_need_hall X G c) R h_is_hall
    have r_need_written := rr_need_written (P := P) (w := w) (base := base) (df_need_written X G c) r_need_hall
    have r_is_book := rr_is_book (P := P) (w := w) (base := base) (df_is_book X G c) r_need_hall
    have r_are_looks := rr_are_looks (P := P) (w := w) (base := base) (df_are_looks X G c) r_need_hall
    have r_run := rr_run (P := P) (w := w) (base := base) (df_run X G c) r_need_hall
    have r_is_story := rr_is_story (P := P) (w := w) (base := base) (df_is_story X G c) r_need_hall
    have r_stairs := rr_stairs (P := P) (w := w) (base := base) (df_stairs X G c) r_need_written
    have r_can_be := rr_can_be (P := P) (w := w) (base := base) (df_can_be X G c) r_need_written
    have r_first_bar := rr_first_bar (P := P) (w := w) (base := base) (df_first_bar X G c) r_need_hall
    have r_bar := rr_bar (P := P) (w := w) (base := base) (df_bar X G c) r_need_written (df_all_turns X G c)
    have r_is_bar := rr_is_bar (P := P) (w := w) (base := base) (df_is_bar X G c) r_need_written
    have r_how_many := rr_how_many (P := P) (w := w) (base := base) (df_how_many X G c) r_need_written
    have r_how_many_of := rr_how_many_of (P := P) (w := w) (base := base) (df_how_many_of X G c) r_need_written
    have r_row_at := rr_row_at (P := P) (w := w) (base := base) (df_row_at X G c) r_need_written
    have r_number_of := rr_number_of (P := P) (w := w) (base := base) (df_number_of X G c) r_need_written
    have r_came := rr_came (P := P) (w := w) (base := base) (df_came X G c) r_need_written
    have r_taken := rr_taken (P := P) (w := w) (base := base) (df_taken X G c) r_need_hall
    have r_waits := rr_waits (P := P) (w := w) (base := base) (df_waits X G c) r_need_written
    have r_waiting := rr_waiting (P := P) (w := w) (base := base) (df_waiting X G c) r_need_written
    have r_because := rr_because (P := P) (w := w) (base := base) (df_because X G c) r_need_written
    have r_nexts := rr_nexts (P := P) (w := w) (base := base) (df_nexts X G c) r_need_written
    have r_best_look := rr_best_look (P := P) (w := w) (base := base) (df_best_look X G c) r_need_written
    have r_mends := rr_mends (P := P) (w := w) (base := base) (df_mends X G c) r_need_hall
    have r_stays := rr_stays (P := P) (w := w) (base := base) (df_stays X G c) r_need_hall
    have r_orders := rr_orders (P := P) (w := w) (base := base) (df_orders X G c) r_need_hall
    have r_must_be_ahead := rr_must_be_ahead (P := P) (w := w) (base := base) (df_must_be_ahead X G c) r_need_hall
    have r_first_taken := rr_first_taken (P := P) (w := w) (base := base) (df_first_taken X G c) r_need_written
    have D : Doors P w K mg base (He.ga K "NoHall") (He.ga K "Kept") (He.ma K (He.ga K "Kept") "__init__") fdK := { h_is_book := r_is_book, h_are_looks := r_are_looks, h_run := r_run, h_is_story := r_is_story, h_stairs := r_stairs, h_can_be := r_can_be, h_first_bar := r_first_bar, h_bar := r_bar, h_is_bar := r_is_bar, h_how_many := r_how_many, h_how_many_of := r_how_many_of, h_row_at := r_row_at, h_number_of := r_number_of, h_came := r_came, h_taken := r_taken, h_waits := r_waits, h_waiting := r_waiting, h_because := r_because, h_nexts := r_nexts, h_best_look := r_best_look, h_mends := r_mends, h_stays := r_stays, h_orders := r_orders, h_must_be_ahead := r_must_be_ahead, h_first_taken := r_first_taken, kept := rr_Kept FKf.1 r_need_hall, keptB := FKf.2, keptM := MK, keptG := gK }
    have T := fn_tried (P := P) (w := w) (base := base) (j := 8) Ft Fk gk hH Z
    have Re := fn_refused (P := P) (w := w) (base := base) (j := 8) Fr Ft gt T
    have Do : FnOk P w K mg base CX0 1 (He.ga K "_law_doors") fdo ["x"] (spDoors DDoor (He.cT K ("_law_doors", none)).2 "_law_doors.<locals>.<lambda>" "x" 26) := by
      obtain ⟨oc, od, dV, kV, doc, pm, an, cdv, ct, osl, e1, e2, e3, e4, e5⟩ := Fo.ex
      obtain ⟨c0, rfl⟩ := He.codeIn_ref e3
      subst e1
      have ec : (He.cT K ("_law_doors", none)).1 = c0 := He.codeOf_eq e2 rfl
      rw [ec] at TB
      exact fn__law_doors TB e2 e3
    exact (fn_law (P := P) (w := w) (base := base) (T := (He.cT K ("_law_doors", none)).2) (q0 := "_law_doors.<locals>.<lambda>") ⟨⟨oc, od, kV, doc, pm, an, cdv, ct, osl, e1, e2, e3⟩, F.kp⟩ Z h__law_bags h__law_hall h__law_odd h__law_good h__law_same h_is_hall
        (fun hr => dentJ_doors Do bo go ko rfl Re br gr kr rfl D KC hx hr (pv 8))).mono (by decide)
  · exact absurd rfl e4
end
end Dn
set_option maxHeartbeats 1000000
namespace Dn
open PySem PySem.Spec PyProof.Rows L2
theorem atI_0 {α : Type} (x : α) (xs : List α) : atI (x :: xs) 0 = some x := by
  have := atI_nat (xs := x :: xs) (j := 0) (v := x) rfl
  simpa using this
theorem atI_1 {α : Type} (x y : α) (xs : List α) : atI (x :: y :: xs) 1 = some y := by
  have := atI_nat (xs := x :: y :: xs) (j := 1) (v := y) rfl
  simpa using this
theorem atI_2 {α : Type} (x y z : α) (xs : List α) : atI (x :: y :: z :: xs) 2 = some z := by
  have := atI_nat (xs := x :: y :: z :: xs) (j := 2) (v := z) rfl
  simpa using this
theorem mBin_ev {g : D → D → Option D} {m n : Mo D} {env e1 e2 : DEnv} {x y z : D} (h1 : m env = some (x, e1)) (h2 : n e1 = some (y, e2)) (h3 : g x y = some z) : mBin g m n env = some (z, e2) := by
  simp [mBin, mBind, mLift, h1, h2, h3]
theorem mMap_ev {α β : Type} {g : α → Option β} {m : Mo α} {env e1 : DEnv} {x : α} {z : β} (h1 : m env = some (x, e1)) (h3 : g x = some z) : mMap g m env = some (z, e1) := by
  simp [mMap, mBind, mLift, h1, h3]
theorem mIf_ev {α : Type} {c : Mo Bool} {m n : Mo α} {env e1 : DEnv} {k : Bool} (h1 : c env = some (k, e1)) : mIf c m n env = if k = true then m e1 else n e1 := by
  unfold mIf mBind
  rw [h1]
  cases k <;> rfl
theorem sSeq_nx {F F' : So} {env e1 : DEnv} (h : F env = some (.nx e1)) : sSeq F F' env = F' e1 := by simp [sSeq, h]
theorem sSeq_rt {F F' : So} {env e1 : DEnv} {d : D} (h : F env = some (.rt d e1)) : sSeq F F' env = some (.rt d e1) := by simp [sSeq, h]
theorem sSet_ev {i : Nat} {m : Mo D} {env e1 : DEnv} {d : D} (h : m env = some (d, e1)) : sSet i m env = some (.nx (e1.set i (some (SV.fz d)))) := by simp [sSet, h]
theorem sRet_ev {m : Mo D} {env e1 : DEnv} {d : D} (h : m env = some (d, e1)) : sRet m env = some (.rt d e1) := by simp [sRet, h]
theorem mLend_ev {m : Mo D} {env e1 : DEnv} {d : D} (h : m (lendE env) = some (d, e1)) (f : flatD d = true) : mLend m env = some (d, env) := by simp [mLend, h, f]
theorem mLendT_ev {m : Mo Bool} {env e1 : DEnv} {d : Bool} (h : m (lendE env) = some (d, e1)) : mLendT m env = some (d, env) := by simp [mLendT, h]
theorem mCons_ev {α : Type} {m : Mo α} {n : Mo (List α)} {env e1 e2 : DEnv} {x : α} {xs : List α} (h1 : m env = some (x, e1)) (h2 : n e1 = some (xs, e2)) : mCons m n env = some (x :: xs, e2) := by
  simp [mCons, mBind, mRet, h1, h2]
theorem sApp_ev {i : Nat} {m : Mo D} {env e1 : DEnv} {io : Bool} {ds : List D} {d : D} (h0 : ∃ p, ownAt env i = some p) (h : m env = some (d, e1)) (h1 : ownAt e1 i = some (io, ds)) (hl : ds.length < 100000) : sApp i m env = some (.nx (e1.set i (some (.ow io 0 (.list (ds ++ [d])))))) := by
  obtain ⟨p, h0⟩ := h0
  simp [sApp, h0, h, h1, hl]
theorem canLayAll_map {α : Type} {f : α → D} (h : ∀ a, (f a).canLay0 = true) : ∀ l : List α, PyData.canLayAll0 (l.map f) = true
  | [] => rfl
  | a :: l => by
    show ((f a).canLay0 && PyData.canLayAll0 (l.map f)) = true
    rw [h a, canLayAll_map h l]
    rfl
theorem depthAll_map {α : Type} {f : α → D} {k : Nat} (h : ∀ a, (f a).depth ≤ k) : ∀ l : List α, PyData.depthAll (l.map f) ≤ k
  | [] => Nat.zero_le _
  | a :: l => Nat.max_le.mpr ⟨h a, depthAll_map h l⟩
theorem shaped_ints (l : List Int) : SeqAt.shaped (.list (l.map PyData.int)) = true := by
  have h1 : PyData.canLayAll0 (l.map PyData.int) = true := canLayAll_map (fun _ => rfl) l
  have h2 : PyData.depthAll (l.map PyData.int) ≤ 0 := depthAll_map (fun a => Nat.le_of_eq (rfl : (PyData.int a).depth = 0)) l
  unfold SeqAt.shaped
  rw [Bool.and_eq_true]
  refine ⟨by simpa [PyData.canLay0] using h1, decide_eq_true ?_⟩
  show PyData.depthAll (l.map PyData.int) + 1 ≤ 64
  omega
theorem gNe_nil {l : List Int} (h : l ≠ []) : gNe (.list (l.map PyData.int)) (.list []) = some (.bool true) := by
  unfold gNe
  rw [shaped_ints, show SeqAt.shaped (.list []) = true from shaped_ints []]
  cases l with
  | nil => exact absurd rfl h
  | cons x l => rfl
theorem gNe_nil0 : gNe (.list []) (.list []) = some (.bool false) := by
  unfold gNe
  rw [show SeqAt.shaped (.list []) = true from shaped_ints []]
  rfl
theorem mLc_ev {items : Mo (List D)} {tgt : D → DEnv → Option DEnv} {test : Mo Bool} {elt : Mo D} {vs : List Nat} {env e1 e2 : DEnv} {ds ys : List D} (h1 : items env = some (ds, e1)) (h2 : ds.length ≤ 100000) (h3 : okW e1 vs = true) (h4 : lcGo tgt test elt vs ds (wipeD e1 vs) = some (ys, e2)) :
    mLc items tgt test elt vs env = some (ys, restD e1 e2 vs) := by
  unfold mLc
  rw [h1]
  simp only [decide_eq_true h2, h3, Bool.and_self, if_pos, h4]
theorem sFor_ev {items : Mo (List D)} {tgt : D → DEnv → Option DEnv} {body : So} {env e1 : DEnv} {ds : List D} (h1 : items env = some (ds, e1)) : sFor items tgt body env = forGo tgt body ds e1 := by
  unfold sFor
  rw [h1]
end Dn
set_option maxHeartbeats 1000000
namespace Dn
open PySem PySem.Spec PyProof.Rows L2
/-- a bag of draws, of which so many were taken at most -/
def Bag (n : Nat) (d : D) : Prop := ∃ a b c : Int, d = .list [.int a, .int b, .int c] ∧ 0 ≤ b ∧ b < 2305843009213693951 ∧ 0 ≤ c ∧ c ≤ n
theorem Bag.mono {m n : Nat} {d : D} (h : Bag m d) (k : m ≤ n) : Bag n d := by
  obtain ⟨a, b, c, e, h1, h2, h3, h4⟩ := h
  exact ⟨a, b, c, e, h1, h2, h3, by omega⟩
theorem ix3_0 : ixN 3 0 = some 0 := by decide
theorem ix3_2 : ixN 3 2 = some 2 := by decide
theorem small_nat {m : Int} (h0 : 0 < m) (h1 : m < 1000000) : m.natAbs < 2 ^ 4000 := by
  have e : (2 : Nat) ^ 4000 = 2 ^ 20 * 2 ^ 3980 := by rw [← Nat.pow_add]
  have e2 : m.natAbs < 2 ^ 20 := by omega
  exact Nat.lt_of_lt_of_le e2 (Nat.pow_le_pow_right (by decide) (by decide))
theorem take_ok {n : Nat} {d : D} (h : Bag n d) (hn : n < 1000000) {m : Int} (h0 : 0 < m) (h2 : m.natAbs < 2 ^ 4000) : ∃ (v : Int) (d' : D), F__law_take [d, .int m] = some (.int v, [d']) ∧ 0 ≤ v ∧ v < m ∧ Bag (n + 1) d' := by
  obtain ⟨a, b, c, rfl, hb0, hb1, hc0, hc1⟩ := h
  by_cases ha : 0 < a
  · refine ⟨a % m, .list [.int (a / m), .int b, .int c], ?_, Int.emod_nonneg _ (by omega), Int.emod_lt_of_pos _ h0, ⟨_, _, _, rfl, hb0, hb1, hc0, by omega⟩⟩
    simp [F__law_take, B__law_take, sNil, envIO, argEnv, sSeq, sIf, mLendT, mLend, mMap, mBin, mBind, mLift, mRet, mVar, lendE, lendSV, gIx, atI_0, atI_1, atI_2, gGt, gCmp, gB, ha, sSet, sPut, sRet, gMod, gDivB, gInt, flatD, outIO, outsOf, h0, h2, ownAt, ix3_0, ix3_2]
  · have p0 : (0 : Int) < 2305843009213693951 := by decide
    have q1 : c.natAbs < 2 ^ 64 := by have : (2 : Nat) ^ 64 = 18446744073709551616 := by decide
                                      omega
    have q2 : (c + 1).natAbs < 2 ^ 64 := by have : (2 : Nat) ^ 64 = 18446744073709551616 := by decide
                                            omega
    obtain ⟨N1, hN1⟩ : ∃ N1 : Int, N1 = (b + 1000003 * (c + 1)) % 2305843009213693951 := ⟨_, rfl⟩
    have n10 : 0 ≤ N1 := by rw [hN1]; exact Int.emod_nonneg _ (by decide)
    have n11 : N1 < 2305843009213693951 := by rw [hN1]; exact Int.emod_lt_of_pos _ (by decide)
    obtain ⟨N2, hN2⟩ : ∃ N2 : Int, N2 = (N1 * N1 + 7919 * (c + 1) ^ 2 + 5) % 2305843009213693951 := ⟨_, rfl⟩
    have n20 : 0 ≤ N2 := by rw [hN2]; exact Int.emod_nonneg _ (by decide)
    have n21 : N2 < 2305843009213693951 := by rw [hN2]; exact Int.emod_lt_of_pos _ (by decide)
    have big : ∀ x : Int, 0 ≤ x → x < 2305843009213693951 * 2305843009213693951 → x.natAbs < 2 ^ 4000 := fun x hx hy => by
      have e : (2 : Nat) ^ 4000 = 2 ^ 122 * 2 ^ 3878 := by rw [← Nat.pow_add]
      have e2 : x.natAbs < 2 ^ 122 := by
        have : (2 : Nat) ^ 122 = 5316911983139663491615228241121378304 := by decide
        omega
      exact Nat.lt_of_lt_of_le e2 (Nat.pow_le_pow_right (by decide) (by decide))
    have r1 : ((1000003 : Int)).natAbs < 2 ^ 4000 := big _ (by decide) (by decide)
    have r2 : (c + 1).natAbs < 2 ^ 4000 := big _ (by omega) (by omega)
    have r3 : N1.natAbs < 2 ^ 4000 := big _ n10 (by omega)
    have r4 : ((7919 : Int)).natAbs < 2 ^ 4000 := big _ (by decide) (by decide)
    have c2 : (c + 1) ^ 2 < 10000000000000 := by
      have h : c + 1 ≤ 1000000 := by omega
      have : (c + 1) ^ 2 = (c + 1) * (c + 1) := by rw [Int.pow_succ, Int.pow_succ, Int.pow_zero, Int.one_mul]
      rw [this]
      exact Int.lt_of_le_of_lt (Int.mul_le_mul h h (by omega) (by decide)) (by decide)
    have c2' : 0 ≤ (c + 1) ^ 2 := Int.pow_nonneg (by omega)
    have r5 : ((c + 1) ^ 2).natAbs < 2 ^ 4000 := big _ c2' (by omega)
    have r6 : N2.natAbs < 2 ^ 64 := by
      have : (2 : Nat) ^ 64 = 18446744073709551616 := by decide
      omega
    refine ⟨N2 ^ 3 % 2305843009213693951 / 13 % m, .list [.int a, .int b, .int (c + 1)], ?_, Int.emod_nonneg _ (by omega), Int.emod_lt_of_pos _ h0, ⟨_, _, _, rfl, hb0, hb1, by omega, by omega⟩⟩
    have ha' : ¬ 0 < a := ha
    have g1 : gMulB (.int 1000003) (.int (c + 1)) = some (.int (1000003 * (c + 1))) := by simp only [gMulB, gInt, if_pos (And.intro r1 r2), Option.map_some]
    have g2 : gMulB (.int N1) (.int N1) = some (.int (N1 * N1)) := by simp only [gMulB, gInt, if_pos (And.intro r3 r3), Option.map_some]
    have g3 : gMulB (.int 7919) (.int ((c + 1) ^ 2)) = some (.int (7919 * (c + 1) ^ 2)) := by simp only [gMulB, gInt, if_pos (And.intro r4 r5), Option.map_some]
    have g4 : gPow (.int (c + 1)) (.int 2) = some (.int ((c + 1) ^ 2)) := by
      simp only [gPow, gInt]
      rw [if_pos ⟨by decide, by decide, q2⟩]
      rfl
    have g5 : gPow (.int N2) (.int 3) = some (.int (N2 ^ 3)) := by
      simp only [gPow, gInt]
      rw [if_pos ⟨by decide, by decide, r6⟩]
      rfl
    have gd : ∀ x : Int, gDivB (.int x) (.int 13) = some (.int (x / 13)) := fun x => by
      simp only [gDivB, gInt]
      rw [if_pos ⟨by decide, big 13 (by decide) (by decide)⟩]
      rfl
    simp [F__law_take, B__law_take, sNil, envIO, argEnv, sSeq, sIf, mLendT, mLend, mMap, mBin, mBind, mLift, mRet, mVar, lendE, lendSV, gIx, atI_0, atI_1, atI_2, gGt, gCmp, gB, ha', sSet, sPut, sRet, gMod, gd, gAdd, gInt, flatD, outIO, outsOf, h0, h2, ownAt, ix3_0, ix3_2, g1, g2, g3, g4, g5, ← hN1, ← hN2, p0]
end Dn
set_option maxHeartbeats 1000000
namespace Dn
open PySem PySem.Spec PyProof.Rows L2
theorem mTake_ev {i n : Nat} {env : DEnv} {io : Bool} {bag : D} {mA : Mo D} {m : Int} (h : env[i]? = some (some (SV.ow io 0 bag))) (hm : mA env = some (.int m, env)) (hb : Bag n bag) (hn : n < 1000000) (h0 : 0 < m) (h1 : m < 1000000) :
    ∃ (v : Int) (bag' : D), mCallIO [some 0, none] F__law_take (mIo i (mCons (mMap (fun d => some (AR.fz d)) mA) (mRet []))) env = some (.int v, env.set i (some (.ow io 0 bag'))) ∧ 0 ≤ v ∧ v < m ∧ Bag (n + 1) bag' := by
  obtain ⟨v, bag', e, v0, v1, b⟩ := take_ok hb hn h0 (small_nat h0 h1)
  refine ⟨v, bag', ?_, v0, v1, b⟩
  have e1 : mIo i (mCons (mMap (fun d => some (AR.fz d)) mA) (mRet [])) env = some ([AR.io i, AR.fz (.int m)], env) := by
    simp [mIo, h, mCons, mBind, mMap, mLift, mRet, hm]
  unfold mCallIO
  simp [e1, iosOf, argsOf, h, e, putOuts]
theorem forGo_ex {tgt : D → DEnv → Option DEnv} {body : So} (I : Nat → DEnv → Prop) : ∀ (ds : List D) (n : Nat) (e : DEnv), I n e →
    (∀ m d e, d ∈ ds → m < n + ds.length → I m e → ∃ e1 e2, tgt d e = some e1 ∧ body e1 = some (.nx e2) ∧ I (m + 1) e2) → ∃ e', forGo tgt body ds e = some (.nx e') ∧ I (n + ds.length) e'
  | [], n, e, h, _ => ⟨e, rfl, h⟩
  | d :: ds, n, e, h, hs => by
    obtain ⟨e1, e2, h1, h2, h3⟩ := hs n d e (by simp) (by simp) h
    obtain ⟨e', h4, h5⟩ := forGo_ex I ds (n + 1) e2 h3 fun m d e hd hm => hs m d e (by simp [hd]) (by rw [List.length_cons]; omega)
    exact ⟨e', by simp only [forGo, h1, h2, h4], by rw [List.length_cons, show n + (ds.length + 1) = n + 1 + ds.length by omega]; exact h5⟩
/-- a comprehension that keeps some of what it walks -/
theorem lcGo_sub {tgt : D → DEnv → Option DEnv} {test : Mo Bool} {elt : Mo D} {vs : List Nat} (I : Nat → DEnv → Prop) (f : D → D) : ∀ (ds : List D) (n : Nat) (e : DEnv), I n e →
    (∀ m d e, d ∈ ds → m < n + ds.length → I m e → ∃ e1 b e2, tgt d e = some e1 ∧ test e1 = some (b, e2) ∧ I (m + 1) (wipeD e2 vs) ∧ (b = true → ∃ e3, elt e2 = some (f d, e3) ∧ I (m + 1) (wipeD e3 vs))) →
    ∃ ys e', lcGo tgt test elt vs ds e = some (ys, e') ∧ I (n + ds.length) e' ∧ ys.Sublist (ds.map f)
  | [], n, e, h, _ => ⟨[], e, rfl, h, List.Sublist.refl _⟩
  | d :: ds, n, e, h, hs => by
    obtain ⟨e1, b, e2, h1, h2, h3, h4⟩ := hs n d e (by simp) (by simp) h
    have ln : n + (d :: ds).length = n + 1 + ds.length := by rw [List.length_cons]; omega
    cases b with
    | false =>
      obtain ⟨ys, e', k1, k2, k3⟩ := lcGo_sub I f ds (n + 1) _ h3 fun m d e hd hm => hs m d e (by simp [hd]) (by rw [List.length_cons]; omega)
      exact ⟨ys, e', by simp [lcGo, h1, h2, k1], by rw [ln]; exact k2, by rw [List.map_cons]; exact k3.cons _⟩
    | true =>
      obtain ⟨e3, h5, h6⟩ := h4 rfl
      obtain ⟨ys, e', k1, k2, k3⟩ := lcGo_sub I f ds (n + 1) _ h6 fun m d e hd hm => hs m d e (by simp [hd]) (by rw [List.length_cons]; omega)
      exact ⟨f d :: ys, e', by simp [lcGo, h1, h2, h5, k1], by rw [ln]; exact k2, by rw [List.map_cons]; exact k3.cons₂ _⟩
/-- .. that keeps all -/
theorem lcGo_all {tgt : D → DEnv → Option DEnv} {test : Mo Bool} {elt : Mo D} {vs : List Nat} (I : Nat → DEnv → Prop) (R : D → D → Prop) : ∀ (ds : List D) (n : Nat) (e : DEnv), I n e →
    (∀ m d e, d ∈ ds → m < n + ds.length → I m e → ∃ e1 e2 y e3, tgt d e = some e1 ∧ test e1 = some (true, e2) ∧ elt e2 = some (y, e3) ∧ R d y ∧ I (m + 1) (wipeD e3 vs)) →
    ∃ ys e', lcGo tgt test elt vs ds e = some (ys, e') ∧ I (n + ds.length) e' ∧ Paired R ds ys
  | [], n, e, h, _ => ⟨[], e, rfl, h, .nil⟩
  | d :: ds, n, e, h, hs => by
    obtain ⟨e1, e2, y, e3, h1, h2, h3, h4, h5⟩ := hs n d e (by simp) (by simp) h
    obtain ⟨ys, e', k1, k2, k3⟩ := lcGo_all I R ds (n + 1) _ h5 fun m d e hd hm => hs m d e (by simp [hd]) (by rw [List.length_cons]; omega)
    exact ⟨y :: ys, e', by simp [lcGo, h1, h2, h3, k1], by rw [List.length_cons, show n + (ds.length + 1) = n + 1 + ds.length by omega]; exact k2, .cons h4 k3⟩
/-- ranks of a desk: rising, all below -/
def DeskOk (many : Nat) (d : List Int) : Prop := d ≠ [] ∧ d.Pairwise (· < ·) ∧ ∀ r ∈ d, 0 ≤ r ∧ r < many
abbrev encI (d : List Int) : List D := d.map PyData.int
theorem rangeD_ints (n : Nat) : rangeD 0 n = encI ((List.range n).map fun (i : Nat) => (i : Int)) := by
  unfold rangeD encI
  rw [List.map_map]
  congr 1
  funext i
  simp
theorem range_rising (n : Nat) : ((List.range n).map fun (i : Nat) => (i : Int)).Pairwise (· < ·) := by
  rw [List.pairwise_map]
  exact List.Pairwise.imp (fun h => by omega) List.pairwise_lt_range
theorem range_below (n : Nat) : ∀ r ∈ (List.range n).map (fun (i : Nat) => (i : Int)), 0 ≤ r ∧ r < n := fun r hr => by
  obtain ⟨i, hi, rfl⟩ := List.mem_map.mp hr
  have := List.mem_range.mp hi
  omega
theorem some_ok {n : Nat} {bag : D} (hb : Bag n bag) (hn : n + 10 < 1000000) {many : Nat} (h1 : 1 ≤ many) (h4 : many ≤ 4) :
    ∃ (d : List Int) (bag' : D), F__law_some [bag, .int many] = some (.tuple (encI d), [bag']) ∧ DeskOk many d ∧ Bag (n + 5) bag' := by
  have hL : ∃ ys e', lcGo (gNm 3) (mMap gB (mBin gGt (mCallIO [some 0, none] F__law_take (mIo 0 (mCons (mMap (fun d => some (AR.fz d)) (mRet (.int 4))) (mRet [])))) (mRet (.int 0)))) (mVar 3) [3] (rangeD 0 many) (wipeD [some (SV.ow true 0 bag), some (SV.fz (.int many)), none, none] [3]) = some (ys, e') ∧
      (∃ b', e' = [some (SV.ow true 0 b'), some (SV.fz (.int many)), none, none] ∧ Bag (n + (0 + (rangeD 0 many).length)) b') ∧ ys.Sublist ((rangeD 0 many).map id) := by
    refine lcGo_sub (fun k e => ∃ b', e = [some (SV.ow true 0 b'), some (SV.fz (.int many)), none, none] ∧ Bag (n + k) b') id (rangeD 0 many) 0 _ ⟨bag, rfl, hb⟩ fun k d e hd hkl ⟨b', he, hb'⟩ => ?_
    subst he
    have hk : n + k < 1000000 := by
      rw [rangeD_len] at hkl
      omega
    obtain ⟨v, b2, e1, v0, v1, hb2⟩ := mTake_ev (i := 0) (env := [some (SV.ow true 0 b'), some (SV.fz (.int many)), none, some (SV.fz d)]) (mA := mRet (.int 4)) (m := 4) rfl rfl hb' hk (by decide) (by decide)
    refine ⟨_, decide (0 < v), [some (SV.ow true 0 b2), some (SV.fz (.int many)), none, some (SV.fz d)], rfl, ?_, ⟨b2, rfl, hb2⟩, fun _ => ⟨[some (SV.ow true 0 b2), some (SV.fz (.int many)), none, some (SV.fz d)], rfl, ⟨b2, rfl, hb2⟩⟩⟩
    show mMap gB (mBin gGt _ _) [some (SV.ow true 0 b'), some (SV.fz (.int many)), none, some (SV.fz d)] = _
    exact mMap_ev (mBin_ev e1 rfl rfl) rfl
  obtain ⟨ys, e', hl, ⟨b2, he', hb2⟩, hsub⟩ := hL
  rw [List.map_id, rangeD_ints] at hsub
  rw [rangeD_len, Nat.zero_add] at hb2
  obtain ⟨l, hl1, hl2⟩ := List.sublist_map_iff.mp hsub
  subst hl2
  have hm4 : (many : Int) < 4611686018427387904 := by omega
  have hrg : gRg1 [.int (many : Int)] = some (rangeD 0 many) := by
    unfold gRg1
    simp only [Int.toNat_natCast]
    rw [if_pos ⟨by omega, by have : (2 : Int) ^ 62 = 4611686018427387904 := by decide
                             omega⟩]
  have hc : mMap (fun ds => some (PyData.list ds)) (mLc (mMap gRg1 (mCons (mVar 1) (mRet []))) (gNm 3) (mMap gB (mBin gGt (mCallIO [some 0, none] F__law_take (mIo 0 (mCons (mMap (fun d => some (AR.fz d)) (mRet (.int 4))) (mRet [])))) (mRet (.int 0)))) (mVar 3) [3])
      [some (SV.ow true 0 bag), some (SV.fz (.int many)), none, none] = some (.list (l.map PyData.int), [some (SV.ow true 0 b2), some (SV.fz (.int many)), none, none]) := by
    have e1 : mMap gRg1 (mCons (mVar 1) (mRet [])) [some (SV.ow true 0 bag), some (SV.fz (.int many)), none, none] = some (rangeD 0 many, [some (SV.ow true 0 bag), some (SV.fz (.int many)), none, none]) := mMap_ev rfl hrg
    have e2 := mLc_ev e1 (by rw [rangeD_len]; omega) rfl hl
    rw [he'] at e2
    exact mMap_ev e2 rfl
  by_cases hne : l = []
  · subst hne
    obtain ⟨v, b3, e3, v0, v1, hb3⟩ := mTake_ev (i := 0) (env := [some (SV.ow true 0 b2), some (SV.fz (.int many)), some (SV.fz (.list [])), none]) (mA := mVar 1) (m := many) rfl rfl hb2 (by omega) (by omega) (by omega)
    refine ⟨[v], b3, ?_, ⟨by simp, by simp, by simpa using ⟨v0, v1⟩⟩, hb3.mono (by omega)⟩
    unfold F__law_some B__law_some
    rw [show envIO ["bag", "ranks1", "found", "rank"] [some 0, none] [bag, .int (many : Int)] = [some (SV.ow true 0 bag), some (SV.fz (.int many)), none, none] from rfl]
    rw [sSeq_nx (sSet_ev hc)]
    rw [sSeq_rt (sRet_ev (d := .tuple [.int v]) (e1 := [some (SV.ow true 0 b3), some (SV.fz (.int many)), some (SV.fz (.list [])), none]) ?_)]
    · rfl
    · rw [mIf_ev (k := false) (e1 := [some (SV.ow true 0 b2), some (SV.fz (.int many)), some (SV.fz (.list [])), none]) (mMap_ev (mBin_ev (x := .list []) (y := .list []) rfl rfl gNe_nil0) rfl)]
      rw [if_neg (by decide)]
      exact mMap_ev (x := [.int v]) (mCons_ev e3 rfl) rfl
  · refine ⟨l, b2, ?_, ⟨hne, (range_rising many).sublist hl1, fun r hr => range_below many r (hl1.subset hr)⟩, hb2.mono (by omega)⟩
    unfold F__law_some B__law_some
    rw [show envIO ["bag", "ranks1", "found", "rank"] [some 0, none] [bag, .int (many : Int)] = [some (SV.ow true 0 bag), some (SV.fz (.int many)), none, none] from rfl]
    rw [sSeq_nx (sSet_ev hc)]
    rw [sSeq_rt (sRet_ev (d := .tuple (encI l)) (e1 := [some (SV.ow true 0 b2), some (SV.fz (.int many)), some (SV.fz (.list (encI l))), none]) ?_)]
    · rfl
    · rw [mIf_ev (k := true) (e1 := [some (SV.ow true 0 b2), some (SV.fz (.int many)), some (SV.fz (.list (encI l))), none]) ?_]
      · rw [if_pos rfl]
        exact mMap_ev (x := [.list (encI l)]) rfl rfl
      · refine mMap_ev (mBin_ev (x := .list (encI l)) (y := .list []) (z := .bool true) rfl rfl (gNe_nil hne)) rfl
end Dn
set_option maxHeartbeats 1000000
namespace Dn
open PySem PySem.Spec PyProof.Rows L2
structure Hall where
  ranks : List (Int × Int)
  desks : List (List Int)
def encR (p : Int × Int) : D := .tuple [.int p.1, .int p.2]
def encH (h : Hall) : D := .tuple [.tuple (h.ranks.map encR), .tuple (h.desks.map fun d => .tuple (encI d))]
structure Hall.Ok (h : Hall) (R K : Nat) : Prop where
  r1 : 1 ≤ h.ranks.length
  r2 : h.ranks.length ≤ R
  k1 : 1 ≤ h.desks.length
  k2 : h.desks.length ≤ K
  rank : ∀ p ∈ h.ranks, 1 ≤ p.1 ∧ p.1 ≤ 5 ∧ 1 ≤ p.2 ∧ p.2 ≤ 10
  desk : ∀ d ∈ h.desks, DeskOk h.ranks.length d
theorem gRg1_nat {n : Nat} (h : n ≤ 100000) : gRg1 [.int (n : Int)] = some (rangeD 0 n) := by
  have e : (2 : Int) ^ 62 = 4611686018427387904 := by decide
  unfold gRg1
  simp only [Int.toNat_natCast]
  rw [if_pos ⟨by omega, by omega⟩]
theorem gTupRg_nat {n : Nat} (h : n ≤ 100) : gTupRg (.int (n : Int)) = some (.tuple (rangeD 0 n)) := by
  have e : (2 : Int) ^ 62 = 4611686018427387904 := by decide
  unfold gTupRg
  simp only [Int.toNat_natCast]
  rw [if_pos ⟨by omega, by omega⟩]
theorem gAdd_int (i j : Int) : gAdd (.int i) (.int j) = some (.int (i + j)) := rfl
abbrev mTk (mA : Mo D) : Mo D := mCallIO [some 0, none] F__law_take (mIo 0 (mCons (mMap (fun d => some (AR.fz d)) mA) (mRet [])))
theorem mCall1_ev {F : List D → Option (D × List D)} {i k : Nat} {env : DEnv} {io : Bool} {bag bag' d z : D} {mA : Mo D} (h : env[i]? = some (some (SV.ow io k bag))) (hm : mA env = some (d, env)) (hf : F [bag, d] = some (z, [bag'])) :
    mCallIO [some k, none] F (mIo i (mCons (mMap (fun d => some (AR.fz d)) mA) (mRet []))) env = some (z, env.set i (some (.ow io k bag'))) := by
  have e1 : mIo i (mCons (mMap (fun d => some (AR.fz d)) mA) (mRet [])) env = some ([AR.io i, AR.fz d], env) := by
    simp [mIo, h, mCons, mBind, mMap, mLift, mRet, hm]
  unfold mCallIO
  simp [e1, iosOf, argsOf, h, hf, putOuts]
end Dn
set_option maxHeartbeats 1000000
namespace Dn
open PySem PySem.Spec PyProof.Rows L2
/-- a row of comings of the hall -/
def RowOk (rs : List (Int × Int)) (row : List Int) : Prop := row.length = rs.length ∧ ∀ (j : Nat) (c : Int) (p : Int × Int), row[j]? = some c → rs[j]? = some p → 0 ≤ c ∧ c ≤ p.1
theorem RowOk.take {rs : List (Int × Int)} {row : List Int} {k : Nat} {c : Int} {p : Int × Int} (h : row.length = k ∧ ∀ (j : Nat) (c : Int) (p : Int × Int), row[j]? = some c → rs[j]? = some p → 0 ≤ c ∧ c ≤ p.1) (hp : rs[k]? = some p) (h0 : 0 ≤ c) (h1 : c ≤ p.1) :
    (row ++ [c]).length = k + 1 ∧ ∀ (j : Nat) (c' : Int) (p : Int × Int), (row ++ [c])[j]? = some c' → rs[j]? = some p → 0 ≤ c' ∧ c' ≤ p.1 := by
  refine ⟨by rw [List.length_append, h.1]; rfl, fun j c' q hj hq => ?_⟩
  by_cases hjk : j < row.length
  · rw [List.getElem?_append_left hjk] at hj
    exact h.2 j c' q hj hq
  · have hj2 : j < row.length + 1 := by have := (List.getElem?_eq_some_iff.mp hj).1; simpa using this
    have : j = k := by omega
    subst this
    rw [List.getElem?_append_right (by omega), h.1, Nat.sub_self] at hj
    cases hj
    rw [hp] at hq
    cases hq
    exact ⟨h0, h1⟩
theorem encI_app (l : List Int) (x : Int) : encI (l ++ [x]) = encI l ++ [.int x] := by simp [encI]
end Dn
set_option maxHeartbeats 1000000
namespace Dn
open PySem PySem.Spec PyProof.Rows L2
def canTake (desk : List Int) (W : List (List Int)) (r : Nat) : Bool := desk.contains (r : Int) && !(W.getD r []).isEmpty
end Dn
set_option maxHeartbeats 1000000
namespace Dn
open PySem PySem.Spec PyProof.Rows L2
end Dn
set_option maxHeartbeats 1000000
namespace Dn
open PySem PySem.Spec PyProof.Rows L2
/-- the ranks ahead of the k-th with who came -/
def arrK (tick : Int) (row : List Int) (W : List (List Int)) (k : Nat) : List (List Int) := W.mapIdx fun r w => if r < k then w ++ List.replicate (row.getD r 0).toNat tick else w
theorem arrK_len (tick : Int) (row : List Int) (W : List (List Int)) (k : Nat) : (arrK tick row W k).length = W.length := by simp [arrK]
theorem arrK_get {tick : Int} {row : List Int} {W : List (List Int)} {k r : Nat} {w : List Int} (h : W[r]? = some w) : (arrK tick row W k)[r]? = some (if r < k then w ++ List.replicate (row.getD r 0).toNat tick else w) := by
  simp [arrK, h]
end Dn
set_option maxHeartbeats 1000000
namespace Dn
open PySem PySem.Spec PyProof.Rows L2
/-- whom the desk takes -/
def whom (n : Nat) (tick : Int) (desk : List Int) (W : List (List Int)) (a : Int) : Option Nat := if a ≤ tick then (List.range n).find? (canTake desk W) else none
/-- the run's state at a desk -/
structure DS where
  W : List (List Int)
  A : List Int
  T : List (List Int)
  tk : List (Option Nat)
def DS.step (rs : List (Int × Int)) (n : Nat) (tick : Int) (at' : Nat) (desk : List Int) (s : DS) : DS :=
  match whom n tick desk s.W (s.A.getD at' 0) with
  | none => { s with tk := s.tk ++ [none] }
  | some r => ⟨s.W.set r (s.W.getD r []).tail, s.A.set at' (tick + (rs.getD r (0, 0)).2), s.T.set r (s.T.getD r [] ++ [tick - (s.W.getD r []).headD 0]), s.tk ++ [some r]⟩
end Dn
set_option maxHeartbeats 1000000
namespace Dn
open PySem PySem.Spec PyProof.Rows L2
end Dn
set_option maxHeartbeats 1000000
namespace Dn
open PySem PySem.Spec PyProof.Rows L2
/-- the turns of the first k desks -/
def DS.steps (rs : List (Int × Int)) (n : Nat) (tick : Int) (desks : List (List Int)) (s : DS) : Nat → DS
  | 0 => s
  | k + 1 => (DS.steps rs n tick desks s k).step rs n tick k (desks.getD k [])
theorem step_len (rs : List (Int × Int)) (n : Nat) (tick : Int) (k : Nat) (desk : List Int) (s : DS) : (s.step rs n tick k desk).W.length = s.W.length ∧ (s.step rs n tick k desk).A.length = s.A.length ∧ (s.step rs n tick k desk).T.length = s.T.length ∧ (s.step rs n tick k desk).tk.length = s.tk.length + 1 := by
  unfold DS.step
  split <;> simp
theorem steps_len (rs : List (Int × Int)) (n : Nat) (tick : Int) (desks : List (List Int)) (s : DS) : ∀ k, (s.steps rs n tick desks k).W.length = s.W.length ∧ (s.steps rs n tick desks k).A.length = s.A.length ∧ (s.steps rs n tick desks k).T.length = s.T.length ∧ (s.steps rs n tick desks k).tk.length = s.tk.length + k
  | 0 => ⟨rfl, rfl, rfl, rfl⟩
  | k + 1 => by
    obtain ⟨h1, h2, h3, h4⟩ := steps_len rs n tick desks s k
    obtain ⟨k1, k2, k3, k4⟩ := step_len rs n tick k (desks.getD k []) (s.steps rs n tick desks k)
    exact ⟨k1.trans h1, k2.trans h2, k3.trans h3, by show (DS.step _ _ _ _ _ _).tk.length = _; rw [k4, h4]; omega⟩
theorem step_T {rs : List (Int × Int)} {n : Nat} {tick : Int} {k : Nat} {desk : List Int} {s : DS} {b : Nat} (h : ∀ t ∈ s.T, t.length ≤ b) : ∀ t ∈ (s.step rs n tick k desk).T, t.length ≤ b + 1 := by
  unfold DS.step
  split
  · exact fun t ht => Nat.le_succ_of_le (h t ht)
  · rename_i r _
    intro t ht
    rcases List.mem_or_eq_of_mem_set ht with h1 | h1
    · exact Nat.le_succ_of_le (h t h1)
    · subst h1
      rw [List.length_append]
      have : (s.T.getD r []).length ≤ b := by
        rw [List.getD_eq_getElem?_getD]
        cases hq : s.T[r]? with
        | none => exact Nat.zero_le _
        | some u => exact h u (List.mem_of_getElem? hq)
      simpa using this
theorem steps_T {rs : List (Int × Int)} {n : Nat} {tick : Int} {desks : List (List Int)} {s : DS} {b : Nat} (h : ∀ t ∈ s.T, t.length ≤ b) : ∀ k, ∀ t ∈ (s.steps rs n tick desks k).T, t.length ≤ b + k
  | 0 => h
  | k + 1 => fun t ht => step_T (steps_T h k) t ht
end Dn
set_option maxHeartbeats 1000000
namespace Dn
open PySem PySem.Spec PyProof.Rows L2
structure RnS where
  W : List (List Int)
  A : List Int
  T : List (List Int)
  B : List (List (Option Nat))
  L : List (List (List Int))
/-- the desks' turns at a tick -/
def RnS.desk (rs : List (Int × Int)) (n : Nat) (desks : List (List Int)) (tick : Int) (row : List Int) (s : RnS) : DS := DS.steps rs n tick desks ⟨arrK tick row s.W row.length, s.A, s.T, []⟩ desks.length
def RnS.tick (rs : List (Int × Int)) (n : Nat) (desks : List (List Int)) (tick : Int) (row : List Int) (s : RnS) : RnS :=
  ⟨(s.desk rs n desks tick row).W, (s.desk rs n desks tick row).A, (s.desk rs n desks tick row).T, s.B ++ [(s.desk rs n desks tick row).tk], s.L ++ [(s.desk rs n desks tick row).W]⟩
end Dn
set_option maxHeartbeats 1000000
namespace Dn
open PySem PySem.Spec PyProof.Rows L2
def RnS.runK (rs : List (Int × Int)) (n : Nat) (desks : List (List Int)) (coms : List (List Int)) (s : RnS) : Nat → RnS
  | 0 => s
  | k + 1 => (RnS.runK rs n desks coms s k).tick rs n desks k (coms.getD k [])
theorem step_W {rs : List (Int × Int)} {n : Nat} {tick : Int} {k : Nat} {desk : List Int} {s : DS} {b : Nat} (h : ∀ t ∈ s.W, t.length ≤ b) : ∀ t ∈ (s.step rs n tick k desk).W, t.length ≤ b := by
  unfold DS.step
  split
  · exact h
  · rename_i r _
    intro t ht
    rcases List.mem_or_eq_of_mem_set ht with h1 | h1
    · exact h t h1
    · subst h1
      rw [List.length_tail]
      have : (s.W.getD r []).length ≤ b := by
        rw [List.getD_eq_getElem?_getD]
        cases hq : s.W[r]? with
        | none => exact Nat.zero_le _
        | some u => exact h u (List.mem_of_getElem? hq)
      omega
theorem steps_W {rs : List (Int × Int)} {n : Nat} {tick : Int} {desks : List (List Int)} {s : DS} {b : Nat} (h : ∀ t ∈ s.W, t.length ≤ b) : ∀ k, ∀ t ∈ (s.steps rs n tick desks k).W, t.length ≤ b
  | 0 => h
  | k + 1 => step_W (steps_W h k)
theorem arrK_W {tick : Int} {row : List Int} {W : List (List Int)} {k b : Nat} (hw : ∀ w ∈ W, w.length ≤ b) (hc : ∀ c ∈ row, 0 ≤ c ∧ c ≤ 1000) : ∀ w ∈ arrK tick row W k, w.length ≤ b + 1000 := by
  intro w h
  obtain ⟨j, hj⟩ := List.mem_iff_getElem?.mp h
  have hjl : j < W.length := by rw [← arrK_len tick row W k]; exact (List.getElem?_eq_some_iff.mp hj).1
  have e := arrK_get (tick := tick) (row := row) (k := k) (List.getElem?_eq_getElem hjl)
  rw [e] at hj
  have hb := hw _ (List.getElem_mem hjl)
  cases hj
  split
  · rw [List.length_append, List.length_replicate]
    have : (row.getD j 0).toNat ≤ 1000 := by
      rw [List.getD_eq_getElem?_getD]
      cases hq : row[j]? with
      | none => exact Nat.zero_le _
      | some c =>
        have := hc c (List.mem_of_getElem? hq)
        show c.toNat ≤ 1000
        omega
    omega
  · omega
/-- what the run keeps -/
structure RnOk (n m k : Nat) (s : RnS) : Prop where
  w : s.W.length = n
  t : s.T.length = n
  a : s.A.length = m
  b : s.B.length = k
  l : s.L.length = k
  wb : ∀ w ∈ s.W, w.length ≤ 1000 * k
  tb : ∀ t ∈ s.T, t.length ≤ m * k
theorem RnOk.tick {rs : List (Int × Int)} {n k : Nat} {desks : List (List Int)} {tick : Int} {row : List Int} {s : RnS} (h : RnOk n desks.length k s) (hc : ∀ c ∈ row, 0 ≤ c ∧ c ≤ 1000) : RnOk n desks.length (k + 1) (s.tick rs n desks tick row) := by
  obtain ⟨l1, l2, l3, l4⟩ := steps_len rs n tick desks ⟨arrK tick row s.W row.length, s.A, s.T, []⟩ desks.length
  refine ⟨l1.trans ((arrK_len ..).trans h.w), l3.trans h.t, l2.trans h.a, by show (s.B ++ [_]).length = _; rw [List.length_append, h.b]; rfl, by show (s.L ++ [_]).length = _; rw [List.length_append, h.l]; rfl, fun w hw => ?_, fun t ht => ?_⟩
  · have := steps_W (rs := rs) (n := n) (tick := tick) (desks := desks) (s := ⟨arrK tick row s.W row.length, s.A, s.T, []⟩) (arrK_W h.wb hc) desks.length w hw
    omega
  · have := steps_T (rs := rs) (n := n) (tick := tick) (desks := desks) (s := ⟨arrK tick row s.W row.length, s.A, s.T, []⟩) h.tb desks.length t ht
    rw [Nat.mul_succ]
    exact this
theorem RnOk.runK {rs : List (Int × Int)} {n : Nat} {desks coms : List (List Int)} {s : RnS} (h : RnOk n desks.length 0 s) (hc : ∀ row ∈ coms, ∀ c ∈ row, 0 ≤ c ∧ c ≤ 1000) : ∀ k, RnOk n desks.length k (s.runK rs n desks coms k)
  | 0 => h
  | k + 1 => (RnOk.runK h hc k).tick (by
    rw [List.getD_eq_getElem?_getD]
    cases hq : coms[k]? with
    | none => intro c hc'; cases hc'
    | some row => exact hc row (List.mem_of_getElem? hq))
end Dn
set_option maxHeartbeats 1000000
namespace Dn
open PySem PySem.Spec PyProof.Rows L2
end Dn
set_option maxHeartbeats 1000000
namespace Dn
open PySem PySem.Spec PyProof.Rows L2
theorem sPars_ev {is : List Nat} {m : Mo (List (Option Nat × D))} {env e1 : DEnv} {its : List (Option Nat × D)} (h : m env = some (its, e1)) (hl : is.length = its.length) : sPars is m env = some (.nx (setE is its e1)) := by
  unfold sPars
  simp only [h, hl, if_pos]
def run0 (n m : Nat) : RnS := ⟨List.replicate n [], List.replicate m 0, List.replicate n [], [], []⟩
end Dn
set_option maxHeartbeats 1000000
namespace Dn
open PySem PySem.Spec PyProof.Rows L2
end Dn
set_option maxHeartbeats 1000000
namespace Dn
open PySem PySem.Spec PyProof.Rows L2
theorem gPow10 : gPow (.int 10) (.int 18) = some (.int 1000000000000000000) := by
  simp only [gPow, gInt]
  rw [if_pos (by decide)]
  rfl
end Dn
set_option maxHeartbeats 1000000
namespace Dn
open PySem PySem.Spec PyProof.Rows L2
theorem cut5 (mo : Nat) (ns : List Int) : ∃ l : List Int, cutD (encI ns) none (some (mo : Int)) = encI l ∧ l.length ≤ mo := by
  refine ⟨(ns.drop (HT.sIx (encI ns).length 0 none)).take (HT.sIx (encI ns).length (encI ns).length (some (mo : Int)) - HT.sIx (encI ns).length 0 none), by simp [cutD, encI, List.map_take, List.map_drop], ?_⟩
  rw [List.length_take]
  have : HT.sIx (encI ns).length (encI ns).length (some (mo : Int)) ≤ mo := by
    rw [HT.sIx_nat (encI ns).length (encI ns).length mo]
    exact Nat.min_le_left _ _
  omega
theorem gAdd_lists {xs ys : List D} {z : D} (h : gCat (.list xs) (.list ys) = some z) : gAdd (.list xs) (.list ys) = some z := by
  simp only [gAdd, gInt, h]
theorem small4000 {x : Int} (h : x.natAbs < 2 ^ 64) : x.natAbs < 2 ^ 4000 := Nat.lt_of_lt_of_le h (Nat.pow_le_pow_right (by decide) (by decide))
theorem gMulB_small {i j : Int} (h1 : i.natAbs < 2 ^ 64) (h2 : j.natAbs < 2 ^ 64) : gMulB (.int i) (.int j) = some (.int (i * j)) := by
  simp only [gMulB, gInt, if_pos (And.intro (small4000 h1) (small4000 h2)), Option.map_some]
end Dn
set_option maxHeartbeats 1000000
namespace Dn
open PySem PySem.Spec PyProof.Rows L2
theorem is_tuple_tup (xs : List D) (a b : Int) : F_is_tuple [.tuple xs, .int a, .int b] = some (.bool (decide (a ≤ (xs.length : Int)) && decide ((xs.length : Int) ≤ b))) := by
  simp [F_is_tuple, B_is_tuple, envOf, sSeq, sRet, mAndV, mMap, mBin, mBind, mLift, mRet, mVar, gIsTuple, gB, mChain, gLe, gCmp, gLen, mCons, outF]
  by_cases h : a ≤ (xs.length : Int) <;> simp [h, mRet, mBind, mLift, mVar]
end Dn
set_option maxHeartbeats 1000000
namespace Dn
open PySem PySem.Spec PyProof.Rows L2
end Dn
set_option maxHeartbeats 1000000
namespace Dn
open PySem PySem.Spec PyProof.Rows L2
end Dn
set_option maxHeartbeats 1000000
namespace Dn
open PySem PySem.Spec PyProof.Rows L2
end Dn
namespace Dn
/-- whom the j-th desk takes -/
def DS.who (rs : List (Int × Int)) (n : Nat) (tick : Int) (desks : List (List Int)) (s : DS) (j : Nat) : Option Nat := whom n tick (desks.getD j []) (s.steps rs n tick desks j).W (s.A.getD j 0)
/-- how many wait -/
def wl (W : List (List Int)) (r : Nat) : Int := ((W.getD r []).length : Int)
end Dn
namespace Dn
section
variable (rs : List (Int × Int)) (n : Nat) (desks coms : List (List Int))
abbrev sK (k : Nat) : RnS := (run0 n desks.length).runK rs n desks coms k
/-- the state ahead of the desks' turns at a tick -/
def dK (k : Nat) : DS := ⟨arrK k (coms.getD k []) (sK rs n desks coms k).W (coms.getD k []).length, (sK rs n desks coms k).A, (sK rs n desks coms k).T, []⟩
end
section
variable (rs : List (Int × Int)) (n : Nat) (desks coms : List (List Int))
variable {rs n desks coms}
end
end Dn
namespace Dn
/-- steps that go on: each no lower, and no more than most higher -/
def Chain (most : Int) : Int → Int → List (Int × Int) → Prop
  | _, _, [] => True
  | l, h, (l', h') :: s => l ≤ l' ∧ h' ≤ h + most ∧ l' ≤ h' ∧ Chain most l' h' s
theorem Chain.last {most : Int} : ∀ {s : List (Int × Int)} {l h : Int}, Chain most l h s → ∀ p, s.getLast? = some p → p.1 ≤ p.2
  | [], _, _, _, p, hp => by simp at hp
  | [q], _, _, hc, p, hp => by
    simp at hp
    subst hp
    exact hc.2.2.1
  | q :: q2 :: s, _, _, hc, p, hp => by
    rw [List.getLast?_cons_cons] at hp
    exact Chain.last (s := q2 :: s) hc.2.2.2 p hp
end Dn
namespace Dn
def sumTo : Nat → (Nat → Int) → Int
  | 0, _ => 0
  | n + 1, f => sumTo n f + f n
/-- the sum of the first ones -/
def S (w : List Int) (k : Nat) : Int := sumTo k fun i => w.getD i 0
end Dn
set_option maxHeartbeats 1000000
namespace Dn
open PySem PySem.Spec PyProof.Rows L2
theorem ev_ret {α : Type} {a : α} {env : DEnv} : mRet a env = some (a, env) := rfl
theorem ev_var {i : Nat} {env : DEnv} {d : D} (h : env[i]? = some (some (SV.fz d))) : mVar i env = some (d, env) := by unfold mVar; simp only [h]
def seqK (F' : So) (f : Fl) : Option Fl := match f with | .nx e1 => F' e1 | g => some g
theorem ev_seq {F F' : So} {env : DEnv} {f : Fl} {r : Option Fl} (h : F env = some f) (h2 : seqK F' f = r) : sSeq F F' env = r := by
  unfold sSeq
  rw [h]
  cases f <;> exact h2
theorem seqK_nx {F' : So} {e1 : DEnv} {r : Option Fl} (h : F' e1 = r) : seqK F' (.nx e1) = r := h
theorem seqK_rt {F' : So} {d : D} {e1 : DEnv} {r : Option Fl} (h : some (Fl.rt d e1) = r) : seqK F' (.rt d e1) = r := h
theorem seqK_bk {F' : So} {e1 : DEnv} {r : Option Fl} (h : some (Fl.bk e1) = r) : seqK F' (.bk e1) = r := h
theorem seqK_ct {F' : So} {e1 : DEnv} {r : Option Fl} (h : some (Fl.ct e1) = r) : seqK F' (.ct e1) = r := h
theorem ev_if {c : Mo Bool} {F F' : So} {env e1 : DEnv} {k : Bool} {r : Option Fl} (h : c env = some (k, e1)) (h2 : (if k = true then F e1 else F' e1) = r) : sIf c F F' env = r := by
  unfold sIf
  simp only [h]
  exact h2
theorem ev_mif {α : Type} {c : Mo Bool} {m n : Mo α} {env e1 : DEnv} {k : Bool} {r : Option (α × DEnv)} (h : c env = some (k, e1)) (h2 : (if k = true then m e1 else n e1) = r) : mIf c m n env = r := (mIf_ev h).trans h2
theorem ev_and {m n : Mo Bool} {env e1 : DEnv} {k : Bool} {r : Option (Bool × DEnv)} (h : m env = some (k, e1)) (h2 : (if k = true then n e1 else some (false, e1)) = r) : mAnd m n env = r := by
  unfold mAnd mBind
  rw [h]
  cases k <;> exact h2
theorem ev_or {m n : Mo Bool} {env e1 : DEnv} {k : Bool} {r : Option (Bool × DEnv)} (h : m env = some (k, e1)) (h2 : (if k = true then some (true, e1) else n e1) = r) : mOr m n env = r := by
  unfold mOr mBind
  rw [h]
  cases k <;> exact h2
theorem ev_not {m : Mo Bool} {env e1 : DEnv} {k : Bool} (h : m env = some (k, e1)) : mNot m env = some (!k, e1) := by
  unfold mNot mBind
  rw [h]
  rfl
theorem ev_andv {m n : Mo D} {env e1 : DEnv} {k : Bool} {r : Option (D × DEnv)} (h : m env = some (.bool k, e1)) (h2 : (if k = true then n e1 else some (.bool false, e1)) = r) : mAndV m n env = r := by
  unfold mAndV mBind
  rw [mMap_ev h (z := k) rfl]
  cases k <;> exact h2
theorem ev_chain {g g' : D → D → Option D} {m n l : Mo D} {env e1 e2 : DEnv} {x y z : D} {k k2 : Bool} (h1 : m env = some (x, e1)) (h2 : n e1 = some (y, e2)) (h3 : g x y = some (.bool k)) (h4 : l e2 = some (z, e2)) (h5 : g' y z = some (.bool k2)) :
    mChain g g' m n l env = some (k && k2, e2) := by
  unfold mChain mBind
  rw [h1]
  simp only [h2, mMap, mBind, mLift, h3, Option.map_some]
  cases k
  · rfl
  · simp only [gB, if_pos, h4, h5]
    rfl
theorem ev_chain3 {g g' g2 : D → D → Option D} {m n l o : Mo D} {env e1 e2 : DEnv} {x y z w : D} {k k2 k3 : Bool} (h1 : m env = some (x, e1)) (h2 : n e1 = some (y, e2)) (h3 : g x y = some (.bool k)) (h4 : l e2 = some (z, e2)) (h5 : g' y z = some (.bool k2)) (h6 : o e2 = some (w, e2)) (h7 : g2 z w = some (.bool k3)) :
    mChain3 g g' g2 m n l o env = some (.bool (k && k2 && k3), e2) := by
  unfold mChain3 mBind
  rw [h1]
  simp only [h2, mMap, mBind, mLift, h3, Option.map_some]
  cases k
  · rfl
  · simp only [gB, if_pos, h4, h5]
    cases k2
    · rfl
    · simp only [gB, if_pos, h6, h7]
      rfl
theorem ev_put {i j : Nat} {k m : Mo D} {env e2 : DEnv} {io : Bool} {ds : List D} {d : D} (h0 : ownAt env i = some (io, ds)) (hm : m env = some (d, env)) (h1 : k env = some (.int j, env)) (hj : j < ds.length) (h2 : env.set i (some (.ow io 0 (.list (ds.set j d)))) = e2) : sPut i k m env = some (.nx e2) := by
  rw [← h2]
  unfold sPut
  simp only [hm, h0, h1, Evl.ixN_nat hj]
theorem ite_t {α : Type} {k : Bool} {a b r : α} (h : k = true) (h2 : a = r) : (if k = true then a else b) = r := by rw [if_pos h]; exact h2
theorem ite_f {α : Type} {k : Bool} {a b r : α} (h : k = false) (h2 : b = r) : (if k = true then a else b) = r := by rw [if_neg (by rw [h]; decide)]; exact h2
theorem ev_set {i : Nat} {m : Mo D} {env e1 e2 : DEnv} {d : D} (h : m env = some (d, e1)) (h2 : e1.set i (some (SV.fz d)) = e2) : sSet i m env = some (.nx e2) := by rw [sSet_ev h, h2]
theorem ev_setN {i k : Nat} {m : Mo D} {env e1 e2 : DEnv} {d : D} (h : m env = some (d, e1)) (h2 : e1.set i (some (SV.ow false k d)) = e2) : sSetN i k m env = some (.nx e2) := by
  unfold sSetN
  rw [h]
  rw [← h2]
theorem ev_aug {i : Nat} {g : D → D → Option D} {m : Mo D} {env e1 e2 : DEnv} {x y z : D} (h0 : env[i]? = some (some (SV.fz x))) (h : m env = some (y, e1)) (h1 : g x y = some z) (h2 : e1.set i (some (SV.fz z)) = e2) : sAug i g m env = some (.nx e2) := by
  unfold sAug
  simp only [h0, h, h1, h2]
theorem ev_frz {i : Nat} {F : So} {env e1 : DEnv} {io : Bool} {k : Nat} {d : D} {r : Option Fl} (h0 : env[i]? = some (some (SV.ow io k d))) (h1 : env.set i (some (SV.fz d)) = e1) (h2 : F e1 = r) : sFrz i F env = r := by
  unfold sFrz
  simp only [h0, h1, h2]
theorem ev_drop {α : Type} {m : Mo α} {env e1 : DEnv} {x : α} (h : m env = some (x, e1)) : sDrop m env = some (.nx e1) := by
  unfold sDrop
  rw [h]
theorem ev_app {i : Nat} {m : Mo D} {env e1 e2 : DEnv} {io : Bool} {ds : List D} {d : D} {p : Bool × List D} (h0 : ownAt env i = some p) (h : m env = some (d, e1)) (h1 : ownAt e1 i = some (io, ds)) (hl : ds.length < 100000) (h2 : e1.set i (some (.ow io 0 (.list (ds ++ [d])))) = e2) : sApp i m env = some (.nx e2) := by
  rw [sApp_ev ⟨p, h0⟩ h h1 hl, h2]
theorem ev_lend {m : Mo D} {env e0 e1 : DEnv} {d : D} (h0 : lendE env = e0) (h : m e0 = some (d, e1)) (f : flatD d = true) : mLend m env = some (d, env) := mLend_ev (h0 ▸ h) f
theorem ev_lendT {m : Mo Bool} {env e0 e1 : DEnv} {d : Bool} (h0 : lendE env = e0) (h : m e0 = some (d, e1)) : mLendT m env = some (d, env) := mLendT_ev (h0 ▸ h)
theorem ev_for {items : Mo (List D)} {tgt : D → DEnv → Option DEnv} {body : So} {env e1 : DEnv} {ds : List D} {r : Option Fl} (h1 : items env = some (ds, e1)) (h2 : forGo tgt body ds e1 = r) : sFor items tgt body env = r := (sFor_ev h1).trans h2
theorem restGo_wipe (vs : List Nat) : ∀ (e : DEnv) (k : Nat), restGo vs k e (wipeGo vs k e) = e
  | [], _ => rfl
  | s :: e, k => by
    rw [wipeGo, restGo, restGo_wipe vs e (k + 1)]
    split <;> rfl
theorem ev_lc {items : Mo (List D)} {tgt : D → DEnv → Option DEnv} {test : Mo Bool} {elt : Mo D} {vs : List Nat} {env e1 : DEnv} {ds ys : List D} (h1 : items env = some (ds, e1)) (h3 : okW e1 vs = true) (h4 : lcGo tgt test elt vs ds (wipeD e1 vs) = some (ys, wipeD e1 vs)) (h2 : ds.length ≤ 100000) :
    mLc items tgt test elt vs env = some (ys, e1) := by rw [mLc_ev h1 h2 h3 h4, restD, wipeD, restGo_wipe]
theorem ev_len {n : Nat} {F : List D → Option D} {ds : List D} {z : D} (h : ds.length = n) (h2 : F ds = some z) : lenIs n F ds = some z := (if_pos h).trans h2
theorem ev_sl {m : Mo D} {l h : Mo (Option Int)} {env e1 e2 e3 : DEnv} {x z : D} {lo hi : Option Int} (h1 : m env = some (x, e1)) (h2 : l e1 = some (lo, e2)) (h3 : h e2 = some (hi, e3)) (h4 : gSl x lo hi = some z) : mSl m l h env = some (z, e3) := by
  simp [mSl, mBind, mLift, h1, h2, h3, h4]
theorem ev_star {m : Mo D} {n : Mo (List D)} {env e1 e2 : DEnv} {x : D} {xs ys : List D} (h1 : m env = some (x, e1)) (h0 : gSeq x = some xs) (h2 : n e1 = some (ys, e2)) : mStar m n env = some (xs ++ ys, e2) := by
  simp [mStar, mMap, mBind, mLift, mRet, h1, h0, h2]
theorem ev_nil {env : DEnv} : sNil env = some (.nx env) := rfl
theorem ev_tup {m : Mo D} {t : D → DEnv → Option DEnv} {env e1 e2 : DEnv} {d : D} (h : m env = some (d, e1)) (h2 : t d e1 = some e2) : sTup m t env = some (.nx e2) := by
  unfold sTup
  rw [h]
  show (t d e1).map Fl.nx = _
  rw [h2]
  rfl
theorem ev_fin {a b : Fl} (h : a = b) : some a = some b := congrArg some h
theorem ev_bk {env : DEnv} : (fun env : DEnv => some (Fl.bk env)) env = some (.bk env) := rfl
theorem ev_pars {is : List Nat} {m : Mo (List (Option Nat × D))} {env e1 e2 : DEnv} {its : List (Option Nat × D)} (h : m env = some (its, e1)) (hl : is.length = its.length) (h2 : setE is its e1 = e2) : sPars is m env = some (.nx e2) := by rw [sPars_ev h hl, h2]
theorem ev_io {i k : Nat} {F' : Mo (List AR)} {env e1 : DEnv} {io : Bool} {d : D} {ars : List AR} (h0 : env[i]? = some (some (SV.ow io k d))) (h : F' env = some (ars, e1)) : mIo i F' env = some (AR.io i :: ars, e1) := by
  unfold mIo
  simp only [h0]
  exact mCons_ev rfl h
theorem ev_callIO {ms : Ms} {F : List D → Option (D × List D)} {m : Mo (List AR)} {env e1 e2 : DEnv} {ars : List AR} {i k : Nat} {io : Bool} {ds : List D} {z o d : D} (h : m env = some (ars, e1)) (hn : iosOf ars = [i]) (h0 : e1[i]? = some (some (SV.ow io k d))) (h2 : argsOf ms ars e1 = some ds) (h3 : F ds = some (z, [o])) (h4 : putOuts ms ars [o] e1 = some (e1.set i (some (SV.ow io k o)))) (h5 : e1.set i (some (SV.ow io k o)) = e2) : mCallIO ms F m env = some (z, e2) := by
  unfold mCallIO
  have hnd : [i].Nodup := by simp
  simp only [h, hn, h2, h3, h4, hnd, if_true, Option.map_some, h5]
theorem ev_gnm {i : Nat} {d : D} {env e1 : DEnv} (h : env.set i (some (SV.fz d)) = e1) : gNm i d env = some e1 := by rw [← h]; rfl
theorem ev_tu {n : Nat} {Bs : List D → DEnv → Option DEnv} {ds : List D} {env e1 : DEnv} (h : ds.length = n) (h2 : Bs ds env = some e1) : gTu n Bs (.tuple ds) env = some e1 := (if_pos h).trans h2
theorem ev_gcons {B : D → DEnv → Option DEnv} {Bs : List D → DEnv → Option DEnv} {d : D} {ds : List D} {env e1 e2 : DEnv} (h : B d env = some e1) (h2 : Bs ds e1 = some e2) : gsCons B Bs (d :: ds) env = some e2 := by
  unfold gsCons
  simp only [h, h2]
theorem ev_gnil {env : DEnv} : gsNil [] env = some env := rfl
theorem ev_outF {B : So} {env e1 : DEnv} {d : D} (h : B env = some (.rt d e1)) : outF (B env) = some d := by rw [h]; rfl
theorem gSub_int (i j : Int) : gSub (.int i) (.int j) = some (.int (i - j)) := rfl
theorem gIAdd_int (i j : Int) : gIAdd (.int i) (.int j) = some (.int (i + j)) := rfl
theorem gLt_int (i j : Int) : gLt (.int i) (.int j) = some (.bool (decide (i < j))) := rfl
theorem gLe_int (i j : Int) : gLe (.int i) (.int j) = some (.bool (decide (i ≤ j))) := rfl
theorem gGt_int (i j : Int) : gGt (.int i) (.int j) = some (.bool (decide (j < i))) := rfl
theorem gGe_int (i j : Int) : gGe (.int i) (.int j) = some (.bool (decide (j ≤ i))) := rfl
theorem gEq_int (i j : Int) : gEq (.int i) (.int j) = some (.bool (i == j)) := rfl
theorem gNe_int (i j : Int) : gNe (.int i) (.int j) = some (.bool (!(i == j))) := rfl
theorem gIxt0 (x : D) (xs : List D) : gIx (.tuple (x :: xs)) (.int 0) = some x := atI_0 x xs
theorem gIxt1 (x y : D) (xs : List D) : gIx (.tuple (x :: y :: xs)) (.int 1) = some y := atI_1 x y xs
theorem gIxl0 (x : D) (xs : List D) : gIx (.list (x :: xs)) (.int 0) = some x := atI_0 x xs
theorem gIxl1 (x y : D) (xs : List D) : gIx (.list (x :: y :: xs)) (.int 1) = some y := atI_1 x y xs
theorem gIx_tn {xs : List D} {k : Nat} {x : D} (h : xs[k]? = some x) : gIx (.tuple xs) (.int k) = some x := atI_nat h
theorem ev_while {c : Mo Bool} {body : So} {env : DEnv} {r : Option Fl} (h : whileGo c body 1000000 env = r) : sWhile c body env = r := h
theorem gIx_ln {xs : List D} {k : Nat} {x : D} (h : xs[k]? = some x) : gIx (.list xs) (.int k) = some x := atI_nat h
end Dn
namespace Dn
open PySem PySem.Spec PyProof.Rows L2
abbrev T_are_whole_1 : D → DEnv → Option DEnv := (gNm 1)
abbrev L_are_whole_1 : So := (sSeq (sIf (mAnd (mMap gB (mMap gTyNotInt (mVar 1))) (mNot (mMap gTru (mMap (lenIs 1 F_is_whole) (mCons (mVar 1) (mRet [])))))) (sSeq (sRet (mRet (.bool false)))
    sNil) sNil)
    sNil)
abbrev T__are_desks_1 : D → DEnv → Option DEnv := (gNm 2)
abbrev L__are_desks_1 : So := (sSeq (sIf (mOr (mNot (mMap gTru (mMap gIsTuple (mVar 2)))) (mNot (mMap gTru (mVar 2)))) (sSeq (sRet (mRet (.bool false)))
    sNil) sNil)
    (sSeq (sSet 3 (mRet (.int 0)))
    (sSeq (sFor (mMap gSeq (mVar 2)) (gNm 4) (sSeq (sIf (mOr (mAnd (mMap gB (mMap gTyNotInt (mVar 4))) (mNot (mMap gTru (mMap (lenIs 1 F_is_whole) (mCons (mVar 4) (mRet [])))))) (mNot (mChain gLe gLt (mVar 3) (mVar 4) (mVar 1)))) (sSeq (sRet (mRet (.bool false)))
    sNil) sNil)
    (sSeq (sSet 3 (mBin gAdd (mVar 4) (mRet (.int 1))))
    sNil)))
    sNil)))
abbrev T__are_desks_2 : D → DEnv → Option DEnv := (gNm 4)
abbrev L__are_desks_2 : So := (sSeq (sIf (mOr (mAnd (mMap gB (mMap gTyNotInt (mVar 4))) (mNot (mMap gTru (mMap (lenIs 1 F_is_whole) (mCons (mVar 4) (mRet [])))))) (mNot (mChain gLe gLt (mVar 3) (mVar 4) (mVar 1)))) (sSeq (sRet (mRet (.bool false)))
    sNil) sNil)
    (sSeq (sSet 3 (mBin gAdd (mVar 4) (mRet (.int 1))))
    sNil))
abbrev T__are_ranks_1 : D → DEnv → Option DEnv := (gNm 1)
abbrev L__are_ranks_1 : So := (sSeq (sIf (mOr (mNot (mMap gTru (mMap gIsTuple (mVar 1)))) (mOr (mMap gB (mBin gNe (mMap gLen (mCons (mVar 1) (mRet []))) (mRet (.int 2)))) (mNot (mMap gTru (mMap (lenIs 1 F_are_whole) (mCons (mVar 1) (mRet []))))))) (sSeq (sRet (mRet (.bool false)))
    sNil) sNil)
    (sSeq (sTup (mVar 1) (gTu 2 (gsCons (gNm 2) (gsCons (gNm 3) gsNil))))
    (sSeq (sIf (mOr (mNot (mChain gLe gLe (mRet (.int 1)) (mVar 2) (mRet (.int (5))))) (mNot (mChain gLe gLe (mRet (.int 1)) (mVar 3) (mRet (.int (10)))))) (sSeq (sRet (mRet (.bool false)))
    sNil) sNil)
    sNil)))
end Dn
namespace Dn
open PySem PySem.Spec PyProof.Rows L2
abbrev T__law_good_1 : D → DEnv → Option DEnv := (gNm 1)
abbrev L__law_good_1 : So := (sSeq (sIf (mOr (mNot (mMap gTru (mMap gIsTuple (mVar 1)))) (mOr (mMap gB (mBin gNe (mMap gLen (mCons (mVar 1) (mRet []))) (mRet (.int 2)))) (mOr (mNot (mMap gTru (mMap (lenIs 3 F__law_in) (mCons (mBin gIx (mVar 1) (mRet (.int 0))) (mCons (mRet (.int 1)) (mCons (mRet (.int 5)) (mRet []))))))) (mNot (mMap gTru (mMap (lenIs 3 F__law_in) (mCons (mBin gIx (mVar 1) (mRet (.int 1))) (mCons (mRet (.int 1)) (mCons (mRet (.int 10)) (mRet [])))))))))) (sSeq (sRet (mRet (.bool false)))
    sNil) sNil)
    sNil)
abbrev T__law_good_2 : D → DEnv → Option DEnv := (gNm 2)
abbrev L__law_good_2 : So := (sSeq (sIf (mOr (mNot (mMap gTru (mMap gIsTuple (mVar 2)))) (mMap gB (mBin gEq (mVar 2) (mMap gTup (mRet []))))) (sSeq (sRet (mRet (.bool false)))
    sNil) sNil)
    (sSeq (sSet 3 (mMap gNeg (mRet (.int 1))))
    (sSeq (sFor (mMap gSeq (mVar 2)) (gNm 4) (sSeq (sIf (mNot (mMap gTru (mMap (lenIs 3 F__law_in) (mCons (mVar 4) (mCons (mBin gAdd (mVar 3) (mRet (.int 1))) (mCons (mBin gSub (mMap gLen (mCons (mBin gIx (mVar 0) (mRet (.int 0))) (mRet []))) (mRet (.int 1))) (mRet []))))))) (sSeq (sRet (mRet (.bool false)))
    sNil) sNil)
    (sSeq (sSet 3 (mVar 4))
    sNil)))
    sNil)))
abbrev T__law_good_3 : D → DEnv → Option DEnv := (gNm 4)
abbrev L__law_good_3 : So := (sSeq (sIf (mNot (mMap gTru (mMap (lenIs 3 F__law_in) (mCons (mVar 4) (mCons (mBin gAdd (mVar 3) (mRet (.int 1))) (mCons (mBin gSub (mMap gLen (mCons (mBin gIx (mVar 0) (mRet (.int 0))) (mRet []))) (mRet (.int 1))) (mRet []))))))) (sSeq (sRet (mRet (.bool false)))
    sNil) sNil)
    (sSeq (sSet 3 (mVar 4))
    sNil))
abbrev L_law_1 : So := (sSeq (sSet 2 (mCallIO [some 0, none, none, none, none, none] F__law_hall (mIo 1 (mCons (mMap (fun d => some (AR.fz d)) (mRet (.int 4))) (mCons (mMap (fun d => some (AR.fz d)) (mRet (.int 3))) (mCons (mMap (fun d => some (AR.fz d)) (mRet (.int 5))) (mCons (mMap (fun d => some (AR.fz d)) (mRet (.int 10))) (mCons (mMap (fun d => some (AR.fz d)) (mRet (.bool false))) (mRet [])))))))))
    (sSeq (sTup (mVar 2) (gTu 2 (gsCons (gNm 3) (gsCons (gNm 4) gsNil))))
    (sSeq (sSet 5 (mMap gLst (mCons (mVar 2) (mCons (mMap gList (mCons (mVar 2) (mRet []))) (mCons (mMap gTup (mCons (mMap gList (mCons (mVar 3) (mRet []))) (mCons (mVar 4) (mRet [])))) (mCons (mMap gTup (mCons (mVar 3) (mCons (mMap gList (mCons (mVar 4) (mRet []))) (mRet [])))) (mCons (mMap gTup (mCons (mBin gRepT (mVar 3) (mRet (.int 5))) (mCons (mVar 4) (mRet [])))) (mCons (mMap gTup (mCons (mMap gTup (mRet [])) (mCons (mVar 4) (mRet [])))) (mRet [])))))))))
    (sSeq (sSet 5 (mBin gAdd (mVar 5) (mMap gLst (mCons (mMap gTup (mCons (mVar 3) (mCons (mBin gRepT (mVar 4) (mRet (.int 4))) (mRet [])))) (mCons (mMap gTup (mCons (mVar 3) (mCons (mMap gTup (mRet [])) (mRet [])))) (mCons (mMap gTup (mCons (mVar 3) (mCons (mMap gTup (mCons (mMap gTup (mRet [])) (mRet []))) (mRet [])))) (mCons (mMap gTup (mCons (mVar 3) (mCons (mMap gTup (mCons (mMap gTup (mCons (mMap gLen (mCons (mVar 3) (mRet []))) (mRet []))) (mRet []))) (mRet [])))) (mCons (mMap gTup (mCons (mVar 3) (mCons (mMap gTup (mCons (mMap gTup (mCons (mRet (.int 0)) (mCons (mRet (.int 0)) (mRet [])))) (mRet []))) (mRet [])))) (mRet [])))))))))
    (sSeq (sSet 6 (mMap gTup (mCons (mMap gTup (mCons (mRet (.int 0)) (mRet []))) (mRet []))))
    (sSeq (sSet 5 (mBin gAdd (mVar 5) (mMap gLst (mCons (mMap gTup (mCons (mMap gTup (mCons (mMap gTup (mCons (mRet (.int 5)) (mCons (mRet (.int 10)) (mRet [])))) (mRet []))) (mCons (mVar 6) (mRet [])))) (mCons (mMap gTup (mCons (mMap gTup (mCons (mMap gTup (mCons (mRet (.int 6)) (mCons (mRet (.int 1)) (mRet [])))) (mRet []))) (mCons (mVar 6) (mRet [])))) (mCons (mMap gTup (mCons (mMap gTup (mCons (mMap gTup (mCons (mRet (.int 1)) (mCons (mRet (.int 11)) (mRet [])))) (mRet []))) (mCons (mVar 6) (mRet [])))) (mCons (mMap gTup (mCons (mMap gTup (mCons (mMap gTup (mCons (mRet (.int 0)) (mCons (mRet (.int 1)) (mRet [])))) (mRet []))) (mCons (mVar 6) (mRet [])))) (mRet []))))))))
    (sSeq (sSet 5 (mBin gAdd (mVar 5) (mMap gLst (mCons (mMap gTup (mCons (mMap gTup (mCons (mMap gTup (mCons (mRet (.int 1)) (mCons (mRet (.int 1)) (mCons (mRet (.int 1)) (mRet []))))) (mRet []))) (mCons (mVar 6) (mRet [])))) (mCons (mBin gAdd (mVar 2) (mMap gTup (mCons (mMap gTup (mRet [])) (mRet [])))) (mRet []))))))
    (sSeq (sSet 7 (mCallIO [some 0, none] F__law_odd (mIo 1 (mCons (mMap (fun d => some (AR.fz d)) (mVar 2)) (mRet [])))))
    (sSeq (sFor (mMap gSeq (mBin gAdd (mBin gAdd (mVar 5) (mMap gLst (mCons (mVar 7) (mCons (mCallIO [some 0, none] F__law_odd (mIo 1 (mCons (mMap (fun d => some (AR.fz d)) (mVar 7)) (mRet [])))) (mRet []))))) (mMap (fun ds => some (.list ds)) (mLc (mMap gRg1 (mCons (mRet (.int 12)) (mRet []))) (gNm 10) (mRet true) (mCallIO [some 0, none] F__law_odd (mIo 1 (mCons (mMap (fun d => some (AR.fz d)) (mVar 2)) (mRet [])))) [10])))) (gNm 8) (sSeq (sSet 9 (mMap (lenIs 1 F__law_good) (mCons (mVar 8) (mRet []))))
    (sSeq (sIf (mNot (mMap gTru (mMap (lenIs 2 F__law_same) (mCons (mMap (lenIs 1 F_is_hall) (mCons (mVar 8) (mRet []))) (mCons (mVar 9) (mRet [])))))) (sSeq (sRet (mRet (.bool false)))
    sNil) sNil)
    (sSeq (sIf (mAnd (mNot (mMap gTru (mVar 9))) (mNot (mRefused 8))) (sSeq (sRet (mRet (.bool false)))
    sNil) sNil)
    sNil))))
    sNil)))))))))
abbrev T_law_2 : D → DEnv → Option DEnv := (gNm 8)
abbrev L_law_2 : So := (sSeq (sSet 9 (mMap (lenIs 1 F__law_good) (mCons (mVar 8) (mRet []))))
    (sSeq (sIf (mNot (mMap gTru (mMap (lenIs 2 F__law_same) (mCons (mMap (lenIs 1 F_is_hall) (mCons (mVar 8) (mRet []))) (mCons (mVar 9) (mRet [])))))) (sSeq (sRet (mRet (.bool false)))
    sNil) sNil)
    (sSeq (sIf (mAnd (mNot (mMap gTru (mVar 9))) (mNot (mRefused 8))) (sSeq (sRet (mRet (.bool false)))
    sNil) sNil)
    sNil)))
abbrev CT_law_1 : D → DEnv → Option DEnv := (gNm 10)
abbrev CC_law_1 : Mo Bool := (mRet true)
abbrev CE_law_1 : Mo D := (mCallIO [some 0, none] F__law_odd (mIo 1 (mCons (mMap (fun d => some (AR.fz d)) (mVar 2)) (mRet []))))
end Dn
set_option maxHeartbeats 1000000
namespace Dn
open PySem PySem.Spec PyProof.Rows L2
theorem well_okN {cell : Int} {turn : Nat} (ht : turn ≤ 15000) : ∃ d, F__law_well [.int cell, .int turn] = some d ∧ Bag 15000 d := by
  by_cases hc : (1000000000000000000 : Int) ≤ cell
  · refine ⟨.list [.int (cell - 1000000000000000000), .int (cell % 2305843009213693951), .int turn], ?_, ⟨_, _, _, rfl, Int.emod_nonneg _ (by decide), Int.emod_lt_of_pos _ (by decide), by omega, by omega⟩⟩
    simp [F__law_well, B__law_well, envOf, rIf, rRet, outN, mMap, mBin, mBind, mLift, mRet, mVar, gPow10, gGe, gCmp, gB, hc, mCons, gLst, gSub, gMod, gInt]
  · refine ⟨.list [.int 0, .int (cell % 2305843009213693951), .int turn], ?_, ⟨_, _, _, rfl, Int.emod_nonneg _ (by decide), Int.emod_lt_of_pos _ (by decide), by omega, by omega⟩⟩
    simp [F__law_well, B__law_well, envOf, rIf, rRet, outN, mMap, mBin, mBind, mLift, mRet, mVar, gPow10, gGe, gCmp, gB, hc, mCons, gLst, gSub, gMod, gInt]
theorem bags_okN {mo : Nat} (hmo : mo ≤ 12) (ns : List Int) : ∃ bs : List D, F__law_bags [.dict [(.none, .list (encI ns))], .int (mo : Nat)] = some (.list bs) ∧ ∀ b ∈ bs, Bag 15000 b := by
  obtain ⟨l, hl, hl5⟩ := cut5 mo ns
  have g1 : mBin gAdd (mSl (mVar 0) (mRet none) (mMap (fun d => (gI d).map some) (mVar 1))) (mMap gLst (mCons (mRet (.int 0)) (mRet []))) [some (SV.fz (.dict [(.none, .list (encI ns))])), some (SV.fz (.int (mo : Nat))), none, none] = some (.list (encI (l ++ [0])), [some (SV.fz (.dict [(.none, .list (encI ns))])), some (SV.fz (.int (mo : Nat))), none, none]) := by
    refine mBin_ev (x := .list (encI l)) (y := .list [.int 0]) ?_ rfl ?_
    · rw [← hl]
      rfl
    · refine gAdd_lists ?_
      simp only [gCat]
      rw [if_pos (by rw [List.length_map]; simp; omega), encI_app]
  have hL := lcGo_all (tgt := gTu 2 (gsCons (gNm 2) (gsCons (gNm 3) gsNil))) (test := mRet true) (elt := mMap (lenIs 2 F__law_well) (mCons (mVar 3) (mCons (mBin gMulB (mRet (.int 977)) (mVar 2)) (mRet [])))) (vs := [2, 3]) (fun _ e => e = [some (SV.fz (.dict [(.none, .list (encI ns))])), some (SV.fz (.int (mo : Nat))), none, none]) (fun _ y => Bag 15000 y) (enumD 0 (encI (l ++ [0]))) 0
    (wipeD [some (SV.fz (.dict [(.none, .list (encI ns))])), some (SV.fz (.int (mo : Nat))), none, none] [2, 3]) rfl (fun m d e hd _ he => by
      subst he
      obtain ⟨j, hj⟩ := List.mem_iff_getElem?.mp hd
      obtain ⟨x, hx, rfl⟩ := enumD_get 0 _ j d hj
      have hjl : j < 14 := by
        have := (List.getElem?_eq_some_iff.mp hj).1
        rw [enumD_len, List.length_map, List.length_append] at this
        simp at this
        omega
      rw [List.getElem?_map] at hx
      cases hc : (l ++ [0])[j]? with
      | none => rw [hc] at hx; cases hx
      | some c =>
        rw [hc] at hx
        cases hx
        rw [Nat.zero_add]
        have e64 : (2 : Nat) ^ 64 = 18446744073709551616 := by decide
        obtain ⟨y, hy, hb⟩ := well_okN (cell := c) (turn := 977 * j) (by omega)
        have gm := gMulB_small (i := 977) (j := (j : Int)) (by omega) (by omega)
        rw [show (977 : Int) * (j : Int) = ((977 * j : Nat) : Int) by omega] at gm
        exact ⟨_, _, y, _, rfl, rfl, mMap_ev (x := [.int c, .int ((977 * j : Nat) : Int)]) (mCons_ev (m := mVar 3) rfl (mCons_ev (mBin_ev (m := mRet (.int 977)) rfl (n := mVar 2) rfl gm) (n := mRet []) rfl)) ((if_pos (show [PyData.int c, PyData.int ((977 * j : Nat) : Int)].length = 2 from rfl)).trans hy), hb, rfl⟩)
  obtain ⟨ys, e', h1, he', hys⟩ := hL
  subst he'
  refine ⟨ys, ?_, fun b hb => ?_⟩
  · unfold F__law_bags B__law_bags
    have hi : mMap gEnum (mCons (mBin gAdd (mSl (mVar 0) (mRet none) (mMap (fun d => (gI d).map some) (mVar 1))) (mMap gLst (mCons (mRet (.int 0)) (mRet [])))) (mRet [])) [some (SV.fz (.dict [(.none, .list (encI ns))])), some (SV.fz (.int (mo : Nat))), none, none] = some (enumD 0 (encI (l ++ [0])), _) := mMap_ev (x := [.list (encI (l ++ [0]))]) (mCons_ev g1 (n := mRet []) rfl) rfl
    have := mLc_ev hi (by rw [enumD_len, List.length_map, List.length_append]; simp; omega) rfl h1
    rw [show envOf ["script", "most", "k", "cell"] [.dict [(.none, .list (encI ns))], .int (mo : Nat)] = [some (SV.fz (.dict [(.none, .list (encI ns))])), some (SV.fz (.int (mo : Nat))), none, none] from rfl]
    unfold rRet
    rw [mMap_ev (g := fun ds => some (PyData.list ds)) this rfl]
    rfl
  · obtain ⟨j, hj⟩ := List.mem_iff_getElem?.mp hb
    have hjl : j < (enumD 0 (encI (l ++ [0]))).length := by rw [Paired.length hys]; exact (List.getElem?_eq_some_iff.mp hj).1
    obtain ⟨y, hy, hB⟩ := LiI.paired_get hys (List.getElem?_eq_getElem hjl)
    rw [hj] at hy
    cases hy
    exact hB
end Dn
set_option maxHeartbeats 1000000
namespace Dn
open PySem PySem.Spec PyProof.Rows L2
theorem hall_okm {n : Nat} {bag : D} (hb : Bag n bag) (hn : n + 100 < 1000000) {R K : Nat} {m s : Int} (hR : 1 ≤ R ∧ R ≤ 4) (hK : 1 ≤ K ∧ K ≤ 10) (hm : 1 ≤ m ∧ m ≤ 5) (hs : 1 ≤ s ∧ s ≤ 10) :
    ∃ (h : Hall) (bag' : D), F__law_hall [bag, .int R, .int K, .int m, .int s, .bool false] = some (encH h, [bag']) ∧ h.Ok R K ∧ (∀ p ∈ h.ranks, p.1 ≤ m) ∧ Bag (n + 100) bag' := by
  unfold F__law_hall B__law_hall
  rw [show envIO ["bag", "ranks1", "desks1", "most", "stay1", "alike", "many", "one", "ranks", "rank", "desks", "desk"] [some 0, none, none, none, none, none] [bag, .int R, .int K, .int m, .int s, .bool false] = [some (SV.ow true 0 bag), some (SV.fz (.int R)), some (SV.fz (.int K)), some (SV.fz (.int m)), some (SV.fz (.int s)), some (SV.fz (.bool false)), none, none, none, none, none, none] from rfl]
  obtain ⟨v1, b1, e1, v10, v11, hb1⟩ := mTake_ev (i := 0) (env := [some (SV.ow true 0 bag), some (SV.fz (.int R)), some (SV.fz (.int K)), some (SV.fz (.int m)), some (SV.fz (.int s)), some (SV.fz (.bool false)), none, none, none, none, none, none]) (mA := mVar 1) (m := R) rfl rfl hb (by omega) (by omega) (by omega)
  obtain ⟨many, hmany⟩ : ∃ k : Nat, 1 + v1 = k := ⟨(1 + v1).toNat, by omega⟩
  rw [sSeq_nx (sSet_ev (mBin_ev rfl e1 (gAdd_int 1 v1)))]
  rw [hmany]
  obtain ⟨v2, b2, e2, v20, v21, hb2⟩ := mTake_ev (i := 0) (env := [some (SV.ow true 0 b1), some (SV.fz (.int R)), some (SV.fz (.int K)), some (SV.fz (.int m)), some (SV.fz (.int s)), some (SV.fz (.bool false)), some (SV.fz (.int many)), none, none, none, none, none]) (mA := mVar 4) (m := s) rfl rfl hb1 (by omega) (by omega) (by omega)
  rw [sSeq_nx (e1 := [some (SV.ow true 0 b2), some (SV.fz (.int R)), some (SV.fz (.int K)), some (SV.fz (.int m)), some (SV.fz (.int s)), some (SV.fz (.bool false)), some (SV.fz (.int many)), some (SV.fz (.int (1 + v2))), none, none, none, none]) (sSet_ev (mBin_ev rfl e2 (gAdd_int 1 v2)))]
  rw [sSeq_nx (e1 := [some (SV.ow true 0 b2), some (SV.fz (.int R)), some (SV.fz (.int K)), some (SV.fz (.int m)), some (SV.fz (.int s)), some (SV.fz (.bool false)), some (SV.fz (.int many)), some (SV.fz (.int (1 + v2))), some (SV.ow false 0 (.list [])), none, none, none]) rfl]
  -- the ranks
  have loop1 := forGo_ex (tgt := gNm 9) (body := (sSeq (sApp 8 (mMap gTup (mCons (mBin gAdd (mRet (.int 1)) (mTk (mVar 3))) (mCons (mIf (mMap gTru (mVar 5)) (mVar 7) (mBin gAdd (mRet (.int 1)) (mTk (mVar 4)))) (mRet []))))) sNil))
    (fun k e => ∃ (b : D) (rs : List (Int × Int)) (j9 : Option SV), e = [some (SV.ow true 0 b), some (SV.fz (.int R)), some (SV.fz (.int K)), some (SV.fz (.int m)), some (SV.fz (.int s)), some (SV.fz (.bool false)), some (SV.fz (.int many)), some (SV.fz (.int (1 + v2))), some (SV.ow false 0 (.list (rs.map encR))), j9, none, none] ∧
      Bag (n + 2 + 2 * k) b ∧ rs.length = k ∧ ∀ p ∈ rs, (1 ≤ p.1 ∧ p.1 ≤ 5 ∧ 1 ≤ p.2 ∧ p.2 ≤ 10) ∧ p.1 ≤ m) (rangeD 0 many) 0 _ ⟨b2, [], none, rfl, hb2, rfl, fun p hp => by cases hp⟩ (fun k d e _ hk ⟨b, rs, j9, he, hbk, hl, hrs⟩ => by
      subst he
      rw [rangeD_len] at hk
      obtain ⟨u1, c1, f1, u10, u11, hc1⟩ := mTake_ev (i := 0) (env := [some (SV.ow true 0 b), some (SV.fz (.int R)), some (SV.fz (.int K)), some (SV.fz (.int m)), some (SV.fz (.int s)), some (SV.fz (.bool false)), some (SV.fz (.int many)), some (SV.fz (.int (1 + v2))), some (SV.ow false 0 (.list (rs.map encR))), some (SV.fz d), none, none]) (mA := mVar 3) (m := m) rfl rfl hbk (by omega) (by omega) (by omega)
      obtain ⟨u2, c2, f2, u20, u21, hc2⟩ := mTake_ev (i := 0) (env := [some (SV.ow true 0 c1), some (SV.fz (.int R)), some (SV.fz (.int K)), some (SV.fz (.int m)), some (SV.fz (.int s)), some (SV.fz (.bool false)), some (SV.fz (.int many)), some (SV.fz (.int (1 + v2))), some (SV.ow false 0 (.list (rs.map encR))), some (SV.fz d), none, none]) (mA := mVar 4) (m := s) rfl rfl hc1 (by omega) (by omega) (by omega)
      have g2 := mIf_ev (c := mMap gTru (mVar 5)) (m := mVar 7) (n := mBin gAdd (mRet (.int 1)) (mTk (mVar 4))) (env := [some (SV.ow true 0 c1), some (SV.fz (.int R)), some (SV.fz (.int K)), some (SV.fz (.int m)), some (SV.fz (.int s)), some (SV.fz (.bool false)), some (SV.fz (.int many)), some (SV.fz (.int (1 + v2))), some (SV.ow false 0 (.list (rs.map encR))), some (SV.fz d), none, none]) (k := false) rfl
      rw [if_neg (by decide), mBin_ev (m := mRet (.int 1)) rfl f2 (gAdd_int 1 u2)] at g2
      have g := mMap_ev (g := gTup) (x := [.int (1 + u1), .int (1 + u2)]) (z := encR (1 + u1, 1 + u2)) (mCons_ev (mBin_ev (m := mRet (.int 1)) rfl f1 (gAdd_int 1 u1)) (mCons_ev (n := mRet []) g2 rfl)) rfl
      refine ⟨_, _, rfl, (sSeq_nx (sApp_ev (ds := rs.map encR) ⟨_, rfl⟩ g rfl (by rw [List.length_map]; omega))).trans rfl, ⟨c2, rs ++ [(1 + u1, 1 + u2)], some (SV.fz d), by rw [List.map_append]; rfl, hc2.mono (by omega), by rw [List.length_append, hl]; rfl, fun p hp => ?_⟩⟩
      rcases List.mem_append.mp hp with hp | hp
      · exact hrs p hp
      · rw [List.mem_singleton.mp hp]
        exact ⟨⟨by omega, by omega, by omega, by omega⟩, by omega⟩)
  obtain ⟨e3, l1, b3, rs, j9, he3, hb3, hrl, hrs⟩ := loop1
  subst he3
  rw [rangeD_len, Nat.zero_add] at hb3 hrl
  rw [sSeq_nx ((sFor_ev (mMap_ev (z := rangeD 0 many) rfl (gRg1_nat (by omega)))).trans l1)]
  -- the desks
  rw [sSeq_nx (e1 := [some (SV.ow true 0 b3), some (SV.fz (.int R)), some (SV.fz (.int K)), some (SV.fz (.int m)), some (SV.fz (.int s)), some (SV.fz (.bool false)), some (SV.fz (.int many)), some (SV.fz (.int (1 + v2))), some (SV.ow false 0 (.list (rs.map encR))), j9, some (SV.ow false 0 (.list [])), none]) rfl]
  obtain ⟨v4, b4, e4, v40, v41, hb4⟩ := mTake_ev (i := 0) (env := [some (SV.ow true 0 b3), some (SV.fz (.int R)), some (SV.fz (.int K)), some (SV.fz (.int m)), some (SV.fz (.int s)), some (SV.fz (.bool false)), some (SV.fz (.int many)), some (SV.fz (.int (1 + v2))), some (SV.ow false 0 (.list (rs.map encR))), j9, some (SV.ow false 0 (.list [])), none]) (mA := mVar 2) (m := K) rfl rfl hb3 (by omega) (by omega) (by omega)
  obtain ⟨nd, hnd⟩ : ∃ k : Nat, 1 + v4 = k := ⟨(1 + v4).toNat, by omega⟩
  have g4 := mBin_ev (m := mRet (.int 1)) rfl e4 (gAdd_int 1 v4)
  rw [hnd] at g4
  have loop2 := forGo_ex (tgt := gNm 11) (body := (sSeq (sApp 10 (mIf (mOr (mMap gTru (mVar 5)) (mMap gB (mBin gEq (mTk (mRet (.int 2))) (mRet (.int 0))))) (mMap gTupRg (mVar 6)) (mCallIO [some 0, none] F__law_some (mIo 0 (mCons (mMap (fun d => some (AR.fz d)) (mVar 6)) (mRet []))))))
    sNil))
    (fun k e => ∃ (b : D) (ds : List (List Int)) (j11 : Option SV), e = [some (SV.ow true 0 b), some (SV.fz (.int R)), some (SV.fz (.int K)), some (SV.fz (.int m)), some (SV.fz (.int s)), some (SV.fz (.bool false)), some (SV.fz (.int many)), some (SV.fz (.int (1 + v2))), some (SV.ow false 0 (.list (rs.map encR))), j9, some (SV.ow false 0 (.list (ds.map fun d => .tuple (encI d)))), j11] ∧
      Bag (n + 12 + 6 * k) b ∧ ds.length = k ∧ ∀ d ∈ ds, DeskOk many d) (rangeD 0 nd) 0 _ ⟨b4, [], none, rfl, hb4.mono (by omega), rfl, fun p hp => by cases hp⟩ (fun k d e _ hk ⟨b, ds, j11, he, hbk, hl, hds⟩ => by
      subst he
      rw [rangeD_len] at hk
      obtain ⟨u1, c1, f1, u10, u11, hc1⟩ := mTake_ev (i := 0) (env := [some (SV.ow true 0 b), some (SV.fz (.int R)), some (SV.fz (.int K)), some (SV.fz (.int m)), some (SV.fz (.int s)), some (SV.fz (.bool false)), some (SV.fz (.int many)), some (SV.fz (.int (1 + v2))), some (SV.ow false 0 (.list (rs.map encR))), j9, some (SV.ow false 0 (.list (ds.map fun d => .tuple (encI d)))), some (SV.fz d)]) (mA := mRet (.int 2)) (m := 2) rfl rfl hbk (by omega) (by omega) (by omega)
      have t1 : mOr (mMap gTru (mVar 5)) (mMap gB (mBin gEq (mTk (mRet (.int 2))) (mRet (.int 0)))) [some (SV.ow true 0 b), some (SV.fz (.int R)), some (SV.fz (.int K)), some (SV.fz (.int m)), some (SV.fz (.int s)), some (SV.fz (.bool false)), some (SV.fz (.int many)), some (SV.fz (.int (1 + v2))), some (SV.ow false 0 (.list (rs.map encR))), j9, some (SV.ow false 0 (.list (ds.map fun d => .tuple (encI d)))), some (SV.fz d)] =
        some (u1 == 0, [some (SV.ow true 0 c1), some (SV.fz (.int R)), some (SV.fz (.int K)), some (SV.fz (.int m)), some (SV.fz (.int s)), some (SV.fz (.bool false)), some (SV.fz (.int many)), some (SV.fz (.int (1 + v2))), some (SV.ow false 0 (.list (rs.map encR))), j9, some (SV.ow false 0 (.list (ds.map fun d => .tuple (encI d)))), some (SV.fz d)]) := by
        have z : mMap gB (mBin gEq (mTk (mRet (.int 2))) (mRet (.int 0))) _ = _ := mMap_ev (z := u1 == 0) (mBin_ev f1 (y := .int 0) rfl (z := .bool (u1 == 0)) rfl) rfl
        exact z
      by_cases hu : u1 = 0
      · subst hu
        have g := mIf_ev (m := mMap gTupRg (mVar 6)) (n := mCallIO [some 0, none] F__law_some (mIo 0 (mCons (mMap (fun d => some (AR.fz d)) (mVar 6)) (mRet [])))) t1
        rw [if_pos (by rfl), mMap_ev (x := .int (many : Int)) rfl (gTupRg_nat (by omega))] at g
        refine ⟨_, _, rfl, (sSeq_nx (sApp_ev (ds := ds.map fun d => .tuple (encI d)) ⟨_, rfl⟩ g rfl (by rw [List.length_map]; omega))).trans rfl, ⟨c1, ds ++ [(List.range many).map fun (i : Nat) => (i : Int)], some (SV.fz d), by rw [List.map_append, rangeD_ints]; rfl, hc1.mono (by omega), by rw [List.length_append, hl]; rfl, fun p hp => ?_⟩⟩
        rcases List.mem_append.mp hp with hp | hp
        · exact hds p hp
        · rw [List.mem_singleton.mp hp]
          refine ⟨fun z => ?_, range_rising many, range_below many⟩
          have := congrArg List.length z
          simp at this
          omega
      · obtain ⟨dk, c2, f2, hdk, hc2⟩ := some_ok hc1 (by omega) (many := many) (by omega) (by omega)
        have g := mIf_ev (m := mMap gTupRg (mVar 6)) (n := mCallIO [some 0, none] F__law_some (mIo 0 (mCons (mMap (fun d => some (AR.fz d)) (mVar 6)) (mRet [])))) t1
        rw [if_neg (by simpa using hu)] at g
        have f3 := mCall1_ev (i := 0) (k := 0) (io := true) (mA := mVar 6) (env := [some (SV.ow true 0 c1), some (SV.fz (.int R)), some (SV.fz (.int K)), some (SV.fz (.int m)), some (SV.fz (.int s)), some (SV.fz (.bool false)), some (SV.fz (.int many)), some (SV.fz (.int (1 + v2))), some (SV.ow false 0 (.list (rs.map encR))), j9, some (SV.ow false 0 (.list (ds.map fun d => .tuple (encI d)))), some (SV.fz d)]) rfl rfl f2
        rw [f3] at g
        refine ⟨_, _, rfl, (sSeq_nx (sApp_ev (ds := ds.map fun d => .tuple (encI d)) ⟨_, rfl⟩ g rfl (by rw [List.length_map]; omega))).trans rfl, ⟨c2, ds ++ [dk], some (SV.fz d), by rw [List.map_append]; rfl, hc2.mono (by omega), by rw [List.length_append, hl]; rfl, fun p hp => ?_⟩⟩
        rcases List.mem_append.mp hp with hp | hp
        · exact hds p hp
        · rw [List.mem_singleton.mp hp]
          exact hdk)
  obtain ⟨e5, l2, b5, ds, j11, he5, hb5, hdl, hds⟩ := loop2
  subst he5
  rw [rangeD_len, Nat.zero_add] at hb5 hdl
  rw [sSeq_nx ((sFor_ev (mMap_ev (z := rangeD 0 nd) (mCons_ev g4 rfl) (gRg1_nat (by omega)))).trans l2)]
  refine ⟨⟨rs, ds⟩, b5, rfl, ⟨by show 1 ≤ rs.length; omega, by show rs.length ≤ R; omega, by show 1 ≤ ds.length; omega, by show ds.length ≤ K; omega, fun p hp => (hrs p hp).1, ?_⟩, fun p hp => (hrs p hp).2, hb5.mono (by omega)⟩
  intro d hd
  show DeskOk rs.length d
  rw [hrl]
  exact hds d hd
end Dn
set_option maxHeartbeats 4000000
local macro_rules | `(tactic| array_mem_dec) => `(tactic| first
  | with_reducible rfl
  | with_reducible assumption
  | (simp only [beq_self_eq_true, Bool.not_true, Bool.not_false]; done)
  | ((fail_if_success rw [beq_self_eq_true]); first
    | exact decide_eq_true (by first | with_reducible assumption | omega)
    | exact decide_eq_false (by first | with_reducible assumption | omega)
    | exact beq_iff_eq.mpr (by first | with_reducible assumption | omega)
    | exact beq_eq_false_iff_ne.mpr (by first | with_reducible assumption | omega)
    | (simp only [Bool.and_eq_true, Bool.and_eq_false_iff, Bool.or_eq_true, Bool.or_eq_false_iff, Bool.not_eq_true', Bool.not_eq_false', decide_eq_true_eq, decide_eq_false_iff_not, beq_iff_eq, beq_eq_false_iff_ne]; first | with_reducible assumption | omega)
    | exact rfl))
local macro_rules | `(tactic| array_get_dec) => `(tactic| first
  | with_reducible assumption
  | with_reducible exact Dn.gAdd_int _ _
  | with_reducible exact Dn.gSub_int _ _
  | with_reducible exact Dn.gIAdd_int _ _
  | with_reducible exact Dn.gLt_int _ _
  | with_reducible exact Dn.gLe_int _ _
  | with_reducible exact Dn.gGt_int _ _
  | with_reducible exact Dn.gGe_int _ _
  | with_reducible exact Dn.gEq_int _ _
  | with_reducible exact Dn.gNe_int _ _
  | with_reducible exact Dn.gIxt0 _ _
  | with_reducible exact Dn.gIxt1 _ _ _
  | with_reducible exact Dn.gIxl0 _ _
  | with_reducible exact Dn.gIxl1 _ _ _
  | with_reducible assumption
  | ((with_reducible apply Dn.ev_len); (· exact rfl); (· with_reducible assumption))
  | exact rfl
  | assumption
  | exact Dn.gIxl0 _ _
  | exact Dn.gIxt0 _ _
  | exact Dn.gIxt1 _ _ _
  | fail)
local macro_rules | `(tactic| sizeOf_list_dec) => `(tactic| first
  | with_reducible assumption
  | with_reducible exact Dn.ev_ret
  | with_reducible exact Dn.ev_nil
  | ((with_reducible apply Dn.ev_var); exact rfl)
  | ((with_reducible apply Dn.mBin_ev); (· sizeOf_list_dec); (· sizeOf_list_dec); (· array_get_dec))
  | ((with_reducible apply Dn.mMap_ev); (· sizeOf_list_dec); (· array_get_dec))
  | ((with_reducible apply Dn.mCons_ev); (· sizeOf_list_dec); (· sizeOf_list_dec))
  | ((with_reducible apply Dn.ev_seq); (· sizeOf_list_dec); (· ((first | with_reducible apply Dn.seqK_nx | with_reducible apply Dn.seqK_rt | with_reducible apply Dn.seqK_bk | with_reducible apply Dn.seqK_ct); sizeOf_list_dec)))
  | ((with_reducible apply Dn.ev_set); (· sizeOf_list_dec); (· (dsimp only [List.set] <;> exact rfl)))
  | ((with_reducible apply Dn.ev_if); (· sizeOf_list_dec); (· sizeOf_list_dec))
  | ((with_reducible apply Dn.ite_t); (· array_mem_dec); (· sizeOf_list_dec))
  | ((with_reducible apply Dn.ite_f); (· array_mem_dec); (· sizeOf_list_dec))
  | ((with_reducible apply Dn.ev_mif); (· sizeOf_list_dec); (· sizeOf_list_dec))
  | ((with_reducible apply Dn.ev_and); (· sizeOf_list_dec); (· sizeOf_list_dec))
  | ((with_reducible apply Dn.ev_or); (· sizeOf_list_dec); (· sizeOf_list_dec))
  | ((with_reducible apply Dn.ev_not); sizeOf_list_dec)
  | ((with_reducible apply Dn.ev_andv); (· sizeOf_list_dec); (· sizeOf_list_dec))
  | ((with_reducible apply Dn.ev_chain); (· sizeOf_list_dec); (· sizeOf_list_dec); (· array_get_dec); (· sizeOf_list_dec); (· array_get_dec))
  | ((with_reducible apply Dn.ev_chain3); (· sizeOf_list_dec); (· sizeOf_list_dec); (· array_get_dec); (· sizeOf_list_dec); (· array_get_dec); (· sizeOf_list_dec); (· array_get_dec))
  | ((with_reducible apply Dn.ev_put); (· exact rfl); (· sizeOf_list_dec); (· sizeOf_list_dec); (· first | assumption | (simp only [List.length_map]; omega) | fail); (· (dsimp only [List.set] <;> exact rfl)))
  | ((with_reducible apply Dn.sRet_ev); sizeOf_list_dec)
  | ((with_reducible apply Dn.ev_rret); sizeOf_list_dec)
  | ((with_reducible apply Dn.ev_rseq); (· sizeOf_list_dec); (· sizeOf_list_dec))
  | ((with_reducible apply Dn.ev_rif); (· sizeOf_list_dec); (· sizeOf_list_dec))
  | ((with_reducible apply Dn.ev_rfrz); (· exact rfl); (· (dsimp only [List.set] <;> exact rfl)); (· sizeOf_list_dec))
  | ((with_reducible apply Dn.ev_setN); (· sizeOf_list_dec); (· (dsimp only [List.set] <;> exact rfl)))
  | ((with_reducible apply Dn.ev_aug); (· exact rfl); (· sizeOf_list_dec); (· array_get_dec); (· (dsimp only [List.set] <;> exact rfl)))
  | ((with_reducible apply Dn.ev_frz); (· exact rfl); (· (dsimp only [List.set] <;> exact rfl)); (· sizeOf_list_dec))
  | ((with_reducible apply Dn.ev_drop); sizeOf_list_dec)
  | ((with_reducible apply Dn.ev_app); (· exact rfl); (· sizeOf_list_dec); (· exact rfl); (· (simp only [List.length_map, List.length_append, List.length_cons, List.length_nil]; omega)); (· (dsimp only [List.set] <;> exact rfl)))
  | ((with_reducible apply Dn.ev_lend); (· (dsimp only [Dn.lendE, List.map, Option.map, Dn.lendSV] <;> exact rfl)); (· sizeOf_list_dec); (· exact rfl))
  | ((with_reducible apply Dn.ev_lendT); (· (dsimp only [Dn.lendE, List.map, Option.map, Dn.lendSV] <;> exact rfl)); (· sizeOf_list_dec))
  | ((with_reducible apply Dn.ev_for); (· sizeOf_list_dec); (· first | with_reducible assumption | assumption | fail))
  | ((with_reducible apply Dn.ev_while); (· first | with_reducible assumption | assumption | fail))
  | ((with_reducible apply Dn.ev_lc); (· sizeOf_list_dec); (· exact rfl); (· first | with_reducible assumption | assumption | fail); (· first | assumption | (simp only [List.length_map, List.length_append, List.length_cons, List.length_nil]; omega) | fail))
  | ((with_reducible apply Dn.ev_sl); (· sizeOf_list_dec); (· sizeOf_list_dec); (· sizeOf_list_dec); (· array_get_dec))
  | ((with_reducible apply Dn.ev_star); (· sizeOf_list_dec); (· exact rfl); (· sizeOf_list_dec))
  | ((with_reducible apply Dn.ev_pars); (· sizeOf_list_dec); (· exact rfl); (· (dsimp only [Dn.setE, List.set] <;> exact rfl)))
  | ((with_reducible apply Dn.ev_callIO); (· sizeOf_list_dec); (· exact rfl); (· exact rfl); (· (simp only [Dn.argsOf, List.getElem?_cons_succ, List.getElem?_cons_zero, if_true, Option.map_some] <;> exact rfl)); (· first | with_reducible assumption | fail); (· exact rfl); (· (dsimp only [List.set] <;> exact rfl)))
  | ((with_reducible apply Dn.ev_io); (· exact rfl); (· sizeOf_list_dec))
  | ((with_reducible apply Dn.ev_tup); (· sizeOf_list_dec); (· sizeOf_list_dec))
  | ((with_reducible apply Dn.ev_gcons); (· sizeOf_list_dec); (· sizeOf_list_dec))
  | with_reducible exact Dn.ev_gnil
  | ((with_reducible apply Dn.ev_gnm); (dsimp only [List.set] <;> exact rfl))
  | with_reducible rfl
  | ((with_reducible apply Dn.ev_give); (· exact rfl); (· (dsimp only [List.set] <;> exact rfl)))
  | ((with_reducible apply Dn.ev_ixO); (· exact rfl); (· sizeOf_list_dec); (· exact rfl); (· array_get_dec))
  | exact Dn.ev_nil
  | ((with_reducible apply Dn.ev_fin); exact rfl)
  | exact Dn.ev_bk
  | ((apply Dn.ev_tu); (· exact rfl); (· sizeOf_list_dec))
  | ((apply Dn.ev_tuL); (· exact rfl); (· sizeOf_list_dec))
  | ((apply Dn.ev_gcons); (· sizeOf_list_dec); (· sizeOf_list_dec))
  | exact Dn.ev_gnil
  | with_reducible assumption
  | assumption
  | fail)
namespace Dn
open PySem PySem.Spec PyProof.Rows L2
/-- data of bounded depth and width -/
inductive Od : Nat → D → Prop
  | non (n : Nat) : Od n .none
  | bl (n : Nat) (b : Bool) : Od n (.bool b)
  | int (n : Nat) (i : Int) : Od n (.int i)
  | one (n : Nat) : Od n (.str "1")
  | tup (n : Nat) (ds : List D) : ds.length ≤ 30 → (∀ d ∈ ds, Od n d) → Od (n + 1) (.tuple ds)
  | lst (n : Nat) (ds : List D) : ds.length ≤ 30 → (∀ d ∈ ds, Od n d) → Od (n + 1) (.list ds)
theorem Od.mono {n m : Nat} {d : D} (h : Od n d) (k : n ≤ m) : Od m d := by
  induction h generalizing m with
  | non n => exact .non _
  | bl n b => exact .bl _ b
  | int n i => exact .int _ i
  | one n => exact .one _
  | tup n ds hl _ ih =>
    obtain ⟨j, rfl⟩ : ∃ j, m = j + 1 := ⟨m - 1, by omega⟩
    exact .tup _ _ hl fun d hd => ih d hd (by omega)
  | lst n ds hl _ ih =>
    obtain ⟨j, rfl⟩ : ∃ j, m = j + 1 := ⟨m - 1, by omega⟩
    exact .lst _ _ hl fun d hd => ih d hd (by omega)
theorem Od.lay {n : Nat} {d : D} (h : Od n d) : d.canLay0 = true := by
  have all : ∀ ds : List D, (∀ d ∈ ds, d.canLay0 = true) → PyData.canLayAll0 ds = true := by
    intro ds
    induction ds with
    | nil => intro _; simp [PyData.canLayAll0]
    | cons x r ih => intro h; simp [PyData.canLayAll0, h x (by simp), ih fun d hd => h d (by simp [hd])]
  induction h with
  | non n => simp [PyData.canLay0]
  | bl n b => simp [PyData.canLay0]
  | int n i => simp [PyData.canLay0]
  | one n => decide +kernel
  | tup n ds _ _ ih => simp only [PyData.canLay0]; exact all ds ih
  | lst n ds _ _ ih => simp only [PyData.canLay0]; exact all ds ih
def isI : D → Bool
  | .int _ => true
  | _ => false
def isTu : D → Bool
  | .tuple _ => true
  | _ => false
def tupIn (a b : Int) : D → Bool
  | .tuple xs => decide (a ≤ (xs.length : Int)) && decide ((xs.length : Int) ≤ b)
  | _ => false
def intIn (lo hi : Int) : D → Bool
  | .int i => decide (lo ≤ i) && decide (i ≤ hi)
  | _ => false
theorem isTu_ex {d : D} (h : isTu d = true) : ∃ ds, d = .tuple ds := by
  cases d <;> first | exact ⟨_, rfl⟩ | (simp [isTu] at h)
theorem Od.sub {n : Nat} {ds : List D} (h : Od n (.tuple ds)) : ∃ m, n = m + 1 ∧ ds.length ≤ 30 ∧ ∀ d ∈ ds, Od m d := by
  cases h with
  | tup m _ hl hs => exact ⟨m, rfl, hl, hs⟩
section
variable {n : Nat} {d : D}
theorem tup_od (h : Od n d) : gIsTuple d = some (.bool (isTu d)) := by cases h <;> rfl
theorem whole_od (h : Od n d) : F_is_whole [d] = some (.bool (isI d)) := by
  cases h <;> simp [F_is_whole, B_is_whole, envOf, sSeq, sRet, mAndV, mMap, mBind, mLift, mRet, mVar, gIsInt, gIsBool, gB, outF, isI]
theorem tynot_od (h : Od n d) : gTyNotInt d = some (.bool (!isI d)) := by cases h <;> rfl
theorem is_tuple_od (h : Od n d) (a b : Int) : F_is_tuple [d, .int a, .int b] = some (.bool (tupIn a b d)) := by
  cases h with
  | tup n ds _ _ => exact is_tuple_tup ds a b
  | _ => simp [tupIn, F_is_tuple, B_is_tuple, envOf, sSeq, sRet, mAndV, mMap, mBind, mLift, mRet, mVar, gIsTuple, gB, outF]
theorem law_in_od (h : Od n d) (lo hi : Int) : F__law_in [d, .int lo, .int hi] = some (.bool (intIn lo hi d)) := by
  cases h with
  | int n i =>
    simp [F__law_in, B__law_in, envOf, sSeq, sRet, mAndV, mMap, mBind, mLift, mRet, mVar, gIsInt, gIsBool, gB, outF, mChain, gLe, gCmp]
    by_cases h : lo ≤ i <;> simp [h, mRet, mBind, mLift, mVar, intIn]
  | _ => simp [intIn, F__law_in, B__law_in, envOf, sSeq, sRet, mAndV, mMap, mBind, mLift, mRet, mVar, gIsInt, gIsBool, gB, outF]
/-- a loop that leaves at the first that is not so -/
theorem forGo_all {tgt : D → DEnv → Option DEnv} {body : So} (I : DEnv → Prop) (ok : D → Bool) (v : D) : ∀ (ds : List D) (e : DEnv), I e → (∀ d ∈ ds, ∀ e, I e → ∃ e1 e2, tgt d e = some e1 ∧ body e1 = (if ok d = true then some (.nx e2) else some (.rt v e2)) ∧ I e2) →
    ∃ e', I e' ∧ forGo tgt body ds e = (if ds.all ok = true then some (.nx e') else some (.rt v e'))
  | [], e, h, _ => ⟨e, h, by simp [forGo]⟩
  | d :: ds, e, h, hs => by
    obtain ⟨e1, e2, h1, h2, h3⟩ := hs d (by simp) e h
    by_cases ho : ok d = true
    · obtain ⟨e', h4, h5⟩ := forGo_all I ok v ds e2 h3 fun d hd => hs d (by simp [hd])
      refine ⟨e', h4, ?_⟩
      rw [if_pos ho] at h2
      simp only [forGo, h1, h2, h5, List.all_cons, ho, Bool.true_and]
    · refine ⟨e2, h3, ?_⟩
      rw [if_neg ho] at h2
      have ho' : ok d = false := by simpa using ho
      simp [forGo, h1, h2, List.all_cons, ho']
theorem seq_nx {F F' : So} {env e1 : DEnv} {r : Option Fl} (h : F env = some (.nx e1)) (h' : F' e1 = r) : sSeq F F' env = r := by
  unfold sSeq
  rw [h]
  exact h'
theorem ret_all {tgt : D → DEnv → Option DEnv} {body : So} {items : Mo (List D)} {ds : List D} {env e1 e' : DEnv} {b : Bool} (h1 : items env = some (ds, e1)) (h2 : forGo tgt body ds e1 = (if b = true then some (.nx e') else some (.rt (.bool false) e'))) :
    ∃ e2, sSeq (sFor items tgt body) (sSeq (sRet (mRet (.bool true))) sNil) env = some (.rt (.bool b) e2) := by
  have e : sFor items tgt body env = forGo tgt body ds e1 := by unfold sFor; rw [h1]
  unfold sSeq
  rw [e, h2]
  cases b with
  | true => exact ⟨e', rfl⟩
  | false => exact ⟨e', rfl⟩
theorem are_whole_od {ds : List D} (h : ∀ d ∈ ds, Od n d) : F_are_whole [.tuple ds] = some (.bool (ds.all isI)) := by
  obtain ⟨e', ⟨x, he⟩, hg⟩ := forGo_all (tgt := T_are_whole_1) (body := L_are_whole_1) (fun e => ∃ x, e = [some (SV.fz (.tuple ds)), x]) isI (.bool false) ds [some (SV.fz (.tuple ds)), none] ⟨none, rfl⟩ (fun d hd e ⟨x, he⟩ => by
    subst he
    refine ⟨_, [some (SV.fz (.tuple ds)), some (SV.fz d)], rfl, ?_, _, rfl⟩
    have w := whole_od (h d hd)
    have t := tynot_od (h d hd)
    cases q : isI d <;> simp [q] at w t <;> simp [sSeq, sIf, sRet, sNil, mAnd, mNot, mMap, mBind, mLift, mRet, mVar, mCons, lenIs, gB, gTru, t, w])
  subst he
  unfold F_are_whole
  rw [show envOf ["things", "thing"] [.tuple ds] = [some (SV.fz (.tuple ds)), none] from rfl]
  obtain ⟨e2, r⟩ := ret_all (items := mMap gSeq (mVar 0)) (env := [some (SV.fz (.tuple ds)), none]) rfl hg
  exact ev_outF r
def rankOk : D → Bool
  | .tuple [.int m, .int s] => decide (1 ≤ m) && decide (m ≤ 5) && (decide (1 ≤ s) && decide (s ≤ 10))
  | _ => false
def ranksOk : D → Bool
  | .tuple rs => decide (1 ≤ (rs.length : Int)) && decide ((rs.length : Int) ≤ 4) && rs.all rankOk
  | _ => false
theorem rank_pair {ds : List D} (hl : ds.length = 2) : ∃ a b, ds = [a, b] := by
  match ds, hl with
  | [a, b], _ => exact ⟨a, b, rfl⟩
theorem are_ranks_od (h : Od n d) : F__are_ranks [d] = some (.bool (ranksOk d)) := by
  unfold F__are_ranks
  rw [show envOf ["thing", "pair", "most", "stay"] [d] = [some (SV.fz d), none, none, none] from rfl]
  have t := is_tuple_od h 1 4
  cases qt : isTu d with
  | true =>
    obtain ⟨rs, rfl⟩ := isTu_ex qt
    obtain ⟨n', rfl, hl, hs⟩ := h.sub
    obtain ⟨e', ⟨x, y, z, he⟩, hg⟩ := forGo_all (tgt := T__are_ranks_1) (body := L__are_ranks_1) (fun e => ∃ x y z, e = [some (SV.fz (.tuple rs)), x, y, z]) rankOk (.bool false) rs [some (SV.fz (.tuple rs)), none, none, none] ⟨none, none, none, rfl⟩ (fun d hd e ⟨x, y, z, he⟩ => by
      subst he
      have od := hs d hd
      have ti := tup_od od
      cases qd : isTu d with
      | true =>
        obtain ⟨ps, rfl⟩ := isTu_ex qd
        obtain ⟨n2, rfl, _, hp⟩ := od.sub
        by_cases h2 : ps.length = 2
        · obtain ⟨a, b, rfl⟩ := rank_pair h2
          have w := are_whole_od hp
          have oa := hp a (by simp)
          have ob := hp b (by simp)
          cases qa : isI a with
          | false =>
            have r : rankOk (.tuple [a, b]) = false := by cases a <;> first | rfl | (simp [isI] at qa)
            refine ⟨_, [some (SV.fz (.tuple rs)), some (SV.fz (.tuple [a, b])), y, z], rfl, ?_, _, _, _, rfl⟩
            rw [r]
            simp [qa] at w
            simp [sSeq, sIf, sRet, sNil, mOr, mNot, mMap, mBin, mBind, mLift, mRet, mVar, mCons, lenIs, gB, gTru, gIsTuple, gLen, gNe_int, w]
          | true =>
            cases qb : isI b with
            | false =>
              have r : rankOk (.tuple [a, b]) = false := by cases a <;> cases b <;> first | rfl | (simp [isI] at qb)
              refine ⟨_, [some (SV.fz (.tuple rs)), some (SV.fz (.tuple [a, b])), y, z], rfl, ?_, _, _, _, rfl⟩
              rw [r]
              simp [qa, qb] at w
              simp [sSeq, sIf, sRet, sNil, mOr, mNot, mMap, mBin, mBind, mLift, mRet, mVar, mCons, lenIs, gB, gTru, gIsTuple, gLen, gNe_int, w]
            | true =>
              obtain ⟨m, rfl⟩ : ∃ m, a = .int m := by cases a <;> first | exact ⟨_, rfl⟩ | (simp [isI] at qa)
              obtain ⟨k, rfl⟩ : ∃ m, b = .int m := by cases b <;> first | exact ⟨_, rfl⟩ | (simp [isI] at qb)
              refine ⟨_, [some (SV.fz (.tuple rs)), some (SV.fz (.tuple [.int m, .int k])), some (SV.fz (.int m)), some (SV.fz (.int k))], rfl, ?_, _, _, _, rfl⟩
              simp [isI] at w
              by_cases h1 : 1 ≤ m <;> by_cases h2 : m ≤ 5 <;> by_cases h3 : 1 ≤ k <;> by_cases h4 : k ≤ 10 <;>
                simp [sSeq, sIf, sRet, sNil, sTup, gTu, gsCons, gNm, gsNil, mOr, mNot, mMap, mBin, mBind, mLift, mRet, mVar, mCons, lenIs, gB, gTru, gIsTuple, gLen, gNe_int, w, mChain, gLe, gCmp, rankOk, h1, h2, h3, h4]
        · have h2' : ((ps.length : Int) = 2) = False := by
            simp; omega
          have r : rankOk (.tuple ps) = false := by
            unfold rankOk
            split
            · rename_i m s e
              cases e
              simp at h2
            · rfl
          refine ⟨_, [some (SV.fz (.tuple rs)), some (SV.fz (.tuple ps)), y, z], rfl, ?_, _, _, _, rfl⟩
          rw [r]
          simp [sSeq, sIf, sRet, sNil, mOr, mNot, mMap, mBin, mBind, mLift, mRet, mVar, mCons, lenIs, gB, gTru, gIsTuple, gLen, gNe_int, h2']
      | false =>
        have r : rankOk d = false := by cases d <;> first | rfl | (simp [isTu] at qd)
        refine ⟨_, [some (SV.fz (.tuple rs)), some (SV.fz d), y, z], rfl, ?_, _, _, _, rfl⟩
        rw [r]
        rw [qd] at ti
        simp [sSeq, sIf, sRet, sNil, mOr, mNot, mMap, mBin, mBind, mLift, mRet, mVar, mCons, lenIs, gB, gTru, ti])
    subst he
    cases q : (decide (1 ≤ (rs.length : Int)) && decide ((rs.length : Int) ≤ 4)) with
    | false =>
      simp only [tupIn, q] at t
      have r : ranksOk (.tuple rs) = false := by simp only [ranksOk, q, Bool.false_and]
      rw [r]
      refine ev_outF (e1 := [some (SV.fz (.tuple rs)), none, none, none]) ?_
      unfold B__are_ranks
      simp [sSeq, sIf, sRet, sNil, mNot, mMap, mBin, mBind, mLift, mRet, mVar, mCons, lenIs, gB, gTru, t]
    | true =>
      simp only [tupIn, q] at t
      have r : ranksOk (.tuple rs) = rs.all rankOk := by simp only [ranksOk, q, Bool.true_and]
      rw [r]
      obtain ⟨e2, rr⟩ := ret_all (items := mMap gSeq (mVar 0)) (env := [some (SV.fz (.tuple rs)), none, none, none]) rfl hg
      refine ev_outF (e1 := e2) ?_
      unfold B__are_ranks
      have c : sIf (mNot (mMap gTru (mMap (lenIs 3 F_is_tuple) (mCons (mVar 0) (mCons (mRet (.int 1)) (mCons (mRet (.int (4))) (mRet []))))))) (sSeq (sRet (mRet (.bool false))) sNil) sNil [some (SV.fz (.tuple rs)), none, none, none] = some (.nx [some (SV.fz (.tuple rs)), none, none, none]) := by
        simp [sSeq, sIf, sRet, sNil, mNot, mMap, mBin, mBind, mLift, mRet, mVar, mCons, lenIs, gB, gTru, t]
      exact seq_nx c rr
  | false =>
    have r : ranksOk d = false := by cases d <;> first | rfl | (simp [isTu] at qt)
    have r2 : tupIn 1 4 d = false := by cases d <;> first | rfl | (simp [isTu] at qt)
    rw [r2] at t
    rw [r]
    refine ev_outF (e1 := [some (SV.fz d), none, none, none]) ?_
    unfold B__are_ranks
    simp [sSeq, sIf, sRet, sNil, mNot, mMap, mBin, mBind, mLift, mRet, mVar, mCons, lenIs, gB, gTru, t]
def deskGo (n : Int) : Int → List D → Bool
  | _, [] => true
  | low, .int r :: rest => decide (low ≤ r) && decide (r < n) && deskGo n (r + 1) rest
  | _, _ :: _ => false
theorem deskGo_no {n low : Int} {a : D} {rest : List D} (h : isI a = false) : deskGo n low (a :: rest) = false := by
  cases a <;> first | rfl | (simp [isI] at h)
def deskOk (n : Int) : D → Bool
  | .tuple [] => false
  | .tuple (a :: r) => deskGo n 0 (a :: r)
  | _ => false
def desksOk (n : Int) : D → Bool
  | .tuple ds => decide (1 ≤ (ds.length : Int)) && decide ((ds.length : Int) ≤ 3) && ds.all (deskOk n)
  | _ => false
theorem desk_in {s0 s1 s2 : Option SV} {N : Int} {n : Nat} (hs1 : s1 = some (SV.fz (.int N))) : ∀ (ds : List D) (low : Int) (x : Option SV), (∀ d ∈ ds, Od n d) →
    ∃ y x', forGo T__are_desks_2 L__are_desks_2 ds [s0, s1, s2, some (SV.fz (.int low)), x] = (if deskGo N low ds = true then some (.nx [s0, s1, s2, y, x']) else some (.rt (.bool false) [s0, s1, s2, y, x']))
  | [], low, x, _ => ⟨_, _, rfl⟩
  | a :: r, low, x, h => by
    subst hs1
    have w := whole_od (h a (by simp))
    have ty := tynot_od (h a (by simp))
    have tg : T__are_desks_2 a [s0, some (SV.fz (.int N)), s2, some (SV.fz (.int low)), x] = some [s0, some (SV.fz (.int N)), s2, some (SV.fz (.int low)), some (SV.fz a)] := rfl
    cases qa : isI a with
    | false =>
      simp only [qa] at w ty
      have b : L__are_desks_2 [s0, some (SV.fz (.int N)), s2, some (SV.fz (.int low)), some (SV.fz a)] = some (.rt (.bool false) [s0, some (SV.fz (.int N)), s2, some (SV.fz (.int low)), some (SV.fz a)]) := by
        simp [sSeq, sIf, sRet, sNil, mOr, mAnd, mNot, mMap, mBin, mBind, mLift, mRet, mVar, mCons, lenIs, gB, gTru, w, ty]
      refine ⟨some (SV.fz (.int low)), some (SV.fz a), ?_⟩
      rw [deskGo_no qa]
      simp only [forGo, tg, b, Bool.false_eq_true, if_false]
    | true =>
      obtain ⟨i, rfl⟩ : ∃ m, a = .int m := by cases a <;> first | exact ⟨_, rfl⟩ | (simp [isI] at qa)
      simp only [qa] at w ty
      by_cases h1 : low ≤ i
      · by_cases h2 : i < N
        · have b : L__are_desks_2 [s0, some (SV.fz (.int N)), s2, some (SV.fz (.int low)), some (SV.fz (.int i))] = some (.nx [s0, some (SV.fz (.int N)), s2, some (SV.fz (.int (i + 1))), some (SV.fz (.int i))]) := by
            simp [sSeq, sIf, sRet, sNil, sSet, mOr, mAnd, mNot, mMap, mBin, mBind, mLift, mRet, mVar, mCons, lenIs, gB, gTru, w, ty, mChain, gLe, gLt, gCmp, h1, h2, gAdd_int]
          obtain ⟨y, x', e⟩ := desk_in (s0 := s0) (s2 := s2) (N := N) (n := n) rfl r (i + 1) (some (SV.fz (.int i))) fun d hd => h d (by simp [hd])
          refine ⟨y, x', ?_⟩
          simp only [forGo, tg, b, e, deskGo, h1, h2, decide_true, Bool.true_and]
        · have b : L__are_desks_2 [s0, some (SV.fz (.int N)), s2, some (SV.fz (.int low)), some (SV.fz (.int i))] = some (.rt (.bool false) [s0, some (SV.fz (.int N)), s2, some (SV.fz (.int low)), some (SV.fz (.int i))]) := by
            simp [sSeq, sIf, sRet, sNil, mOr, mAnd, mNot, mMap, mBin, mBind, mLift, mRet, mVar, mCons, lenIs, gB, gTru, w, ty, mChain, gLe, gLt, gCmp, h1, h2]
          exact ⟨some (SV.fz (.int low)), some (SV.fz (.int i)), by simp [forGo, tg, b, deskGo, h1, h2]⟩
      · have b : L__are_desks_2 [s0, some (SV.fz (.int N)), s2, some (SV.fz (.int low)), some (SV.fz (.int i))] = some (.rt (.bool false) [s0, some (SV.fz (.int N)), s2, some (SV.fz (.int low)), some (SV.fz (.int i))]) := by
          simp [sSeq, sIf, sRet, sNil, mOr, mAnd, mNot, mMap, mBin, mBind, mLift, mRet, mVar, mCons, lenIs, gB, gTru, w, ty, mChain, gLe, gLt, gCmp, h1]
        exact ⟨some (SV.fz (.int low)), some (SV.fz (.int i)), by simp [forGo, tg, b, deskGo, h1]⟩
theorem are_desks_od (h : Od n d) (N : Int) : F__are_desks [d, .int N] = some (.bool (desksOk N d)) := by
  unfold F__are_desks
  rw [show envOf ["thing", "ranks", "desk", "low", "rank"] [d, .int N] = [some (SV.fz d), some (SV.fz (.int N)), none, none, none] from rfl]
  have t := is_tuple_od h 1 3
  cases qt : isTu d with
  | true =>
    obtain ⟨rs, rfl⟩ := isTu_ex qt
    obtain ⟨n', rfl, hl, hs⟩ := h.sub
    obtain ⟨e', ⟨x, y, z, he⟩, hg⟩ := forGo_all (tgt := T__are_desks_1) (body := L__are_desks_1) (fun e => ∃ x y z, e = [some (SV.fz (.tuple rs)), some (SV.fz (.int N)), x, y, z]) (deskOk N) (.bool false) rs [some (SV.fz (.tuple rs)), some (SV.fz (.int N)), none, none, none] ⟨none, none, none, rfl⟩ (fun d hd e ⟨x, y, z, he⟩ => by
      subst he
      have od := hs d hd
      have ti := tup_od od
      have tg : T__are_desks_1 d [some (SV.fz (.tuple rs)), some (SV.fz (.int N)), x, y, z] = some [some (SV.fz (.tuple rs)), some (SV.fz (.int N)), some (SV.fz d), y, z] := rfl
      cases qd : isTu d with
      | true =>
        obtain ⟨ps, rfl⟩ := isTu_ex qd
        obtain ⟨n2, rfl, _, hp⟩ := od.sub
        cases ps with
        | nil =>
          refine ⟨_, [some (SV.fz (.tuple rs)), some (SV.fz (.int N)), some (SV.fz (.tuple [])), y, z], tg, ?_, _, _, _, rfl⟩
          simp [sSeq, sIf, sRet, sNil, mOr, mNot, mMap, mBin, mBind, mLift, mRet, mVar, mCons, lenIs, gB, gTru, gIsTuple, deskOk]
        | cons a r =>
          obtain ⟨y', x', e⟩ := desk_in (s0 := some (SV.fz (.tuple rs))) (s2 := some (SV.fz (.tuple (a :: r)))) (N := N) (n := n2) rfl (a :: r) 0 z hp
          refine ⟨_, [some (SV.fz (.tuple rs)), some (SV.fz (.int N)), some (SV.fz (.tuple (a :: r))), y', x'], tg, ?_, _, _, _, rfl⟩
          have c : sIf (mOr (mNot (mMap gTru (mMap gIsTuple (mVar 2)))) (mNot (mMap gTru (mVar 2)))) (sSeq (sRet (mRet (.bool false))) sNil) sNil [some (SV.fz (.tuple rs)), some (SV.fz (.int N)), some (SV.fz (.tuple (a :: r))), y, z] = some (.nx [some (SV.fz (.tuple rs)), some (SV.fz (.int N)), some (SV.fz (.tuple (a :: r))), y, z]) := by
            simp [sSeq, sIf, sRet, sNil, mOr, mNot, mMap, mBin, mBind, mLift, mRet, mVar, mCons, lenIs, gB, gTru, gIsTuple]
          refine seq_nx c (seq_nx (e1 := [some (SV.fz (.tuple rs)), some (SV.fz (.int N)), some (SV.fz (.tuple (a :: r))), some (SV.fz (.int 0)), z]) rfl ?_)
          have f : sFor (mMap gSeq (mVar 2)) T__are_desks_2 L__are_desks_2 [some (SV.fz (.tuple rs)), some (SV.fz (.int N)), some (SV.fz (.tuple (a :: r))), some (SV.fz (.int 0)), z] = forGo T__are_desks_2 L__are_desks_2 (a :: r) [some (SV.fz (.tuple rs)), some (SV.fz (.int N)), some (SV.fz (.tuple (a :: r))), some (SV.fz (.int 0)), z] := rfl
          show sSeq (sFor (mMap gSeq (mVar 2)) T__are_desks_2 L__are_desks_2) sNil _ = _
          unfold sSeq
          rw [f, e]
          show _ = (if deskGo N 0 (a :: r) = true then _ else _)
          cases deskGo N 0 (a :: r) <;> rfl
      | false =>
        have r : deskOk N d = false := by cases d <;> first | rfl | (simp [isTu] at qd)
        refine ⟨_, [some (SV.fz (.tuple rs)), some (SV.fz (.int N)), some (SV.fz d), y, z], tg, ?_, _, _, _, rfl⟩
        rw [r]
        rw [qd] at ti
        simp [sSeq, sIf, sRet, sNil, mOr, mNot, mMap, mBin, mBind, mLift, mRet, mVar, mCons, lenIs, gB, gTru, ti])
    subst he
    cases q : (decide (1 ≤ (rs.length : Int)) && decide ((rs.length : Int) ≤ 3)) with
    | false =>
      simp only [tupIn, q] at t
      have r : desksOk N (.tuple rs) = false := by simp only [desksOk, q, Bool.false_and]
      rw [r]
      refine ev_outF (e1 := [some (SV.fz (.tuple rs)), some (SV.fz (.int N)), none, none, none]) ?_
      unfold B__are_desks
      simp [sSeq, sIf, sRet, sNil, mNot, mMap, mBin, mBind, mLift, mRet, mVar, mCons, lenIs, gB, gTru, t]
    | true =>
      simp only [tupIn, q] at t
      have r : desksOk N (.tuple rs) = rs.all (deskOk N) := by simp only [desksOk, q, Bool.true_and]
      rw [r]
      obtain ⟨e2, rr⟩ := ret_all (items := mMap gSeq (mVar 0)) (env := [some (SV.fz (.tuple rs)), some (SV.fz (.int N)), none, none, none]) rfl hg
      refine ev_outF (e1 := e2) ?_
      unfold B__are_desks
      have c : sIf (mNot (mMap gTru (mMap (lenIs 3 F_is_tuple) (mCons (mVar 0) (mCons (mRet (.int 1)) (mCons (mRet (.int (3))) (mRet []))))))) (sSeq (sRet (mRet (.bool false))) sNil) sNil [some (SV.fz (.tuple rs)), some (SV.fz (.int N)), none, none, none] = some (.nx [some (SV.fz (.tuple rs)), some (SV.fz (.int N)), none, none, none]) := by
        simp [sSeq, sIf, sRet, sNil, mNot, mMap, mBin, mBind, mLift, mRet, mVar, mCons, lenIs, gB, gTru, t]
      exact seq_nx c rr
  | false =>
    have r : desksOk N d = false := by cases d <;> first | rfl | (simp [isTu] at qt)
    have r2 : tupIn 1 3 d = false := by cases d <;> first | rfl | (simp [isTu] at qt)
    rw [r2] at t
    rw [r]
    refine ev_outF (e1 := [some (SV.fz d), some (SV.fz (.int N)), none, none, none]) ?_
    unfold B__are_desks
    simp [sSeq, sIf, sRet, sNil, mNot, mMap, mBin, mBind, mLift, mRet, mVar, mCons, lenIs, gB, gTru, t]
end
end Dn
set_option maxHeartbeats 4000000
namespace Dn
open PySem PySem.Spec PyProof.Rows L2
theorem Od.depth {n : Nat} {d : D} (h : Od n d) : PyData.depth d ≤ n := by
  have all : ∀ (m : Nat) (ds : List D), (∀ d ∈ ds, PyData.depth d ≤ m) → PyData.depthAll ds ≤ m := by
    intro m ds
    induction ds with
    | nil => intro _; simp [PyData.depthAll]
    | cons x r ih =>
      intro h
      have h1 := h x (by simp)
      have h2 := ih fun d hd => h d (by simp [hd])
      simp only [PyData.depthAll]
      omega
  induction h with
  | non n => simp [PyData.depth]
  | bl n b => simp [PyData.depth]
  | int n i => simp [PyData.depth]
  | one n => simp [PyData.depth]
  | tup n ds _ _ ih =>
    have := all n ds ih
    simp only [PyData.depth]
    omega
  | lst n ds _ _ ih =>
    have := all n ds ih
    simp only [PyData.depth]
    omega
theorem Od.shaped {n : Nat} {d : D} (h : Od n d) (hn : n ≤ 60) : SeqAt.shaped d = true := by
  unfold SeqAt.shaped
  rw [h.lay, Bool.true_and, decide_eq_true_eq]
  have := h.depth
  omega
theorem shaped_tup0 : SeqAt.shaped (.tuple []) = true := by decide +kernel
theorem gEq_tup0 {n : Nat} {ps : List D} (h : Od n (.tuple ps)) (hn : n ≤ 60) : gEq (.tuple ps) (.tuple []) = some (.bool ps.isEmpty) := by
  unfold gEq
  rw [h.shaped hn, shaped_tup0]
  cases ps <;> simp [PyData.eqv, PyData.eqvAll]
theorem gNe_tup0 {n : Nat} {ps : List D} (h : Od n (.tuple ps)) (hn : n ≤ 60) : gNe (.tuple ps) (.tuple []) = some (.bool (!ps.isEmpty)) := by
  unfold gNe
  rw [h.shaped hn, shaped_tup0]
  cases ps <;> simp [PyData.eqv, PyData.eqvAll]
section
variable {n : Nat} {d : D} {rs : List D} {b : D}
abbrev sX (rs : List D) (b : D) : Option SV := some (SV.fz (.tuple [.tuple rs, b]))
theorem good_in {s1 s2 : Option SV} : ∀ (ds : List D) (last : Int) (x : Option SV), (∀ d ∈ ds, Od n d) →
    ∃ y x', forGo T__law_good_3 L__law_good_3 ds [sX rs b, s1, s2, some (SV.fz (.int last)), x] = (if deskGo rs.length (last + 1) ds = true then some (.nx [sX rs b, s1, s2, y, x']) else some (.rt (.bool false) [sX rs b, s1, s2, y, x']))
  | [], last, x, _ => ⟨_, _, rfl⟩
  | a :: r, last, x, h => by
    have w := law_in_od (h a (by simp)) (last + 1) ((rs.length : Int) - 1)
    have tg : T__law_good_3 a [sX rs b, s1, s2, some (SV.fz (.int last)), x] = some [sX rs b, s1, s2, some (SV.fz (.int last)), some (SV.fz a)] := rfl
    have hd : deskGo rs.length (last + 1) (a :: r) = (intIn (last + 1) ((rs.length : Int) - 1) a && (match a with | .int i => deskGo rs.length (i + 1) r | _ => false)) := by
      cases a with
      | int i =>
        simp only [deskGo, intIn]
        have : decide (i < (rs.length : Int)) = decide (i ≤ (rs.length : Int) - 1) := by
          apply decide_eq_decide.mpr
          omega
        rw [this]
      | _ => simp [deskGo, intIn]
    cases q : intIn (last + 1) ((rs.length : Int) - 1) a with
    | false =>
      rw [q] at w hd
      have bb : L__law_good_3 [sX rs b, s1, s2, some (SV.fz (.int last)), some (SV.fz a)] = some (.rt (.bool false) [sX rs b, s1, s2, some (SV.fz (.int last)), some (SV.fz a)]) := by
        simp [sSeq, sIf, sRet, sNil, mNot, mMap, mBin, mBind, mLift, mRet, mVar, mCons, lenIs, gB, gTru, gIxt0, gLen, gAdd_int, gSub_int, w]
      refine ⟨some (SV.fz (.int last)), some (SV.fz a), ?_⟩
      rw [hd, Bool.false_and]
      simp only [forGo, tg, bb, Bool.false_eq_true, if_false]
    | true =>
      rw [q] at w hd
      obtain ⟨i, rfl⟩ : ∃ m, a = .int m := by cases a <;> first | exact ⟨_, rfl⟩ | (simp [intIn] at q)
      have bb : L__law_good_3 [sX rs b, s1, s2, some (SV.fz (.int last)), some (SV.fz (.int i))] = some (.nx [sX rs b, s1, s2, some (SV.fz (.int i)), some (SV.fz (.int i))]) := by
        simp [sSeq, sIf, sRet, sNil, sSet, mNot, mMap, mBin, mBind, mLift, mRet, mVar, mCons, lenIs, gB, gTru, gIxt0, gLen, gAdd_int, gSub_int, w]
      obtain ⟨y, x', e⟩ := good_in (s1 := s1) (s2 := s2) r i (some (SV.fz (.int i))) fun d hd => h d (by simp [hd])
      refine ⟨y, x', ?_⟩
      rw [hd, Bool.true_and]
      simp only [forGo, tg, bb, e]
theorem good_ranks {rs : List D} (h : ∀ d ∈ rs, Od n d) {s0 : Option SV} (s2 s3 s4 x : Option SV) : ∃ x', forGo T__law_good_1 L__law_good_1 rs [s0, x, s2, s3, s4] = (if rs.all rankOk = true then some (.nx [s0, x', s2, s3, s4]) else some (.rt (.bool false) [s0, x', s2, s3, s4])) := by
  obtain ⟨e', ⟨x', he⟩, hg⟩ := forGo_all (tgt := T__law_good_1) (body := L__law_good_1) (fun e => ∃ x, e = [s0, x, s2, s3, s4]) rankOk (.bool false) rs [s0, x, s2, s3, s4] ⟨x, rfl⟩ (fun d hd e ⟨x, he⟩ => by
    subst he
    have od := h d hd
    have ti := tup_od od
    refine ⟨[s0, some (SV.fz d), s2, s3, s4], [s0, some (SV.fz d), s2, s3, s4], rfl, ?_, _, rfl⟩
    cases qd : isTu d with
    | false =>
      have r : rankOk d = false := by cases d <;> first | rfl | (simp [isTu] at qd)
      rw [r]
      rw [qd] at ti
      simp [sSeq, sIf, sRet, sNil, mOr, mNot, mMap, mBin, mBind, mLift, mRet, mVar, mCons, lenIs, gB, gTru, ti]
    | true =>
      obtain ⟨ps, rfl⟩ := isTu_ex qd
      obtain ⟨n2, rfl, _, hp⟩ := od.sub
      by_cases h2 : ps.length = 2
      · obtain ⟨a, b, rfl⟩ := rank_pair h2
        have wa := law_in_od (hp a (by simp)) 1 5
        have wb := law_in_od (hp b (by simp)) 1 10
        have r : rankOk (.tuple [a, b]) = (intIn 1 5 a && intIn 1 10 b) := by
          cases a <;> cases b <;> simp [rankOk, intIn]
        rw [r]
        cases qa : intIn 1 5 a <;> cases qb : intIn 1 10 b <;> rw [qa] at wa <;> rw [qb] at wb <;>
          simp [sSeq, sIf, sRet, sNil, mOr, mNot, mMap, mBin, mBind, mLift, mRet, mVar, mCons, lenIs, gB, gTru, gIsTuple, gLen, gNe_int, gIxt0, gIxt1, wa, wb]
      · have h2' : ((ps.length : Int) = 2) = False := by simp; omega
        have r : rankOk (.tuple ps) = false := by
          unfold rankOk
          split
          · rename_i m s e
            cases e
            simp at h2
          · rfl
        rw [r]
        simp [sSeq, sIf, sRet, sNil, mOr, mNot, mMap, mBin, mBind, mLift, mRet, mVar, mCons, lenIs, gB, gTru, gIsTuple, gLen, gNe_int, h2'])
  subst he
  exact ⟨x', hg⟩
theorem good_desks {ds : List D} (h : ∀ d ∈ ds, Od n d) (hn : n ≤ 60) (s1 x y z : Option SV) : ∃ x' y' z', forGo T__law_good_2 L__law_good_2 ds [sX rs b, s1, x, y, z] = (if ds.all (deskOk rs.length) = true then some (.nx [sX rs b, s1, x', y', z']) else some (.rt (.bool false) [sX rs b, s1, x', y', z'])) := by
  obtain ⟨e', ⟨x', y', z', he⟩, hg⟩ := forGo_all (tgt := T__law_good_2) (body := L__law_good_2) (fun e => ∃ x y z, e = [sX rs b, s1, x, y, z]) (deskOk rs.length) (.bool false) ds [sX rs b, s1, x, y, z] ⟨x, y, z, rfl⟩ (fun d hd e ⟨x, y, z, he⟩ => by
    subst he
    have od := h d hd
    have ti := tup_od od
    have tg : T__law_good_2 d [sX rs b, s1, x, y, z] = some [sX rs b, s1, some (SV.fz d), y, z] := rfl
    cases qd : isTu d with
    | false =>
      have r : deskOk rs.length d = false := by cases d <;> first | rfl | (simp [isTu] at qd)
      refine ⟨_, [sX rs b, s1, some (SV.fz d), y, z], tg, ?_, _, _, _, rfl⟩
      rw [r]
      rw [qd] at ti
      simp [sSeq, sIf, sRet, sNil, mOr, mNot, mMap, mBin, mBind, mLift, mRet, mVar, mCons, lenIs, gB, gTru, ti]
    | true =>
      obtain ⟨ps, rfl⟩ := isTu_ex qd
      have g0 := gEq_tup0 od hn
      obtain ⟨n2, rfl, _, hp⟩ := od.sub
      cases ps with
      | nil =>
        refine ⟨_, [sX rs b, s1, some (SV.fz (.tuple [])), y, z], tg, ?_, _, _, _, rfl⟩
        simp at g0
        simp [sSeq, sIf, sRet, sNil, mOr, mNot, mMap, mBin, mBind, mLift, mRet, mVar, mCons, lenIs, gB, gTru, gIsTuple, gTup, deskOk, g0]
      | cons a r =>
        simp at g0
        obtain ⟨y', x', e⟩ := good_in (rs := rs) (b := b) (n := n2) (s1 := s1) (s2 := some (SV.fz (.tuple (a :: r)))) (a :: r) (-1) z hp
        refine ⟨_, [sX rs b, s1, some (SV.fz (.tuple (a :: r))), y', x'], tg, ?_, _, _, _, rfl⟩
        have c : sIf (mOr (mNot (mMap gTru (mMap gIsTuple (mVar 2)))) (mMap gB (mBin gEq (mVar 2) (mMap gTup (mRet []))))) (sSeq (sRet (mRet (.bool false))) sNil) sNil [sX rs b, s1, some (SV.fz (.tuple (a :: r))), y, z] = some (.nx [sX rs b, s1, some (SV.fz (.tuple (a :: r))), y, z]) := by
          simp [sSeq, sIf, sRet, sNil, mOr, mNot, mMap, mBin, mBind, mLift, mRet, mVar, mCons, lenIs, gB, gTru, gIsTuple, gTup, g0]
        refine seq_nx c (seq_nx (e1 := [sX rs b, s1, some (SV.fz (.tuple (a :: r))), some (SV.fz (.int (-1))), z]) rfl ?_)
        have f : sFor (mMap gSeq (mVar 2)) T__law_good_3 L__law_good_3 [sX rs b, s1, some (SV.fz (.tuple (a :: r))), some (SV.fz (.int (-1))), z] = forGo T__law_good_3 L__law_good_3 (a :: r) [sX rs b, s1, some (SV.fz (.tuple (a :: r))), some (SV.fz (.int (-1))), z] := rfl
        show sSeq (sFor (mMap gSeq (mVar 2)) T__law_good_3 L__law_good_3) sNil _ = _
        unfold sSeq
        rw [f, e]
        show _ = (if deskGo rs.length 0 (a :: r) = true then _ else _)
        rw [show (-1 : Int) + 1 = 0 from rfl]
        cases deskGo rs.length 0 (a :: r) <;> rfl)
  subst he
  exact ⟨x', y', z', hg⟩
def lenT : D → Int
  | .tuple xs => xs.length
  | _ => 0
def goodD : D → Bool
  | .tuple [a, b] => ranksOk a && desksOk (lenT a) b
  | _ => false
theorem goodD_no {ds : List D} (h : ds.length ≠ 2) : goodD (.tuple ds) = false := by
  unfold goodD
  split
  · rename_i a b e
    cases e
    simp at h
  · rfl
theorem is_hall_od (h : Od n d) : F_is_hall [d] = some (.bool (goodD d)) := by
  unfold F_is_hall
  rw [show envOf ["thing", "ranks", "desks"] [d] = [some (SV.fz d), none, none] from rfl]
  have t := is_tuple_od h 2 2
  cases qt : isTu d with
  | false =>
    have r : goodD d = false := by cases d <;> first | rfl | (simp [isTu] at qt)
    have r2 : tupIn 2 2 d = false := by cases d <;> first | rfl | (simp [isTu] at qt)
    rw [r2] at t
    rw [r]
    refine ev_outF (e1 := [some (SV.fz d), none, none]) ?_
    unfold B_is_hall
    simp [sSeq, sIf, sRet, sNil, mNot, mMap, mBin, mBind, mLift, mRet, mVar, mCons, lenIs, gB, gTru, t]
  | true =>
    obtain ⟨ds, rfl⟩ := isTu_ex qt
    obtain ⟨m, rfl, _, hs⟩ := h.sub
    by_cases h2 : ds.length = 2
    · obtain ⟨a, b, rfl⟩ := rank_pair h2
      have t' : F_is_tuple [.tuple [a, b], .int 2, .int 2] = some (.bool true) := t
      have wa := are_ranks_od (hs a (by simp))
      have e0 : sIf (mNot (mMap gTru (mMap (lenIs 3 F_is_tuple) (mCons (mVar 0) (mCons (mRet (.int 2)) (mCons (mRet (.int 2)) (mRet []))))))) (sSeq (sRet (mRet (.bool false))) sNil) sNil [some (SV.fz (.tuple [a, b])), none, none] = some (.nx [some (SV.fz (.tuple [a, b])), none, none]) := by
        simp [sSeq, sIf, sRet, sNil, mNot, mMap, mBin, mBind, mLift, mRet, mVar, mCons, lenIs, gB, gTru, t']
      refine ev_outF (e1 := [some (SV.fz (.tuple [a, b])), some (SV.fz a), some (SV.fz b)]) ?_
      unfold B_is_hall
      refine seq_nx e0 (seq_nx (e1 := [some (SV.fz (.tuple [a, b])), some (SV.fz a), some (SV.fz b)]) rfl ?_)
      show _ = some (Fl.rt (.bool (ranksOk a && desksOk (lenT a) b)) _)
      cases qa : ranksOk a with
      | false =>
        rw [qa] at wa
        simp [sSeq, sRet, sNil, mAndV, mMap, mBin, mBind, mLift, mRet, mVar, mCons, lenIs, gB, wa]
      | true =>
        rw [qa] at wa
        obtain ⟨rs, rfl⟩ : ∃ rs, a = .tuple rs := by cases a <;> first | exact ⟨_, rfl⟩ | (simp [ranksOk] at qa)
        have wb := are_desks_od (hs b (by simp)) rs.length
        simp [sSeq, sRet, sNil, mAndV, mMap, mBin, mBind, mLift, mRet, mVar, mCons, lenIs, gB, wa, wb, gLen, lenT]
    · rw [goodD_no h2]
      have r2 : tupIn 2 2 (.tuple ds) = false := by
        simp only [tupIn, Bool.and_eq_false_iff, decide_eq_false_iff_not]
        omega
      rw [r2] at t
      refine ev_outF (e1 := [some (SV.fz (.tuple ds)), none, none]) ?_
      unfold B_is_hall
      simp [sSeq, sIf, sRet, sNil, mNot, mMap, mBin, mBind, mLift, mRet, mVar, mCons, lenIs, gB, gTru, t]
end
end Dn
set_option maxHeartbeats 4000000
namespace Dn
open PySem PySem.Spec PyProof.Rows L2
section
variable {n : Nat} {d : D}
theorem seq_rt {F F' : So} {env e1 : DEnv} {v : D} (h : F env = some (.rt v e1)) : sSeq F F' env = some (.rt v e1) := by
  unfold sSeq
  rw [h]
abbrev G1 : Mo Bool := (mOr (mNot (mMap gTru (mMap gIsTuple (mVar 0)))) (mOr (mMap gB (mBin gNe (mMap gLen (mCons (mVar 0) (mRet []))) (mRet (.int 2)))) (mOr (mNot (mMap gTru (mMap gIsTuple (mBin gIx (mVar 0) (mRet (.int 0)))))) (mNot (mMap gTru (mMap gIsTuple (mBin gIx (mVar 0) (mRet (.int 1)))))))))
abbrev G2 : Mo Bool := (mOr (mNot (mChain gLe gLe (mRet (.int 1)) (mMap gLen (mCons (mBin gIx (mVar 0) (mRet (.int 0))) (mRet []))) (mRet (.int 4)))) (mNot (mChain gLe gLe (mRet (.int 1)) (mMap gLen (mCons (mBin gIx (mVar 0) (mRet (.int 1))) (mRet []))) (mRet (.int 3)))))
abbrev gF : So := (sSeq (sRet (mRet (.bool false))) sNil)
theorem if_rt {c : Mo Bool} {env : DEnv} (h : c env = some (true, env)) : sIf c gF sNil env = some (.rt (.bool false) env) := by
  unfold sIf
  rw [h]
  rfl
theorem if_nx {c : Mo Bool} {env : DEnv} (h : c env = some (false, env)) : sIf c gF sNil env = some (.nx env) := by
  unfold sIf
  rw [h]
  rfl
theorem law_good_od (h : Od n d) (hn : n ≤ 60) : F__law_good [d] = some (.bool (goodD d)) := by
  unfold F__law_good
  rw [show envOf ["x", "rank", "desk", "last", "one"] [d] = [some (SV.fz d), none, none, none, none] from rfl]
  have ti := tup_od h
  cases qt : isTu d with
  | false =>
    have r : goodD d = false := by cases d <;> first | rfl | (simp [isTu] at qt)
    rw [qt] at ti
    rw [r]
    have c : G1 [some (SV.fz d), none, none, none, none] = some (true, [some (SV.fz d), none, none, none, none]) := by
      simp [mOr, mNot, mMap, mBin, mBind, mLift, mRet, mVar, mCons, gB, gTru, ti]
    exact ev_outF (seq_rt (if_rt c))
  | true =>
    obtain ⟨ds, rfl⟩ := isTu_ex qt
    obtain ⟨m, rfl, _, hs⟩ := h.sub
    by_cases h2 : ds.length = 2
    · obtain ⟨a, b, rfl⟩ := rank_pair h2
      have tx : gIsTuple (.tuple [a, b]) = some (.bool true) := rfl
      have ta := tup_od (hs a (by simp))
      have tb := tup_od (hs b (by simp))
      show _ = some (PyData.bool (ranksOk a && desksOk (lenT a) b))
      cases qa : isTu a with
      | false =>
        have r : ranksOk a = false := by cases a <;> first | rfl | (simp [isTu] at qa)
        rw [qa] at ta
        rw [r, Bool.false_and]
        have c : G1 [some (SV.fz (.tuple [a, b])), none, none, none, none] = some (true, [some (SV.fz (.tuple [a, b])), none, none, none, none]) := by
          simp [mOr, mNot, mMap, mBin, mBind, mLift, mRet, mVar, mCons, gB, gTru, tx, gLen, gNe_int, gIxt0, gIxt1, ta]
        exact ev_outF (seq_rt (if_rt c))
      | true =>
        cases qb : isTu b with
        | false =>
          have r : desksOk (lenT a) b = false := by cases b <;> first | rfl | (simp [isTu] at qb)
          rw [qa] at ta
          rw [qb] at tb
          rw [r, Bool.and_false]
          have c : G1 [some (SV.fz (.tuple [a, b])), none, none, none, none] = some (true, [some (SV.fz (.tuple [a, b])), none, none, none, none]) := by
            simp [mOr, mNot, mMap, mBin, mBind, mLift, mRet, mVar, mCons, gB, gTru, tx, gLen, gNe_int, gIxt0, gIxt1, ta, tb]
          exact ev_outF (seq_rt (if_rt c))
        | true =>
          obtain ⟨rs, rfl⟩ := isTu_ex qa
          obtain ⟨ks, rfl⟩ := isTu_ex qb
          obtain ⟨m1, e1, _, hr⟩ := (hs (.tuple rs) (by simp)).sub
          obtain ⟨m2, e2, _, hk⟩ := (hs (.tuple ks) (by simp)).sub
          have c : G1 [some (SV.fz (.tuple [.tuple rs, .tuple ks])), none, none, none, none] = some (false, [some (SV.fz (.tuple [.tuple rs, .tuple ks])), none, none, none, none]) := by
            simp [mOr, mNot, mMap, mBin, mBind, mLift, mRet, mVar, mCons, gB, gTru, gIsTuple, gLen, gNe_int, gIxt0, gIxt1]
          cases q : (decide (1 ≤ (rs.length : Int)) && decide ((rs.length : Int) ≤ 4) && (decide (1 ≤ (ks.length : Int)) && decide ((ks.length : Int) ≤ 3))) with
          | false =>
            have r : (ranksOk (.tuple rs) && desksOk (lenT (.tuple rs)) (.tuple ks)) = false := by
              simp only [ranksOk, desksOk]
              revert q
              cases decide (1 ≤ (rs.length : Int)) <;> cases decide ((rs.length : Int) ≤ 4) <;> cases decide (1 ≤ (ks.length : Int)) <;> cases decide ((ks.length : Int) ≤ 3) <;> simp
            rw [r]
            have c2 : G2 [some (SV.fz (.tuple [.tuple rs, .tuple ks])), none, none, none, none] = some (true, [some (SV.fz (.tuple [.tuple rs, .tuple ks])), none, none, none, none]) := by
              by_cases a1 : 1 ≤ (rs.length : Int) <;> by_cases a2 : (rs.length : Int) ≤ 4 <;> by_cases a3 : 1 ≤ (ks.length : Int) <;> by_cases a4 : (ks.length : Int) ≤ 3 <;>
                first
                | (simp [a1, a2, a3, a4] at q; done)
                | (simp [mOr, mNot, mMap, mBin, mBind, mLift, mRet, mVar, mCons, gB, gTru, gIsTuple, gLen, gNe_int, gIxt0, gIxt1, mChain, gLe, gCmp, a1, a2, a3, a4]; done)
            exact ev_outF (seq_nx (if_nx c) (seq_rt (if_rt c2)))
          | true =>
            have c2 : G2 [some (SV.fz (.tuple [.tuple rs, .tuple ks])), none, none, none, none] = some (false, [some (SV.fz (.tuple [.tuple rs, .tuple ks])), none, none, none, none]) := by
              simp only [Bool.and_eq_true, decide_eq_true_eq] at q
              obtain ⟨⟨a1, a2⟩, a3, a4⟩ := q
              simp [mOr, mNot, mMap, mBin, mBind, mLift, mRet, mVar, mCons, gB, gTru, gIsTuple, gLen, gNe_int, gIxt0, gIxt1, mChain, gLe, gCmp, a1, a2, a3, a4]
            have r : (ranksOk (.tuple rs) && desksOk (lenT (.tuple rs)) (.tuple ks)) = (rs.all rankOk && ks.all (deskOk rs.length)) := by
              simp only [Bool.and_eq_true] at q
              simp only [ranksOk, desksOk, lenT, q.1.1, q.1.2, q.2.1, q.2.2, Bool.true_and]
            rw [r]
            obtain ⟨x1, g1⟩ := good_ranks (n := m1) hr (s0 := some (SV.fz (.tuple [.tuple rs, .tuple ks]))) none none none none
            have f1 : sFor (mMap gSeq (mBin gIx (mVar 0) (mRet (.int 0)))) T__law_good_1 L__law_good_1 [some (SV.fz (.tuple [.tuple rs, .tuple ks])), none, none, none, none] = forGo T__law_good_1 L__law_good_1 rs [some (SV.fz (.tuple [.tuple rs, .tuple ks])), none, none, none, none] := rfl
            cases qr : rs.all rankOk with
            | false =>
              rw [qr] at g1
              rw [g1] at f1
              exact ev_outF (seq_nx (if_nx c) (seq_nx (if_nx c2) (seq_rt f1)))
            | true =>
              rw [qr] at g1
              rw [g1] at f1
              obtain ⟨x', y', z', g2⟩ := good_desks (n := m2) (rs := rs) (b := .tuple ks) hk (by omega) x1 none none none
              obtain ⟨e2, rr⟩ := ret_all (items := mMap gSeq (mBin gIx (mVar 0) (mRet (.int 1)))) (env := [some (SV.fz (.tuple [.tuple rs, .tuple ks])), x1, none, none, none]) rfl g2
              exact ev_outF (seq_nx (if_nx c) (seq_nx (if_nx c2) (seq_nx f1 rr)))
    · rw [goodD_no h2]
      have h2' : ((ds.length : Int) = 2) = False := by simp; omega
      have c : G1 [some (SV.fz (.tuple ds)), none, none, none, none] = some (true, [some (SV.fz (.tuple ds)), none, none, none, none]) := by
        simp [mOr, mNot, mMap, mBin, mBind, mLift, mRet, mVar, mCons, gB, gTru, gIsTuple, gLen, gNe_int, h2']
      exact ev_outF (seq_rt (if_rt c))
end
end Dn
set_option maxHeartbeats 4000000
namespace Dn
open PySem PySem.Spec PyProof.Rows L2
theorem cut_to {xs : List D} {k : Nat} (h : k ≤ xs.length) : cutD xs none (some (k : Int)) = xs.take k := by
  unfold cutD
  rw [HT.sIx_none, HT.sIx_nat, Nat.min_eq_left h]
  simp
theorem cut_from {xs : List D} {k : Nat} (h : k ≤ xs.length) : cutD xs (some (k : Int)) none = xs.drop k := by
  unfold cutD
  rw [HT.sIx_none, HT.sIx_nat, Nat.min_eq_left h]
  rw [List.take_of_length_le (by simp)]
theorem odd_fn (m : Nat) (bag x : D) : FN__law_odd (m + 1) [bag, x] = outIO [some 0, none] (B__law_odd (FN__law_odd m) [some (SV.ow true 0 bag), some (SV.fz x), none, none]) := rfl
abbrev oT6 : Mo D := (mCallIO [some 0, none] F__law_take (mIo 0 (mCons (mMap (fun d => some (AR.fz d)) (mRet (.int 6))) (mRet []))))
abbrev oC : Mo Bool := (mAnd (mMap gTru (mMap gIsTuple (mVar 1))) (mAnd (mMap gB (mBin gNe (mVar 1) (mMap gTup (mRet [])))) (mMap gB (mBin gGt oT6 (mRet (.int 0))))))
theorem odd_test {n N : Nat} {x bag : D} (hx : Od n x) (hn : n ≤ 60) (hb : Bag N bag) (hN : N + 100 < 1000000) (k o : Option SV) :
    ∃ (c : Bool) (b1 : D), oC [some (SV.ow true 0 bag), some (SV.fz x), k, o] = some (c, [some (SV.ow true 0 b1), some (SV.fz x), k, o]) ∧ Bag (N + 1) b1 ∧ (c = true → ∃ ds, x = .tuple ds ∧ ds ≠ []) := by
  have ti := tup_od hx
  cases q : isTu x with
  | false =>
    rw [q] at ti
    refine ⟨false, bag, ?_, hb.mono (by omega), fun z => by cases z⟩
    simp [mAnd, mMap, mBind, mLift, mRet, mVar, gTru, ti]
  | true =>
    obtain ⟨ds, rfl⟩ := isTu_ex q
    have g := gNe_tup0 hx hn
    have tt : gIsTuple (.tuple ds) = some (.bool true) := rfl
    cases ds with
    | nil =>
      refine ⟨false, bag, ?_, hb.mono (by omega), fun z => by cases z⟩
      simp at g
      simp [mAnd, mMap, mBin, mBind, mLift, mRet, mVar, gTru, gB, gTup, tt, g]
    | cons a r =>
      obtain ⟨v, b1, e1, v0, v1, hb1⟩ := mTake_ev (i := 0) (env := [some (SV.ow true 0 bag), some (SV.fz (.tuple (a :: r))), k, o]) (mA := mRet (.int 6)) (m := 6) rfl rfl hb (by omega) (by decide) (by decide)
      have e1 : oT6 [some (SV.ow true 0 bag), some (SV.fz (.tuple (a :: r))), k, o] = some (.int v, [some (SV.ow true 0 b1), some (SV.fz (.tuple (a :: r))), k, o]) := e1
      refine ⟨decide (0 < v), b1, ?_, hb1, fun _ => ⟨_, rfl, by simp⟩⟩
      simp at g
      have e2 : mMap gB (mBin gGt oT6 (mRet (.int 0))) [some (SV.ow true 0 bag), some (SV.fz (.tuple (a :: r))), k, o] = some (decide (0 < v), [some (SV.ow true 0 b1), some (SV.fz (.tuple (a :: r))), k, o]) := mMap_ev (mBin_ev e1 rfl rfl) rfl
      show mAnd _ (mAnd _ (mMap gB (mBin gGt oT6 (mRet (.int 0))))) _ = _
      generalize mMap gB (mBin gGt oT6 (mRet (.int 0))) = M at e2 ⊢
      simp [mAnd, mMap, mBin, mBind, mLift, mRet, mVar, gTru, gB, gTup, tt, g, e2]
theorem gAdd_tup1 {xs ys : List D} (h : xs.length + ys.length ≤ 100000) : gAdd (.tuple xs) (.tuple ys) = some (.tuple (xs ++ ys)) := by
  simp [gAdd, gInt, gCat, gCatT, h]
/-- the part that puts something odd within -/
abbrev oDeep (R : List D → Option (D × List D)) : So := (sSeq (sSet 2 (mCallIO [some 0, none] F__law_take (mIo 0 (mCons (mMap (fun d => some (AR.fz d)) (mMap gLen (mCons (mVar 1) (mRet [])))) (mRet [])))))
    (sSeq (sRet (mBin gAdd (mBin gAdd (mSl (mVar 1) (mRet none) (mMap (fun d => (gI d).map some) (mVar 2))) (mMap gTup (mCons (mCallIO [some 0, none] R (mIo 0 (mCons (mMap (fun d => some (AR.fz d)) (mBin gIx (mVar 1) (mVar 2))) (mRet [])))) (mRet [])))) (mSl (mVar 1) (mMap (fun d => (gI d).map some) (mBin gAdd (mVar 2) (mRet (.int 1)))) (mRet none))))
    sNil))
theorem deep_ok {n N M : Nat} {ds : List D} {bag : D} {R : List D → Option (D × List D)} (hx : Od (n + 1) (.tuple ds)) (hne : ds ≠ []) (hb : Bag N bag) (hN : N + 100 < 1000000) (k o : Option SV)
    (hR : ∀ d ∈ ds, ∀ b, Bag (N + 1) b → ∃ y b', R [b, d] = some (y, [b']) ∧ Od (n + 1) y ∧ Bag M b') :
    ∃ y b' a' e', oDeep R [some (SV.ow true 0 bag), some (SV.fz (.tuple ds)), k, o] = some (.rt y (some (SV.ow true 0 b') :: a' :: e')) ∧ Od (n + 2) y ∧ Bag M b' := by
  obtain ⟨n', en, hl, hs⟩ := hx.sub
  obtain rfl : n = n' := by omega
  have hlen : 0 < ds.length := List.length_pos_iff.mpr hne
  obtain ⟨v, b1, e1, v0, v1, hb1⟩ := mTake_ev (i := 0) (env := [some (SV.ow true 0 bag), some (SV.fz (.tuple ds)), k, o]) (mA := mMap gLen (mCons (mVar 1) (mRet []))) (m := ds.length) rfl rfl hb (by omega) (by omega) (by omega)
  obtain ⟨j, rfl⟩ : ∃ j : Nat, v = (j : Int) := ⟨v.toNat, by omega⟩
  have hj : j < ds.length := by omega
  obtain ⟨y, b2, e2, oy, hb2⟩ := hR ds[j] (List.getElem_mem hj) b1 hb1
  have s1 : mCallIO [some 0, none] R (mIo 0 (mCons (mMap (fun d => some (AR.fz d)) (mBin gIx (mVar 1) (mVar 2))) (mRet []))) [some (SV.ow true 0 b1), some (SV.fz (.tuple ds)), some (SV.fz (.int j)), o] = some (y, [some (SV.ow true 0 b2), some (SV.fz (.tuple ds)), some (SV.fz (.int j)), o]) := by
    refine ev_callIO (i := 0) (k := 0) (io := true) (d := b1) (o := b2) (ars := [AR.io 0, AR.fz ds[j]]) (e1 := [some (SV.ow true 0 b1), some (SV.fz (.tuple ds)), some (SV.fz (.int j)), o]) (ds := [b1, ds[j]]) ?_ rfl rfl rfl e2 rfl rfl
    have g : gIx (.tuple ds) (.int j) = some ds[j] := gIx_tn (List.getElem?_eq_getElem hj)
    simp [mIo, mCons, mBin, mBind, mMap, mLift, mRet, mVar, g]
  have c1 : mSl (mVar 1) (mRet none) (mMap (fun d => (gI d).map some) (mVar 2)) [some (SV.ow true 0 b1), some (SV.fz (.tuple ds)), some (SV.fz (.int j)), o] = some (.tuple (ds.take j), [some (SV.ow true 0 b1), some (SV.fz (.tuple ds)), some (SV.fz (.int j)), o]) := by
    rw [← cut_to (Nat.le_of_lt hj)]
    rfl
  have c2 : mSl (mVar 1) (mMap (fun d => (gI d).map some) (mBin gAdd (mVar 2) (mRet (.int 1)))) (mRet none) [some (SV.ow true 0 b2), some (SV.fz (.tuple ds)), some (SV.fz (.int j)), o] = some (.tuple (ds.drop (j + 1)), [some (SV.ow true 0 b2), some (SV.fz (.tuple ds)), some (SV.fz (.int j)), o]) := by
    rw [← cut_from (k := j + 1) (by omega)]
    rfl
  have t1 : mMap gTup (mCons (mCallIO [some 0, none] R (mIo 0 (mCons (mMap (fun d => some (AR.fz d)) (mBin gIx (mVar 1) (mVar 2))) (mRet [])))) (mRet [])) [some (SV.ow true 0 b1), some (SV.fz (.tuple ds)), some (SV.fz (.int j)), o] = some (.tuple [y], [some (SV.ow true 0 b2), some (SV.fz (.tuple ds)), some (SV.fz (.int j)), o]) := by
    generalize mCallIO [some 0, none] R (mIo 0 (mCons (mMap (fun d => some (AR.fz d)) (mBin gIx (mVar 1) (mVar 2))) (mRet []))) = M' at s1
    simp [mMap, mCons, mBind, mLift, mRet, gTup, s1]
  refine ⟨.tuple ((ds.take j ++ [y]) ++ ds.drop (j + 1)), b2, some (SV.fz (.tuple ds)), [some (SV.fz (.int j)), o], ?_, .tup _ _ ?_ fun d hd => ?_, hb2⟩
  · refine seq_nx (e1 := [some (SV.ow true 0 b1), some (SV.fz (.tuple ds)), some (SV.fz (.int j)), o]) ?_ (seq_rt ?_)
    · unfold sSet
      rw [e1]
      rfl
    · have r := mBin_ev (g := gAdd) (mBin_ev (g := gAdd) c1 t1 (gAdd_tup1 (by simp; omega))) c2 (gAdd_tup1 (by simp; omega))
      unfold sRet
      rw [r]
  · simp
    omega
  · rcases List.mem_append.mp hd with hd | hd
    · rcases List.mem_append.mp hd with hd | hd
      · exact (hs d (List.mem_of_mem_take hd)).mono (by omega)
      · simp at hd
        rw [hd]
        exact oy
    · exact (hs d (List.mem_of_mem_drop hd)).mono (by omega)
abbrev oFlat : So := (sSeq (sSet 3 (mMap gLst (mCons (mRet .none) (mCons (mRet (.bool true)) (mCons (mRet (.bool false)) (mCons (mMap gNeg (mRet (.int 1))) (mCons (mRet (.int 0)) (mCons (mRet (.int 1)) (mCons (mRet (.int 4)) (mCons (mRet (.int 6)) (mCons (mRet (.int 11)) (mCons (mRet (.str "1")) (mCons (mMap gTup (mRet [])) (mCons (mMap gTup (mCons (mRet (.int 0)) (mRet []))) (mCons (mMap gTup (mCons (mRet (.int 1)) (mCons (mRet (.int 1)) (mRet [])))) (mRet []))))))))))))))))
    (sSeq (sRet (mBin gIx (mBin gAdd (mVar 3) (mMap gLst (mCons (mIf (mMap gTru (mMap gIsTuple (mVar 1))) (mMap gList (mCons (mVar 1) (mRet []))) (mVar 1)) (mRet [])))) (mCallIO [some 0, none] F__law_take (mIo 0 (mCons (mMap (fun d => some (AR.fz d)) (mRet (.int 14))) (mRet []))))))
    sNil))
abbrev oList : List D := [.none, .bool true, .bool false, .int (-1), .int 0, .int 1, .int 4, .int 6, .int 11, .str "1", .tuple [], .tuple [.int 0], .tuple [.int 1, .int 1]]
theorem oList_od (n : Nat) : ∀ d ∈ oList, Od (n + 1) d := by
  intro d hd
  simp only [List.mem_cons, List.not_mem_nil, or_false] at hd
  rcases hd with rfl | rfl | rfl | rfl | rfl | rfl | rfl | rfl | rfl | rfl | rfl | rfl | rfl
  · exact .non _
  · exact .bl _ _
  · exact .bl _ _
  · exact .int _ _
  · exact .int _ _
  · exact .int _ _
  · exact .int _ _
  · exact .int _ _
  · exact .int _ _
  · exact .one _
  · exact .tup _ _ (by simp) (by simp)
  · exact .tup _ _ (by simp) (fun d hd => by simp at hd; rw [hd]; exact .int _ _)
  · exact .tup _ _ (by simp) (fun d hd => by simp at hd; rw [hd]; exact .int _ _)
theorem flat_ok {n N : Nat} {x bag : D} (hx : Od n x) (hb : Bag N bag) (hN : N + 100 < 1000000) (k o : Option SV) :
    ∃ y b' a' e', oFlat [some (SV.ow true 0 bag), some (SV.fz x), k, o] = some (.rt y (some (SV.ow true 0 b') :: a' :: e')) ∧ Od (n + 1) y ∧ Bag (N + 1) b' := by
  have ti := tup_od hx
  obtain ⟨z, hz, oz⟩ : ∃ z, (mIf (mMap gTru (mMap gIsTuple (mVar 1))) (mMap gList (mCons (mVar 1) (mRet []))) (mVar 1) : Mo D) [some (SV.ow true 0 bag), some (SV.fz x), k, some (SV.fz (.list oList))] = some (z, [some (SV.ow true 0 bag), some (SV.fz x), k, some (SV.fz (.list oList))]) ∧ Od (n + 1) z := by
    cases q : isTu x with
    | false =>
      rw [q] at ti
      refine ⟨x, ?_, hx.mono (by omega)⟩
      simp [mIf, mMap, mBind, mLift, mRet, mVar, gTru, ti]
    | true =>
      obtain ⟨ds, rfl⟩ := isTu_ex q
      obtain ⟨m, rfl, hl, hs⟩ := hx.sub
      exact ⟨.list ds, rfl, .lst _ _ hl fun d hd => (hs d hd).mono (by omega)⟩
  obtain ⟨v, b1, e1, v0, v1, hb1⟩ := mTake_ev (i := 0) (env := [some (SV.ow true 0 bag), some (SV.fz x), k, some (SV.fz (.list oList))]) (mA := mRet (.int 14)) (m := 14) rfl rfl hb (by omega) (by decide) (by decide)
  obtain ⟨j, rfl⟩ : ∃ j : Nat, v = (j : Int) := ⟨v.toNat, by omega⟩
  have hj : j < (oList ++ [z]).length := by simp; omega
  have hg : gIx (.list (oList ++ [z])) (.int j) = some (oList ++ [z])[j] := gIx_ln (List.getElem?_eq_getElem hj)
  refine ⟨(oList ++ [z])[j], b1, some (SV.fz x), [k, some (SV.fz (.list oList))], ?_, ?_, hb1⟩
  · refine seq_nx (e1 := [some (SV.ow true 0 bag), some (SV.fz x), k, some (SV.fz (.list oList))]) rfl (seq_rt ?_)
    have a1 : mBin gAdd (mVar 3) (mMap gLst (mCons (mIf (mMap gTru (mMap gIsTuple (mVar 1))) (mMap gList (mCons (mVar 1) (mRet []))) (mVar 1)) (mRet []))) [some (SV.ow true 0 bag), some (SV.fz x), k, some (SV.fz (.list oList))] = some (.list (oList ++ [z]), [some (SV.ow true 0 bag), some (SV.fz x), k, some (SV.fz (.list oList))]) := by
      generalize (mIf (mMap gTru (mMap gIsTuple (mVar 1))) (mMap gList (mCons (mVar 1) (mRet []))) (mVar 1) : Mo D) = M at hz
      refine mBin_ev (g := gAdd) (x := .list oList) (y := .list [z]) rfl ?_ (gAdd_lists rfl)
      simp [mMap, mCons, mBind, mLift, mRet, gLst, hz]
    have r := mBin_ev (g := gIx) a1 e1 hg
    unfold sRet
    rw [r]
    rfl
  · have hm := List.getElem_mem hj
    rcases List.mem_append.mp hm with h | h
    · exact oList_od n _ h
    · have h' := List.mem_singleton.mp h
      rw [h']
      exact oz
theorem odd_ok : ∀ (m n N : Nat) (x bag : D), n < m → n ≤ 50 → Od n x → Bag N bag → N + 4 * m + 100 < 1000000 → ∃ y b', FN__law_odd m [bag, x] = some (y, [b']) ∧ Od (n + 1) y ∧ Bag (N + 4 * m) b'
  | 0, n, _, _, _, h, _, _, _, _ => absurd h (by omega)
  | m + 1, n, N, x, bag, h, h50, hx, hb, hN => by
    rw [odd_fn]
    obtain ⟨c, b1, hc, hb1, hct⟩ := odd_test hx (by omega) hb (by omega) none none
    cases c with
    | true =>
      obtain ⟨ds, rfl, hne⟩ := hct rfl
      obtain ⟨n', rfl, _, hs⟩ := hx.sub
      obtain ⟨y, b', a', e', hd, oy, hb'⟩ := deep_ok (R := FN__law_odd m) (N := N + 1) (M := N + 4 * (m + 1)) hx hne hb1 (by omega) none none fun d hd b hbb => by
        obtain ⟨y, b', e, oy, hy⟩ := odd_ok m n' (N + 1 + 1) d b (by omega) (by omega) (hs d hd) hbb (by omega)
        exact ⟨y, b', e, oy, hy.mono (by omega)⟩
      refine ⟨y, b', ?_, oy, hb'⟩
      have f : sIf oC (oDeep (FN__law_odd m)) sNil [some (SV.ow true 0 bag), some (SV.fz (.tuple ds)), none, none] = some (.rt y (some (SV.ow true 0 b') :: a' :: e')) := by
        unfold sIf
        rw [hc]
        exact hd
      have g : B__law_odd (FN__law_odd m) [some (SV.ow true 0 bag), some (SV.fz (.tuple ds)), none, none] = some (.rt y (some (SV.ow true 0 b') :: a' :: e')) := seq_rt f
      rw [g]
      rfl
    | false =>
      obtain ⟨y, b', a', e', hd, oy, hb'⟩ := flat_ok hx hb1 (by omega) none none
      refine ⟨y, b', ?_, oy, hb'.mono (by omega)⟩
      have f : sIf oC (oDeep (FN__law_odd m)) sNil [some (SV.ow true 0 bag), some (SV.fz x), none, none] = some (.nx [some (SV.ow true 0 b1), some (SV.fz x), none, none]) := by
        unfold sIf
        rw [hc]
        rfl
      have g : B__law_odd (FN__law_odd m) [some (SV.ow true 0 bag), some (SV.fz x), none, none] = some (.rt y (some (SV.ow true 0 b') :: a' :: e')) := seq_nx f hd
      rw [g]
      rfl
end Dn
set_option maxHeartbeats 4000000
namespace Dn
open PySem PySem.Spec PyProof.Rows L2
theorem rising_len1 : ∀ (d : List Int) (lo n : Int), d.Pairwise (· < ·) → lo ≤ n → (∀ r ∈ d, lo ≤ r ∧ r < n) → (d.length : Int) ≤ n - lo
  | [], lo, n, _, h, _ => by simp; omega
  | r :: d, lo, n, hp, h, hr => by
    have h1 := hr r (by simp)
    rw [List.pairwise_cons] at hp
    have := rising_len1 d (r + 1) n hp.2 (by omega) fun x hx => ⟨by have := hp.1 x hx; omega, (hr x (by simp [hx])).2⟩
    simp only [List.length_cons]
    omega
theorem ints_od (n : Nat) {l : List Int} (h : l.length ≤ 30) : Od (n + 1) (.tuple (encI l)) := .tup _ _ (by simpa using h) fun d hd => by
  obtain ⟨i, _, rfl⟩ := List.mem_map.mp hd
  exact .int _ _
theorem rank_od (n : Nat) (p : Int × Int) : Od (n + 1) (encR p) := .tup _ _ (by simp) fun d hd => by
  simp only [List.mem_cons, List.not_mem_nil, or_false] at hd
  rcases hd with rfl | rfl <;> exact .int _ _
theorem hall_parts {h : Hall} (hh : h.Ok 4 3) : ∃ rs ks : List D, encH h = .tuple [.tuple rs, .tuple ks] ∧ rs ≠ [] ∧ ks ≠ [] ∧ rs.length ≤ 4 ∧ ks.length ≤ 3 ∧ (∀ d ∈ rs, Od 1 d) ∧ ∀ d ∈ ks, Od 1 d := by
  refine ⟨_, _, rfl, ?_, ?_, ?_, ?_, ?_, ?_⟩
  · intro z
    have h1 := hh.r1
    rw [List.map_eq_nil_iff.mp z] at h1
    simp at h1
  · intro z
    have h1 := hh.k1
    rw [List.map_eq_nil_iff.mp z] at h1
    simp at h1
  · rw [List.length_map]; exact hh.r2
  · rw [List.length_map]; exact hh.k2
  · intro d hd
    obtain ⟨p, _, rfl⟩ := List.mem_map.mp hd
    exact rank_od 0 p
  · intro d hd
    obtain ⟨l, hl, rfl⟩ := List.mem_map.mp hd
    obtain ⟨_, h2, h3⟩ := hh.desk l hl
    have := rising_len1 l 0 h.ranks.length h2 (by omega) h3
    have := hh.r2
    exact ints_od 0 (by omega)
theorem odd5 {n N : Nat} {x bag : D} (hx : Od n x) (hn : n ≤ 4) (hb : Bag N bag) (hN : N + 200 < 1000000) : ∃ y b', F__law_odd [bag, x] = some (y, [b']) ∧ Od (n + 1) y ∧ Bag (N + 20) b' :=
  odd_ok 5 n N x bag (by omega) (by omega) hx hb (by omega)
/-- a call of `_law_odd` on what slot j holds -/
theorem odd_call {N n j : Nat} {env : DEnv} {bag x : D} (h1 : env[1]? = some (some (SV.ow false 0 bag))) (hj : env[j]? = some (some (SV.fz x))) (hx : Od n x) (hn : n ≤ 4) (hb : Bag N bag) (hN : N + 200 < 1000000) :
    ∃ y b', mCallIO [some 0, none] F__law_odd (mIo 1 (mCons (mMap (fun d => some (AR.fz d)) (mVar j)) (mRet []))) env = some (y, env.set 1 (some (SV.ow false 0 b'))) ∧ Od (n + 1) y ∧ Bag (N + 20) b' := by
  obtain ⟨y, b', e, oy, hb'⟩ := odd5 hx hn hb hN
  refine ⟨y, b', ?_, oy, hb'⟩
  have e1 : mIo 1 (mCons (mMap (fun d => some (AR.fz d)) (mVar j)) (mRet [])) env = some ([AR.io 1, AR.fz x], env) := by
    simp [mIo, h1, mCons, mBind, mMap, mLift, mRet, mVar, hj]
  refine ev_callIO (i := 1) (k := 0) (io := false) (d := bag) (o := b') (ds := [bag, x]) e1 rfl h1 ?_ e ?_ rfl
  · simp [argsOf, h1]
  · simp [putOuts, h1]
theorem lc_odd {s hall x3 x4 x5 x6 x7 x8 x9 : Option SV} {hD : D} (oh : Od 3 hD) (eh : hall = some (SV.fz hD)) : ∀ (ds : List D) (N : Nat) (b : D), Bag N b → N + 30 * ds.length + 200 < 1000000 →
    ∃ ys b', lcGo CT_law_1 CC_law_1 CE_law_1 [10] ds [s, some (SV.ow false 0 b), hall, x3, x4, x5, x6, x7, x8, x9, none] = some (ys, [s, some (SV.ow false 0 b'), hall, x3, x4, x5, x6, x7, x8, x9, none]) ∧ (∀ y ∈ ys, Od 4 y) ∧ ys.length = ds.length ∧ Bag (N + 30 * ds.length) b'
  | [], N, b, hb, _ => ⟨[], b, rfl, by simp, rfl, hb⟩
  | d :: ds, N, b, hb, hN => by
    subst eh
    simp only [List.length_cons] at hN
    obtain ⟨y, b1, e1, oy, hb1⟩ := odd_call (j := 2) (env := [s, some (SV.ow false 0 b), some (SV.fz hD), x3, x4, x5, x6, x7, x8, x9, some (SV.fz d)]) rfl rfl oh (by omega) hb (by omega)
    obtain ⟨ys, b2, e2, hy, hl, hb2⟩ := lc_odd (s := s) (x3 := x3) (x4 := x4) (x5 := x5) (x6 := x6) (x7 := x7) (x8 := x8) (x9 := x9) oh rfl ds (N + 20) b1 hb1 (by omega)
    refine ⟨y :: ys, b2, ?_, fun z hz => ?_, by simp [hl], hb2.mono (by simp only [List.length_cons]; omega)⟩
    · have tg : CT_law_1 d [s, some (SV.ow false 0 b), some (SV.fz hD), x3, x4, x5, x6, x7, x8, x9, none] = some [s, some (SV.ow false 0 b), some (SV.fz hD), x3, x4, x5, x6, x7, x8, x9, some (SV.fz d)] := rfl
      have e1' : CE_law_1 [s, some (SV.ow false 0 b), some (SV.fz hD), x3, x4, x5, x6, x7, x8, x9, some (SV.fz d)] = some (y, [s, some (SV.ow false 0 b1), some (SV.fz hD), x3, x4, x5, x6, x7, x8, x9, some (SV.fz d)]) := e1
      have tt : CC_law_1 [s, some (SV.ow false 0 b), some (SV.fz hD), x3, x4, x5, x6, x7, x8, x9, some (SV.fz d)] = some (true, [s, some (SV.ow false 0 b), some (SV.fz hD), x3, x4, x5, x6, x7, x8, x9, some (SV.fz d)]) := rfl
      have wd : wipeD [s, some (SV.ow false 0 b1), some (SV.fz hD), x3, x4, x5, x6, x7, x8, x9, some (SV.fz d)] [10] = [s, some (SV.ow false 0 b1), some (SV.fz hD), x3, x4, x5, x6, x7, x8, x9, none] := rfl
      simp only [lcGo, tg, tt, if_true, e1', wd, e2]
    · rcases List.mem_cons.mp hz with h | h
      · rw [h]; exact oy
      · exact hy z h
theorem same_bool (k : Bool) : F__law_same [.bool k, .bool k] = some (.bool true) := by cases k <;> rfl
theorem body01 {n : Nat} {x : D} (hx : Od n x) (hn : n ≤ 60) (s b x2 x3 x4 x5 x6 x7 x9 x10 : Option SV) : ∃ y, L_law_2 [s, b, x2, x3, x4, x5, x6, x7, some (SV.fz x), x9, x10] = some (.nx [s, b, x2, x3, x4, x5, x6, x7, some (SV.fz x), y, x10]) := by
  have h1 := law_good_od hx hn
  have h2 := is_hall_od hx
  have h3 := same_bool (goodD x)
  refine ⟨some (SV.fz (.bool (goodD x))), ?_⟩
  generalize goodD x = g at h1 h2 h3
  refine seq_nx (e1 := [s, b, x2, x3, x4, x5, x6, x7, some (SV.fz x), some (SV.fz (.bool g)), x10]) ?_ (seq_nx (e1 := [s, b, x2, x3, x4, x5, x6, x7, some (SV.fz x), some (SV.fz (.bool g)), x10]) ?_ (seq_nx (e1 := [s, b, x2, x3, x4, x5, x6, x7, some (SV.fz x), some (SV.fz (.bool g)), x10]) ?_ rfl))
  · simp [sSet, mMap, mBind, mLift, mRet, mVar, mCons, lenIs, h1]
  · simp [sSeq, sIf, sRet, sNil, mNot, mMap, mBind, mLift, mRet, mVar, mCons, lenIs, gTru, h2, h3]
  · cases g <;> simp [sSeq, sIf, sRet, sNil, mAnd, mNot, mMap, mBind, mLift, mRet, mVar, mRefused, gTru, h2]
abbrev hallD (rs ks : List D) : D := .tuple [.tuple rs, .tuple ks]
abbrev q1 (rs ks r5 : List D) : List D := [hallD rs ks, .list [.tuple rs, .tuple ks], .tuple [.list rs, .tuple ks], .tuple [.tuple rs, .list ks], .tuple [.tuple r5, .tuple ks], .tuple [.tuple [], .tuple ks]]
abbrev q2 (rs ks k4 : List D) : List D := [.tuple [.tuple rs, .tuple k4], .tuple [.tuple rs, .tuple []], .tuple [.tuple rs, .tuple [.tuple []]], .tuple [.tuple rs, .tuple [.tuple [.int rs.length]]], .tuple [.tuple rs, .tuple [.tuple [.int 0, .int 0]]]]
abbrev loneD : D := .tuple [.tuple [.int 0]]
abbrev q3 : List D := [.tuple [.tuple [.tuple [.int 5, .int 10]], loneD], .tuple [.tuple [.tuple [.int 6, .int 1]], loneD], .tuple [.tuple [.tuple [.int 1, .int 11]], loneD], .tuple [.tuple [.tuple [.int 0, .int 1]], loneD]]
abbrev q4 (rs ks : List D) : List D := [.tuple [.tuple [.tuple [.int 1, .int 1, .int 1]], loneD], .tuple [.tuple rs, .tuple ks, .tuple []]]
section
variable {rs ks r5 k4 : List D} {b : D} {s x5 x6 x7 x8 x9 : Option SV}
theorem st1 (g5 : gRepT (.tuple rs) (.int 5) = some (.tuple r5)) : (sSet 5 (mMap gLst (mCons (mVar 2) (mCons (mMap gList (mCons (mVar 2) (mRet []))) (mCons (mMap gTup (mCons (mMap gList (mCons (mVar 3) (mRet []))) (mCons (mVar 4) (mRet [])))) (mCons (mMap gTup (mCons (mVar 3) (mCons (mMap gList (mCons (mVar 4) (mRet []))) (mRet [])))) (mCons (mMap gTup (mCons (mBin gRepT (mVar 3) (mRet (.int 5))) (mCons (mVar 4) (mRet [])))) (mCons (mMap gTup (mCons (mMap gTup (mRet [])) (mCons (mVar 4) (mRet [])))) (mRet []))))))))) [s, some (SV.ow false 0 b), some (SV.fz (hallD rs ks)), some (SV.fz (.tuple rs)), some (SV.fz (.tuple ks)), x5, x6, x7, x8, x9, none] = some (.nx [s, some (SV.ow false 0 b), some (SV.fz (hallD rs ks)), some (SV.fz (.tuple rs)), some (SV.fz (.tuple ks)), some (SV.fz (.list (q1 rs ks r5))), x6, x7, x8, x9, none]) := by
  have e : (mMap gLst (mCons (mVar 2) (mCons (mMap gList (mCons (mVar 2) (mRet []))) (mCons (mMap gTup (mCons (mMap gList (mCons (mVar 3) (mRet []))) (mCons (mVar 4) (mRet [])))) (mCons (mMap gTup (mCons (mVar 3) (mCons (mMap gList (mCons (mVar 4) (mRet []))) (mRet [])))) (mCons (mMap gTup (mCons (mBin gRepT (mVar 3) (mRet (.int 5))) (mCons (mVar 4) (mRet [])))) (mCons (mMap gTup (mCons (mMap gTup (mRet [])) (mCons (mVar 4) (mRet [])))) (mRet [])))))))) [s, some (SV.ow false 0 b), some (SV.fz (hallD rs ks)), some (SV.fz (.tuple rs)), some (SV.fz (.tuple ks)), x5, x6, x7, x8, x9, none] = some (.list (q1 rs ks r5), [s, some (SV.ow false 0 b), some (SV.fz (hallD rs ks)), some (SV.fz (.tuple rs)), some (SV.fz (.tuple ks)), x5, x6, x7, x8, x9, none]) := by
    simp [mMap, mBin, mBind, mLift, mRet, mVar, mCons, gList, gTup, gLst, g5]
  unfold sSet
  rw [e]
  rfl
theorem st2 (g4 : gRepT (.tuple ks) (.int 4) = some (.tuple k4)) : (sSet 5 (mBin gAdd (mVar 5) (mMap gLst (mCons (mMap gTup (mCons (mVar 3) (mCons (mBin gRepT (mVar 4) (mRet (.int 4))) (mRet [])))) (mCons (mMap gTup (mCons (mVar 3) (mCons (mMap gTup (mRet [])) (mRet [])))) (mCons (mMap gTup (mCons (mVar 3) (mCons (mMap gTup (mCons (mMap gTup (mRet [])) (mRet []))) (mRet [])))) (mCons (mMap gTup (mCons (mVar 3) (mCons (mMap gTup (mCons (mMap gTup (mCons (mMap gLen (mCons (mVar 3) (mRet []))) (mRet []))) (mRet []))) (mRet [])))) (mCons (mMap gTup (mCons (mVar 3) (mCons (mMap gTup (mCons (mMap gTup (mCons (mRet (.int 0)) (mCons (mRet (.int 0)) (mRet [])))) (mRet []))) (mRet [])))) (mRet []))))))))) [s, some (SV.ow false 0 b), some (SV.fz (hallD rs ks)), some (SV.fz (.tuple rs)), some (SV.fz (.tuple ks)), some (SV.fz (.list (q1 rs ks r5))), x6, x7, x8, x9, none] = some (.nx [s, some (SV.ow false 0 b), some (SV.fz (hallD rs ks)), some (SV.fz (.tuple rs)), some (SV.fz (.tuple ks)), some (SV.fz (.list (q1 rs ks r5 ++ q2 rs ks k4))), x6, x7, x8, x9, none]) := by
  have e : (mMap gLst (mCons (mMap gTup (mCons (mVar 3) (mCons (mBin gRepT (mVar 4) (mRet (.int 4))) (mRet [])))) (mCons (mMap gTup (mCons (mVar 3) (mCons (mMap gTup (mRet [])) (mRet [])))) (mCons (mMap gTup (mCons (mVar 3) (mCons (mMap gTup (mCons (mMap gTup (mRet [])) (mRet []))) (mRet [])))) (mCons (mMap gTup (mCons (mVar 3) (mCons (mMap gTup (mCons (mMap gTup (mCons (mMap gLen (mCons (mVar 3) (mRet []))) (mRet []))) (mRet []))) (mRet [])))) (mCons (mMap gTup (mCons (mVar 3) (mCons (mMap gTup (mCons (mMap gTup (mCons (mRet (.int 0)) (mCons (mRet (.int 0)) (mRet [])))) (mRet []))) (mRet [])))) (mRet []))))))) [s, some (SV.ow false 0 b), some (SV.fz (hallD rs ks)), some (SV.fz (.tuple rs)), some (SV.fz (.tuple ks)), some (SV.fz (.list (q1 rs ks r5))), x6, x7, x8, x9, none] = some (.list (q2 rs ks k4), [s, some (SV.ow false 0 b), some (SV.fz (hallD rs ks)), some (SV.fz (.tuple rs)), some (SV.fz (.tuple ks)), some (SV.fz (.list (q1 rs ks r5))), x6, x7, x8, x9, none]) := by
    simp [mMap, mBin, mBind, mLift, mRet, mVar, mCons, gLen, gTup, gLst, g4]
  unfold sSet
  rw [mBin_ev (g := gAdd) (m := mVar 5) (x := .list (q1 rs ks r5)) rfl e (gAdd_lists rfl)]
  rfl
theorem st3 : (sSet 6 (mMap gTup (mCons (mMap gTup (mCons (mRet (.int 0)) (mRet []))) (mRet [])))) [s, some (SV.ow false 0 b), some (SV.fz (hallD rs ks)), some (SV.fz (.tuple rs)), some (SV.fz (.tuple ks)), some (SV.fz (.list (q1 rs ks r5 ++ q2 rs ks k4))), x6, x7, x8, x9, none] = some (.nx [s, some (SV.ow false 0 b), some (SV.fz (hallD rs ks)), some (SV.fz (.tuple rs)), some (SV.fz (.tuple ks)), some (SV.fz (.list (q1 rs ks r5 ++ q2 rs ks k4))), some (SV.fz loneD), x7, x8, x9, none]) := rfl
theorem st4 : (sSet 5 (mBin gAdd (mVar 5) (mMap gLst (mCons (mMap gTup (mCons (mMap gTup (mCons (mMap gTup (mCons (mRet (.int 5)) (mCons (mRet (.int 10)) (mRet [])))) (mRet []))) (mCons (mVar 6) (mRet [])))) (mCons (mMap gTup (mCons (mMap gTup (mCons (mMap gTup (mCons (mRet (.int 6)) (mCons (mRet (.int 1)) (mRet [])))) (mRet []))) (mCons (mVar 6) (mRet [])))) (mCons (mMap gTup (mCons (mMap gTup (mCons (mMap gTup (mCons (mRet (.int 1)) (mCons (mRet (.int 11)) (mRet [])))) (mRet []))) (mCons (mVar 6) (mRet [])))) (mCons (mMap gTup (mCons (mMap gTup (mCons (mMap gTup (mCons (mRet (.int 0)) (mCons (mRet (.int 1)) (mRet [])))) (mRet []))) (mCons (mVar 6) (mRet [])))) (mRet [])))))))) [s, some (SV.ow false 0 b), some (SV.fz (hallD rs ks)), some (SV.fz (.tuple rs)), some (SV.fz (.tuple ks)), some (SV.fz (.list (q1 rs ks r5 ++ q2 rs ks k4))), some (SV.fz loneD), x7, x8, x9, none] = some (.nx [s, some (SV.ow false 0 b), some (SV.fz (hallD rs ks)), some (SV.fz (.tuple rs)), some (SV.fz (.tuple ks)), some (SV.fz (.list (q1 rs ks r5 ++ q2 rs ks k4 ++ q3))), some (SV.fz loneD), x7, x8, x9, none]) := by
  have e : (mMap gLst (mCons (mMap gTup (mCons (mMap gTup (mCons (mMap gTup (mCons (mRet (.int 5)) (mCons (mRet (.int 10)) (mRet [])))) (mRet []))) (mCons (mVar 6) (mRet [])))) (mCons (mMap gTup (mCons (mMap gTup (mCons (mMap gTup (mCons (mRet (.int 6)) (mCons (mRet (.int 1)) (mRet [])))) (mRet []))) (mCons (mVar 6) (mRet [])))) (mCons (mMap gTup (mCons (mMap gTup (mCons (mMap gTup (mCons (mRet (.int 1)) (mCons (mRet (.int 11)) (mRet [])))) (mRet []))) (mCons (mVar 6) (mRet [])))) (mCons (mMap gTup (mCons (mMap gTup (mCons (mMap gTup (mCons (mRet (.int 0)) (mCons (mRet (.int 1)) (mRet [])))) (mRet []))) (mCons (mVar 6) (mRet [])))) (mRet [])))))) [s, some (SV.ow false 0 b), some (SV.fz (hallD rs ks)), some (SV.fz (.tuple rs)), some (SV.fz (.tuple ks)), some (SV.fz (.list (q1 rs ks r5 ++ q2 rs ks k4))), some (SV.fz loneD), x7, x8, x9, none] = some (.list q3, [s, some (SV.ow false 0 b), some (SV.fz (hallD rs ks)), some (SV.fz (.tuple rs)), some (SV.fz (.tuple ks)), some (SV.fz (.list (q1 rs ks r5 ++ q2 rs ks k4))), some (SV.fz loneD), x7, x8, x9, none]) := rfl
  unfold sSet
  rw [mBin_ev (g := gAdd) (m := mVar 5) (x := .list (q1 rs ks r5 ++ q2 rs ks k4)) rfl e (gAdd_lists rfl)]
  rfl
theorem st5 : (sSet 5 (mBin gAdd (mVar 5) (mMap gLst (mCons (mMap gTup (mCons (mMap gTup (mCons (mMap gTup (mCons (mRet (.int 1)) (mCons (mRet (.int 1)) (mCons (mRet (.int 1)) (mRet []))))) (mRet []))) (mCons (mVar 6) (mRet [])))) (mCons (mBin gAdd (mVar 2) (mMap gTup (mCons (mMap gTup (mRet [])) (mRet [])))) (mRet [])))))) [s, some (SV.ow false 0 b), some (SV.fz (hallD rs ks)), some (SV.fz (.tuple rs)), some (SV.fz (.tuple ks)), some (SV.fz (.list (q1 rs ks r5 ++ q2 rs ks k4 ++ q3))), some (SV.fz loneD), x7, x8, x9, none] = some (.nx [s, some (SV.ow false 0 b), some (SV.fz (hallD rs ks)), some (SV.fz (.tuple rs)), some (SV.fz (.tuple ks)), some (SV.fz (.list (q1 rs ks r5 ++ q2 rs ks k4 ++ q3 ++ q4 rs ks))), some (SV.fz loneD), x7, x8, x9, none]) := by
  have e : (mMap gLst (mCons (mMap gTup (mCons (mMap gTup (mCons (mMap gTup (mCons (mRet (.int 1)) (mCons (mRet (.int 1)) (mCons (mRet (.int 1)) (mRet []))))) (mRet []))) (mCons (mVar 6) (mRet [])))) (mCons (mBin gAdd (mVar 2) (mMap gTup (mCons (mMap gTup (mRet [])) (mRet [])))) (mRet [])))) [s, some (SV.ow false 0 b), some (SV.fz (hallD rs ks)), some (SV.fz (.tuple rs)), some (SV.fz (.tuple ks)), some (SV.fz (.list (q1 rs ks r5 ++ q2 rs ks k4 ++ q3))), some (SV.fz loneD), x7, x8, x9, none] = some (.list (q4 rs ks), [s, some (SV.ow false 0 b), some (SV.fz (hallD rs ks)), some (SV.fz (.tuple rs)), some (SV.fz (.tuple ks)), some (SV.fz (.list (q1 rs ks r5 ++ q2 rs ks k4 ++ q3))), some (SV.fz loneD), x7, x8, x9, none]) := rfl
  unfold sSet
  rw [mBin_ev (g := gAdd) (m := mVar 5) (x := .list (q1 rs ks r5 ++ q2 rs ks k4 ++ q3)) rfl e (gAdd_lists rfl)]
  rfl
end
end Dn
set_option maxHeartbeats 1000000
namespace Dn
open PySem PySem.Spec PyProof.Rows L2
theorem bags_okL {mo : Nat} (hmo : mo ≤ 12) (ns : List Int) : ∃ bs : List D, F__law_bags [.list (encI ns), .int (mo : Nat)] = some (.list bs) ∧ ∀ b ∈ bs, Bag 15000 b := by
  obtain ⟨l, hl, hl5⟩ := cut5 mo ns
  have g1 : mBin gAdd (mSl (mVar 0) (mRet none) (mMap (fun d => (gI d).map some) (mVar 1))) (mMap gLst (mCons (mRet (.int 0)) (mRet []))) [some (SV.fz (.list (encI ns))), some (SV.fz (.int (mo : Nat))), none, none] = some (.list (encI (l ++ [0])), [some (SV.fz (.list (encI ns))), some (SV.fz (.int (mo : Nat))), none, none]) := by
    refine mBin_ev (x := .list (encI l)) (y := .list [.int 0]) ?_ rfl ?_
    · rw [← hl]
      rfl
    · refine gAdd_lists ?_
      simp only [gCat]
      rw [if_pos (by rw [List.length_map]; simp; omega), encI_app]
  have hL := lcGo_all (tgt := gTu 2 (gsCons (gNm 2) (gsCons (gNm 3) gsNil))) (test := mRet true) (elt := mMap (lenIs 2 F__law_well) (mCons (mVar 3) (mCons (mBin gMulB (mRet (.int 977)) (mVar 2)) (mRet [])))) (vs := [2, 3]) (fun _ e => e = [some (SV.fz (.list (encI ns))), some (SV.fz (.int (mo : Nat))), none, none]) (fun _ y => Bag 15000 y) (enumD 0 (encI (l ++ [0]))) 0
    (wipeD [some (SV.fz (.list (encI ns))), some (SV.fz (.int (mo : Nat))), none, none] [2, 3]) rfl (fun m d e hd _ he => by
      subst he
      obtain ⟨j, hj⟩ := List.mem_iff_getElem?.mp hd
      obtain ⟨x, hx, rfl⟩ := enumD_get 0 _ j d hj
      have hjl : j < 14 := by
        have := (List.getElem?_eq_some_iff.mp hj).1
        rw [enumD_len, List.length_map, List.length_append] at this
        simp at this
        omega
      rw [List.getElem?_map] at hx
      cases hc : (l ++ [0])[j]? with
      | none => rw [hc] at hx; cases hx
      | some c =>
        rw [hc] at hx
        cases hx
        rw [Nat.zero_add]
        have e64 : (2 : Nat) ^ 64 = 18446744073709551616 := by decide
        obtain ⟨y, hy, hb⟩ := well_okN (cell := c) (turn := 977 * j) (by omega)
        have gm := gMulB_small (i := 977) (j := (j : Int)) (by omega) (by omega)
        rw [show (977 : Int) * (j : Int) = ((977 * j : Nat) : Int) by omega] at gm
        exact ⟨_, _, y, _, rfl, rfl, mMap_ev (x := [.int c, .int ((977 * j : Nat) : Int)]) (mCons_ev (m := mVar 3) rfl (mCons_ev (mBin_ev (m := mRet (.int 977)) rfl (n := mVar 2) rfl gm) (n := mRet []) rfl)) ((if_pos (show [PyData.int c, PyData.int ((977 * j : Nat) : Int)].length = 2 from rfl)).trans hy), hb, rfl⟩)
  obtain ⟨ys, e', h1, he', hys⟩ := hL
  subst he'
  refine ⟨ys, ?_, fun b hb => ?_⟩
  · unfold F__law_bags B__law_bags
    have hi : mMap gEnum (mCons (mBin gAdd (mSl (mVar 0) (mRet none) (mMap (fun d => (gI d).map some) (mVar 1))) (mMap gLst (mCons (mRet (.int 0)) (mRet [])))) (mRet [])) [some (SV.fz (.list (encI ns))), some (SV.fz (.int (mo : Nat))), none, none] = some (enumD 0 (encI (l ++ [0])), _) := mMap_ev (x := [.list (encI (l ++ [0]))]) (mCons_ev g1 (n := mRet []) rfl) rfl
    have := mLc_ev hi (by rw [enumD_len, List.length_map, List.length_append]; simp; omega) rfl h1
    rw [show envOf ["script", "most", "k", "cell"] [.list (encI ns), .int (mo : Nat)] = [some (SV.fz (.list (encI ns))), some (SV.fz (.int (mo : Nat))), none, none] from rfl]
    unfold rRet
    rw [mMap_ev (g := fun ds => some (PyData.list ds)) this rfl]
    rfl
  · obtain ⟨j, hj⟩ := List.mem_iff_getElem?.mp hb
    have hjl : j < (enumD 0 (encI (l ++ [0]))).length := by rw [Paired.length hys]; exact (List.getElem?_eq_some_iff.mp hj).1
    obtain ⟨y, hy, hB⟩ := LiI.paired_get hys (List.getElem?_eq_getElem hjl)
    rw [hj] at hy
    cases hy
    exact hB
end Dn
set_option maxHeartbeats 4000000
namespace Dn
open PySem PySem.Spec PyProof.Rows L2
section
variable {rs ks r5 k4 : List D}
theorem rep_ok {xs : List D} {k : Nat} {n : Nat} (h : xs ≠ []) (hl : xs.length ≤ 4) (hk : 1 ≤ k ∧ k ≤ 5) (ho : ∀ d ∈ xs, Od n d) : ∃ ys, gRepT (.tuple xs) (.int k) = some (.tuple ys) ∧ Od (n + 1) (.tuple ys) := by
  refine ⟨(List.replicate k xs).flatten, ?_, .tup _ _ ?_ fun d hd => ?_⟩
  · simp only [gRepT]
    rw [if_pos ⟨h, by omega, by omega, by omega⟩, Int.toNat_natCast]
  · have e : (List.replicate k xs).flatten.length = k * xs.length := by simp
    have : k * xs.length ≤ 5 * 4 := Nat.mul_le_mul hk.2 hl
    omega
  · obtain ⟨l, hl2, hd2⟩ := List.mem_flatten.mp hd
    rw [(List.mem_replicate.mp hl2).2] at hd2
    exact ho d hd2
theorem od_t {n : Nat} {ds : List D} (hl : ds.length ≤ 30) (h : ∀ d ∈ ds, Od n d) : Od (n + 1) (.tuple ds) := .tup _ _ hl h
theorem od_l {n : Nat} {ds : List D} (hl : ds.length ≤ 30) (h : ∀ d ∈ ds, Od n d) : Od (n + 1) (.list ds) := .lst _ _ hl h
theorem od2 {n : Nat} {a b : D} (ha : Od n a) (hb : Od n b) : Od (n + 1) (.tuple [a, b]) := .tup _ _ (by simp) fun d hd => by
  simp only [List.mem_cons, List.not_mem_nil, or_false] at hd
  rcases hd with rfl | rfl <;> assumption
theorem od1 {n : Nat} {a : D} (ha : Od n a) : Od (n + 1) (.tuple [a]) := .tup _ _ (by simp) fun d hd => by
  simp only [List.mem_cons, List.not_mem_nil, or_false] at hd
  rw [hd]
  exact ha
theorem od0 {n : Nat} : Od (n + 1) (.tuple []) := .tup _ _ (by simp) (by simp)
theorem all_od (hr : ∀ d ∈ rs, Od 1 d) (hk : ∀ d ∈ ks, Od 1 d) (lr : rs.length ≤ 4) (lk : ks.length ≤ 3) (o5 : Od 2 (.tuple r5)) (o4 : Od 2 (.tuple k4)) : ∀ d ∈ q1 rs ks r5 ++ q2 rs ks k4 ++ q3 ++ q4 rs ks, Od 5 d := by
  have R : Od 4 (.tuple rs) := (od_t (n := 1) (by omega) hr).mono (by omega)
  have K : Od 4 (.tuple ks) := (od_t (n := 1) (by omega) hk).mono (by omega)
  have Rl : Od 4 (.list rs) := (od_l (n := 1) (by omega) hr).mono (by omega)
  have Kl : Od 4 (.list ks) := (od_l (n := 1) (by omega) hk).mono (by omega)
  have R5 : Od 4 (.tuple r5) := o5.mono (by omega)
  have K4 : Od 4 (.tuple k4) := o4.mono (by omega)
  have lone : Od 4 loneD := od1 (od1 (.int _ _))
  intro d hd
  simp only [q1, q2, q3, q4, List.mem_append, List.mem_cons, List.not_mem_nil, or_false] at hd
  rcases hd with ((((rfl | rfl | rfl | rfl | rfl | rfl) | (rfl | rfl | rfl | rfl | rfl)) | (rfl | rfl | rfl | rfl)) | (rfl | rfl))
  · exact od2 R K
  · exact .lst _ _ (by simp) fun d hd => by
      simp only [List.mem_cons, List.not_mem_nil, or_false] at hd
      rcases hd with rfl | rfl <;> assumption
  · exact od2 Rl K
  · exact od2 R Kl
  · exact od2 R5 K
  · exact od2 od0 K
  · exact od2 R K4
  · exact od2 R od0
  · exact od2 R (od1 od0)
  · exact od2 R (od1 (od1 (.int _ _)))
  · exact od2 R (od1 (od2 (.int _ _) (.int _ _)))
  · exact od2 (od1 (od2 (.int _ _) (.int _ _))) lone
  · exact od2 (od1 (od2 (.int _ _) (.int _ _))) lone
  · exact od2 (od1 (od2 (.int _ _) (.int _ _))) lone
  · exact od2 (od1 (od2 (.int _ _) (.int _ _))) lone
  · refine od2 (od1 (.tup _ _ (by simp) fun d hd => ?_)) lone
    simp only [List.mem_cons, List.not_mem_nil, or_false] at hd
    rcases hd with rfl | rfl | rfl <;> exact .int _ _
  · refine .tup _ _ (by simp) fun d hd => ?_
    simp only [List.mem_cons, List.not_mem_nil, or_false] at hd
    rcases hd with rfl | rfl | rfl
    · exact R
    · exact K
    · exact od0
theorem loop01 {s b x2 x3 x4 x5 x6 x7 x10 : Option SV} : ∀ (xs : List D) (x8 x9 : Option SV), (∀ x ∈ xs, Od 5 x) → ∃ y8 y9, forGo T_law_2 L_law_2 xs [s, b, x2, x3, x4, x5, x6, x7, x8, x9, x10] = some (.nx [s, b, x2, x3, x4, x5, x6, x7, y8, y9, x10])
  | [], x8, x9, _ => ⟨x8, x9, rfl⟩
  | x :: xs, x8, x9, h => by
    obtain ⟨y, e⟩ := body01 (h x (by simp)) (by omega) s b x2 x3 x4 x5 x6 x7 x9 x10
    obtain ⟨y8, y9, e2⟩ := loop01 (s := s) (b := b) (x2 := x2) (x3 := x3) (x4 := x4) (x5 := x5) (x6 := x6) (x7 := x7) (x10 := x10) xs (some (SV.fz x)) y fun z hz => h z (by simp [hz])
    have tg : T_law_2 x [s, b, x2, x3, x4, x5, x6, x7, x8, x9, x10] = some [s, b, x2, x3, x4, x5, x6, x7, some (SV.fz x), x9, x10] := rfl
    exact ⟨y8, y9, by simp only [forGo, tg, e, e2]⟩
end
theorem bag01 {s bag : D} (hb : Bag 15000 bag) (j2 j3 j4 j5 j6 j7 j8 j9 : Option SV) :
    ∃ e, L_law_1 [some (SV.fz s), some (SV.ow false 0 bag), j2, j3, j4, j5, j6, j7, j8, j9, none] = some (.nx e) ∧ ∃ a1 a2 a3 a4 a5 a6 a7 a8 a9, e = [some (SV.fz s), a1, a2, a3, a4, a5, a6, a7, a8, a9, none] := by
  obtain ⟨h, b1, f1, hh, _, hb1⟩ := hall_okm hb (by decide) (R := 4) (K := 3) (m := 5) (s := 10) (by decide) (by decide) (by decide) (by decide)
  obtain ⟨rs, ks, eh, nr, nk, lr, lk, hr, hk⟩ := hall_parts hh
  rw [eh] at f1
  obtain ⟨r5, g5, o5⟩ := rep_ok (k := 5) nr lr (by decide) hr
  obtain ⟨k4, g4, o4⟩ := rep_ok (k := 4) nk (by omega) (by decide) hk
  have oh : Od 3 (hallD rs ks) := od2 (od_t (n := 1) (by omega) hr) (od_t (n := 1) (by omega) hk)
  have w0 : (mCallIO [some 0, none, none, none, none, none] F__law_hall (mIo 1 (mCons (mMap (fun d => some (AR.fz d)) (mRet (.int 4))) (mCons (mMap (fun d => some (AR.fz d)) (mRet (.int 3))) (mCons (mMap (fun d => some (AR.fz d)) (mRet (.int 5))) (mCons (mMap (fun d => some (AR.fz d)) (mRet (.int 10))) (mCons (mMap (fun d => some (AR.fz d)) (mRet (.bool false))) (mRet [])))))))) [some (SV.fz s), some (SV.ow false 0 bag), j2, j3, j4, j5, j6, j7, j8, j9, none] = some (hallD rs ks, [some (SV.fz s), some (SV.ow false 0 b1), j2, j3, j4, j5, j6, j7, j8, j9, none]) :=
    ev_callIO (i := 1) (k := 0) (io := false) (d := bag) (o := b1) (ars := [AR.io 1, AR.fz (.int 4), AR.fz (.int 3), AR.fz (.int 5), AR.fz (.int 10), AR.fz (.bool false)]) (e1 := [some (SV.fz s), some (SV.ow false 0 bag), j2, j3, j4, j5, j6, j7, j8, j9, none])
      (ds := [bag, .int 4, .int 3, .int 5, .int 10, .bool false]) rfl rfl rfl rfl f1 rfl rfl
  have w1 : sSet 2 (mCallIO [some 0, none, none, none, none, none] F__law_hall (mIo 1 (mCons (mMap (fun d => some (AR.fz d)) (mRet (.int 4))) (mCons (mMap (fun d => some (AR.fz d)) (mRet (.int 3))) (mCons (mMap (fun d => some (AR.fz d)) (mRet (.int 5))) (mCons (mMap (fun d => some (AR.fz d)) (mRet (.int 10))) (mCons (mMap (fun d => some (AR.fz d)) (mRet (.bool false))) (mRet [])))))))) [some (SV.fz s), some (SV.ow false 0 bag), j2, j3, j4, j5, j6, j7, j8, j9, none] = some (.nx [some (SV.fz s), some (SV.ow false 0 b1), some (SV.fz (hallD rs ks)), j3, j4, j5, j6, j7, j8, j9, none]) := by
    unfold sSet
    rw [w0]
    rfl
  -- once
  obtain ⟨once, b2, e7, o7, hb2⟩ := odd_call (j := 2) (env := [some (SV.fz s), some (SV.ow false 0 b1), some (SV.fz (hallD rs ks)), some (SV.fz (.tuple rs)), some (SV.fz (.tuple ks)), some (SV.fz (.list (q1 rs ks r5 ++ q2 rs ks k4 ++ q3 ++ q4 rs ks))), some (SV.fz loneD), j7, j8, j9, none]) rfl rfl oh (by omega) hb1 (by omega)
  have w7 : sSet 7 (mCallIO [some 0, none] F__law_odd (mIo 1 (mCons (mMap (fun d => some (AR.fz d)) (mVar 2)) (mRet [])))) [some (SV.fz s), some (SV.ow false 0 b1), some (SV.fz (hallD rs ks)), some (SV.fz (.tuple rs)), some (SV.fz (.tuple ks)), some (SV.fz (.list (q1 rs ks r5 ++ q2 rs ks k4 ++ q3 ++ q4 rs ks))), some (SV.fz loneD), j7, j8, j9, none]
      = some (.nx [some (SV.fz s), some (SV.ow false 0 b2), some (SV.fz (hallD rs ks)), some (SV.fz (.tuple rs)), some (SV.fz (.tuple ks)), some (SV.fz (.list (q1 rs ks r5 ++ q2 rs ks k4 ++ q3 ++ q4 rs ks))), some (SV.fz loneD), some (SV.fz once), j8, j9, none]) := by
    unfold sSet
    rw [e7]
    rfl
  -- the things that are asked
  obtain ⟨twice, b3, e8, o8, hb3⟩ := odd_call (j := 7) (env := [some (SV.fz s), some (SV.ow false 0 b2), some (SV.fz (hallD rs ks)), some (SV.fz (.tuple rs)), some (SV.fz (.tuple ks)), some (SV.fz (.list (q1 rs ks r5 ++ q2 rs ks k4 ++ q3 ++ q4 rs ks))), some (SV.fz loneD), some (SV.fz once), j8, j9, none]) rfl rfl o7 (by omega) hb2 (by omega)
  obtain ⟨ys, b4, e9, oy, ly, hb4⟩ := lc_odd (s := some (SV.fz s)) (x3 := some (SV.fz (.tuple rs))) (x4 := some (SV.fz (.tuple ks))) (x5 := some (SV.fz (.list (q1 rs ks r5 ++ q2 rs ks k4 ++ q3 ++ q4 rs ks)))) (x6 := some (SV.fz loneD)) (x7 := some (SV.fz once)) (x8 := j8) (x9 := j9) oh rfl (rangeD 0 12) _ b3 hb3 (by rw [rangeD_len]; omega)
  have l12 : ys.length = 12 := by rw [ly, rangeD_len]
  have i1 : mMap gLst (mCons (mVar 7) (mCons (mCallIO [some 0, none] F__law_odd (mIo 1 (mCons (mMap (fun d => some (AR.fz d)) (mVar 7)) (mRet [])))) (mRet []))) [some (SV.fz s), some (SV.ow false 0 b2), some (SV.fz (hallD rs ks)), some (SV.fz (.tuple rs)), some (SV.fz (.tuple ks)), some (SV.fz (.list (q1 rs ks r5 ++ q2 rs ks k4 ++ q3 ++ q4 rs ks))), some (SV.fz loneD), some (SV.fz once), j8, j9, none]
      = some (.list [once, twice], [some (SV.fz s), some (SV.ow false 0 b3), some (SV.fz (hallD rs ks)), some (SV.fz (.tuple rs)), some (SV.fz (.tuple ks)), some (SV.fz (.list (q1 rs ks r5 ++ q2 rs ks k4 ++ q3 ++ q4 rs ks))), some (SV.fz loneD), some (SV.fz once), j8, j9, none]) :=
    mMap_ev (x := [once, twice]) (mCons_ev (m := mVar 7) rfl (mCons_ev e8 (n := mRet []) rfl)) rfl
  have i2 := mLc_ev (items := mMap gRg1 (mCons (mRet (.int 12)) (mRet []))) (tgt := CT_law_1) (test := CC_law_1) (elt := CE_law_1) (vs := [10]) (env := [some (SV.fz s), some (SV.ow false 0 b3), some (SV.fz (hallD rs ks)), some (SV.fz (.tuple rs)), some (SV.fz (.tuple ks)), some (SV.fz (.list (q1 rs ks r5 ++ q2 rs ks k4 ++ q3 ++ q4 rs ks))), some (SV.fz loneD), some (SV.fz once), j8, j9, none])
    (mMap_ev (x := [.int 12]) rfl (gRg1_nat (n := 12) (by decide))) (by rw [rangeD_len]; decide) rfl e9
  have lq : (q1 rs ks r5 ++ q2 rs ks k4 ++ q3 ++ q4 rs ks).length = 17 := rfl
  have c1 : gCat (.list (q1 rs ks r5 ++ q2 rs ks k4 ++ q3 ++ q4 rs ks)) (.list [once, twice]) = some (.list (q1 rs ks r5 ++ q2 rs ks k4 ++ q3 ++ q4 rs ks ++ [once, twice])) := rfl
  have c2 : gCat (.list (q1 rs ks r5 ++ q2 rs ks k4 ++ q3 ++ q4 rs ks ++ [once, twice])) (.list ys) = some (.list (q1 rs ks r5 ++ q2 rs ks k4 ++ q3 ++ q4 rs ks ++ [once, twice] ++ ys)) := by
    simp only [gCat]
    rw [if_pos (by rw [List.length_append, lq, l12]; show 17 + 2 + 12 ≤ 100000; decide)]
  have it : (mMap gSeq (mBin gAdd (mBin gAdd (mVar 5) (mMap gLst (mCons (mVar 7) (mCons (mCallIO [some 0, none] F__law_odd (mIo 1 (mCons (mMap (fun d => some (AR.fz d)) (mVar 7)) (mRet [])))) (mRet []))))) (mMap (fun ds => some (.list ds)) (mLc (mMap gRg1 (mCons (mRet (.int 12)) (mRet []))) (gNm 10) (mRet true) (mCallIO [some 0, none] F__law_odd (mIo 1 (mCons (mMap (fun d => some (AR.fz d)) (mVar 2)) (mRet [])))) [10])))) [some (SV.fz s), some (SV.ow false 0 b2), some (SV.fz (hallD rs ks)), some (SV.fz (.tuple rs)), some (SV.fz (.tuple ks)), some (SV.fz (.list (q1 rs ks r5 ++ q2 rs ks k4 ++ q3 ++ q4 rs ks))), some (SV.fz loneD), some (SV.fz once), j8, j9, none]
      = some (q1 rs ks r5 ++ q2 rs ks k4 ++ q3 ++ q4 rs ks ++ [once, twice] ++ ys, [some (SV.fz s), some (SV.ow false 0 b4), some (SV.fz (hallD rs ks)), some (SV.fz (.tuple rs)), some (SV.fz (.tuple ks)), some (SV.fz (.list (q1 rs ks r5 ++ q2 rs ks k4 ++ q3 ++ q4 rs ks))), some (SV.fz loneD), some (SV.fz once), j8, j9, none]) :=
    mMap_ev (mBin_ev (g := gAdd) (mBin_ev (g := gAdd) (m := mVar 5) rfl i1 (gAdd_lists c1)) (mMap_ev (g := fun ds => some (PyData.list ds)) i2 rfl) (gAdd_lists c2)) rfl
  obtain ⟨y8, y9, lp⟩ := loop01 (s := some (SV.fz s)) (b := some (SV.ow false 0 b4)) (x2 := some (SV.fz (hallD rs ks))) (x3 := some (SV.fz (.tuple rs))) (x4 := some (SV.fz (.tuple ks))) (x5 := some (SV.fz (.list (q1 rs ks r5 ++ q2 rs ks k4 ++ q3 ++ q4 rs ks)))) (x6 := some (SV.fz loneD)) (x7 := some (SV.fz once)) (x10 := none) (q1 rs ks r5 ++ q2 rs ks k4 ++ q3 ++ q4 rs ks ++ [once, twice] ++ ys) j8 j9 fun x hx => by
    rcases List.mem_append.mp hx with hx | hx
    · rcases List.mem_append.mp hx with hx | hx
      · exact all_od hr hk lr lk o5 o4 x hx
      · simp only [List.mem_cons, List.not_mem_nil, or_false] at hx
        rcases hx with rfl | rfl
        · exact o7.mono (by omega)
        · exact o8
    · exact (oy x hx).mono (by omega)
  have w8 : sFor (mMap gSeq (mBin gAdd (mBin gAdd (mVar 5) (mMap gLst (mCons (mVar 7) (mCons (mCallIO [some 0, none] F__law_odd (mIo 1 (mCons (mMap (fun d => some (AR.fz d)) (mVar 7)) (mRet [])))) (mRet []))))) (mMap (fun ds => some (.list ds)) (mLc (mMap gRg1 (mCons (mRet (.int 12)) (mRet []))) (gNm 10) (mRet true) (mCallIO [some 0, none] F__law_odd (mIo 1 (mCons (mMap (fun d => some (AR.fz d)) (mVar 2)) (mRet [])))) [10])))) T_law_2 L_law_2 [some (SV.fz s), some (SV.ow false 0 b2), some (SV.fz (hallD rs ks)), some (SV.fz (.tuple rs)), some (SV.fz (.tuple ks)), some (SV.fz (.list (q1 rs ks r5 ++ q2 rs ks k4 ++ q3 ++ q4 rs ks))), some (SV.fz loneD), some (SV.fz once), j8, j9, none]
      = some (.nx [some (SV.fz s), some (SV.ow false 0 b4), some (SV.fz (hallD rs ks)), some (SV.fz (.tuple rs)), some (SV.fz (.tuple ks)), some (SV.fz (.list (q1 rs ks r5 ++ q2 rs ks k4 ++ q3 ++ q4 rs ks))), some (SV.fz loneD), some (SV.fz once), y8, y9, none]) := by
    unfold sFor
    rw [it]
    exact lp
  exact ⟨_, seq_nx w1 (seq_nx (e1 := [some (SV.fz s), some (SV.ow false 0 b1), some (SV.fz (hallD rs ks)), some (SV.fz (.tuple rs)), some (SV.fz (.tuple ks)), j5, j6, j7, j8, j9, none]) rfl
    (seq_nx (st1 g5) (seq_nx (st2 g4) (seq_nx st3 (seq_nx st4 (seq_nx st5 (seq_nx w7 (seq_nx w8 rfl)))))))), _, _, _, _, _, _, _, _, _, rfl⟩
theorem forOwn_all01 {i : Nat} {body : So} (I : DEnv → Prop) : ∀ (ds : List D) (e : DEnv), I e → (∀ d e, d ∈ ds → I e → ∃ e2, body (e.set i (some (SV.ow false 0 d))) = some (.nx e2) ∧ I e2) → ∃ e', forOwnGo i body ds e = some (.nx e') ∧ I e'
  | [], e, h, _ => ⟨e, rfl, h⟩
  | d :: ds, e, h, hs => by
    obtain ⟨e2, h1, h2⟩ := hs d e (by simp) h
    obtain ⟨e', h3, h4⟩ := forOwn_all01 I ds e2 h2 fun d e hd => hs d e (by simp [hd])
    exact ⟨e', by simp only [forOwnGo, h1, h3], h4⟩
theorem law_of {d : D} (h : ∃ bs : List D, F__law_bags [d, .int 12] = some (.list bs) ∧ ∀ b ∈ bs, Bag 15000 b) : F_law [d] = some (.bool true) := by
  obtain ⟨bs, hbs, hall⟩ := h
  obtain ⟨e', hg, a1, a2, a3, a4, a5, a6, a7, a8, a9, he⟩ := forOwn_all01 (i := 1) (body := L_law_1) (fun e => ∃ a1 a2 a3 a4 a5 a6 a7 a8 a9, e = [some (SV.fz d), a1, a2, a3, a4, a5, a6, a7, a8, a9, none]) bs [some (SV.fz d), none, none, none, none, none, none, none, none, none, none] ⟨_, _, _, _, _, _, _, _, _, rfl⟩ (fun b e hb ⟨a1, a2, a3, a4, a5, a6, a7, a8, a9, he⟩ => by
    subst he
    exact bag01 (hall b hb) a2 a3 a4 a5 a6 a7 a8 a9)
  have hm : mMap (lenIs 2 F__law_bags) (mCons (mVar 0) (mCons (mRet (.int 12)) (mRet []))) [some (SV.fz d), none, none, none, none, none, none, none, none, none, none] = some (.list bs, [some (SV.fz d), none, none, none, none, none, none, none, none, none, none]) :=
    mMap_ev (x := [d, .int 12]) (mCons_ev (m := mVar 0) rfl (mCons_ev (m := mRet (PyData.int 12)) rfl (n := mRet []) rfl)) ((if_pos (show [d, PyData.int 12].length = 2 from rfl)).trans hbs)
  have hfor : sForOwn 1 (mMap (lenIs 2 F__law_bags) (mCons (mVar 0) (mCons (mRet (.int 12)) (mRet [])))) L_law_1 [some (SV.fz d), none, none, none, none, none, none, none, none, none, none] = some (.nx e') := by
    unfold sForOwn
    rw [hm]
    exact hg
  show outF (B_law [some (SV.fz d), none, none, none, none, none, none, none, none, none, none]) = _
  exact ev_outF (e1 := e') (seq_nx hfor rfl)
theorem law_true (ns : List Int) : F_law [.dict [(.none, .list (ns.map PyData.int))]] = some (.bool true) := law_of (bags_okN (mo := 12) (by decide) ns)
theorem law_trueL (ns : List Int) : F_law [.list (ns.map PyData.int)] = some (.bool true) := law_of (bags_okL (mo := 12) (by decide) ns)
end Dn
set_option maxHeartbeats 0
namespace Dn
open PySem PySem.Spec PyProof.Rows L2 LamX
theorem lk_mem : ∀ {K : List (Addr × Obj)} {a : Addr} {o : Obj}, K.lookup a = some o → (a, o) ∈ K
  | [], _, _, h => by cases h
  | (b, x) :: K, a, o, h => by
    rw [List.lookup_cons] at h
    by_cases hb : (a == b) = true
    · rw [hb] at h
      cases h
      have : a = b := by simpa using hb
      rw [this]
      exact List.mem_cons_self
    · have hb' : (a == b) = false := by simpa using hb
      rw [hb'] at h
      exact List.mem_cons_of_mem _ (lk_mem h)
theorem noLst_ok {K : PySem.W.Frag} (h : noLst K = true) {a : Addr} {o : Obj} (hk : K.lookup a = some o) : ¬ o.cls = .type "list" := by
  intro hc
  have := List.all_eq_true.mp h _ (lk_mem hk)
  simp [hc] at this
theorem spJ_law {K : PySem.W.Frag} {T : Addr} {q : Str} {H : Hp} {a : Addr} {ns : List Int} (hn : noLst K = true) (hT : H T = some (.tbl #[])) (hS : SqL K H a (ns.map V.int)) : spJ T q F_law [.ref a] H (fun v _ => v = .bl true) fun _ _ _ => False := by
  have ex : Evl.Ex (fun b => if b = T then none else H b) H := fun b o e => by
    by_cases hb : b = T
    · simp [hb] at e
    · simpa [hb] using e
  have tb : TabG (fun b => if b = T then none else H b) H T q := ⟨if_pos rfl, #[], hT, True.intro, fun pos cv e => by
    have z : codeAmong pos [] = some cv := e
    simp [codeAmong] at z⟩
  have at_ : ∀ {u : HO}, H a = some u → (∀ ps, u ≠ .tbl ps) → (fun b => if b = T then none else H b) a = some u := fun {u} e n => by
    show (if a = T then none else H a) = some u
    rw [if_neg (fun z => by rw [z, hT] at e; exact n _ (Option.some.inj e).symm)]
    exact e
  rcases hS with (hS | ⟨o, hS⟩) | ⟨o, its, n, hk, hc, _⟩
  · exact ⟨_, [.list (ns.map PyData.int)], ex, tb, .cons (.lst (at_ hS fun _ z => by cases z) (RpAll.ofInts ns)) .nil, rfl, law_trueL ns, fun _ => rfl⟩
  · exact ⟨_, [.dict [(.none, .list (ns.map PyData.int))]], ex, tb, .cons (.scr (at_ hS fun _ z => by cases z) (RpAll.ofInts ns)) .nil, rfl, law_true ns, fun _ => rfl⟩
  · exact absurd hc (noLst_ok hn hk)
end Dn
open PySem PySem.W PySem.Calls PyProof.Rows
theorem PySem.Challenge.cw_hallback_k01_what_are_halls_holds : PySem.Challenge.rw_hallback_k01_what_are_halls.Holds := by
  w_on; o_law
  refine HandSHeadRun.head_imp (r := OpenLaw.row PySem.Challenge.rw_hallback_k01_what_are_halls) (q := view (OpenLaw.row PySem.Challenge.rw_hallback_k01_what_are_halls).prog [0, 153]) (H := Dn.hk) (ob := Dn.ob) (M := 20000) (loose := Dn.looseN) (d := HandSHeadRun.topDef (OpenLaw.row PySem.Challenge.rw_hallback_k01_what_are_halls).prog 153) (kwd := []) Dn.ob_eq
    Dn.run (by kernel_rfl) (by kernel_rfl) (by kernel_rfl) (by rfl) (by first | assumption | decide +kernel) (by decide +kernel) ⟨rfl, rfl, rfl, rfl, rfl, by decide +kernel⟩ ?hw ?hc
  case hw => w_witness2
  case hc =>
    refine LamX.walk_ofTsE (l := PySem.Challenge.rw_hallback_k01_what_are_halls) (n := 63) (k := 20) (x := "script") (CX := fun _ => L2.CX0) rfl (by decide) (by kernel_rfl) ⟨rfl, by decide, by decide⟩ ?F (fun _ _ _ _ _ z => z)
    intro w mg fa h Y G hmg0
    obtain ⟨K, KX, sx⟩ := Y
    have hmg : mg ("law" : PySem.Str) = some (.ref fa) := by
      have e : (HandSHeadRun.topDef (OpenLaw.row PySem.Challenge.rw_hallback_k01_what_are_halls).prog 153).name = ("law" : PySem.Str) := by kernel_rfl
      rw [← e]
      exact hmg0
    have all := Dn.all_ok (P := (PySem.Challenge.rw_hallback_k01_what_are_halls).prog) (w := w) KX G sx.t.d sx.more
    obtain ⟨f, fd, h1, h2, h3⟩ := all
    rw [h1] at hmg
    cases hmg
    have one : ∀ p ∈ [He.cT K ("_law_doors", none)], p = He.cT K ("_law_doors", none) := fun p hp => List.mem_singleton.mp hp
    have mem : (("_law_doors", none) : He.Defn) ∈ Dn.tfD := List.mem_singleton.mpr rfl
    refine ⟨K, KX, fd, [He.cT K ("_law_doors", none)], Dn.spJ (He.cT K ("_law_doors", none)).2 "_law_doors.<locals>.<lambda>" Dn.F_law, fun p hp => ?_, fun p hp => ?_, fun p hp => ?_, h2, fun H a ns hl hb hT hS => ?_, fun base _ _ hTB => h3 base (hTB _ (List.mem_singleton.mpr rfl))⟩
    · rw [one p hp]; exact sx.empty _ mem
    · rw [one p hp]; exact sx.out _ mem
    · rw [one p hp]; exact PySem.W.codeHd_of_K KX (sx.hd _ mem)
    · exact Dn.spJ_law (Dn.ba sx.more).1 (hT _ (List.mem_singleton.mpr rfl)) hS
