import PyProof.Rows.All
import HandS.Base
import HandS.Call
import HandS.List
import HandS.Comp
import KE.KDictKeyed
import HandS.Dict
import HandS.Ends
import HandS.Iter
import HandS.Exc
import HandS.ExcOwn
import HandS.TryOnly
import HandS.Words
import HandS.IsInst
import HandS.TupAny
import HandS.TupMul
import HandS.Deep
import HandS.Style
import HandS.Rev
import HandS.Wide
import HandS.Walk
import HandS.Text
import HandS.StrMore
import HandS.RaiseMore
import PyProof.StrOps2
import HandS.WordsExc
import HandS.ExcIs
import HandS.Head0
import HandS.Head1
import HandS.Head2
import HandS.HeadEnd
import HandS.HeadHook1
import HandS.EndBits
import HandS.DictComp
import KE.KDictDisplayH
import KE.KDictCopyH
import KE.KDictWalk
import KE.SortData
import KE.KDictSum
import HandS.More
import HandS.CallLocal
import HandS.Codes
import KE.DataCmp
import KE.DataAny
import PySem.Challenge.RW_fencewright_k12_written_and_read
set_option Elab.async false
set_option linter.all false
set_option maxRecDepth 100000
set_option maxHeartbeats 4000000
namespace Fw
open PySem PySem.Spec PyProof.Rows L2
/-- the kept part of the heap, and the world that a hash asks -/
structure KW where
  F : PySem.W.Frag
  w : World
  fa : Str → Addr
instance : CoeOut KW PySem.W.Frag := ⟨KW.F⟩
/-! ### dicts by keys of any depth: an object of one's own -/
abbrev NK := NestedKey
abbrev Ents := List (NK × Addr × Value)
abbrev kN (P : Program) (w : World) : HeapKind P w NK := nestedKind P w
/-- at a stands a dict with just these entries -/
def dN (w : World) (a : Addr) (ep : Nat) (xs : Ents) : HO := .ext fun h => xs.length ≤ sizeLine ∧ (a == sysModules) = false ∧ ∃ o es, h.get? a = some o ∧ o.ExactDict ∧ o.data = .dict es ep ∧ es.toList = xs.map (fun x => ⟨x.1.hash w, .ref x.2.1, x.2.2⟩) ∧ (xs.map (·.1)).Nodup
mutual
/-- a value that is a key -/
inductive Ky (K : PySem.W.Frag) (H : Hp) : NK → V → Prop
  | non : Ky K H .none .non
  | bl (b : Bool) : Ky K H (.num (if b = true then 1 else 0)) (.bl b)
  | int (i : Int) : Ky K H (.num i) (.int i)
  | str (x : Str) : Ky K H (.text x) (.str x)
  | tup {a : Addr} {vs : List V} {ks : List NK} : SqT K H a vs → KyA K H ks vs → Ky K H (.tup ks) (.ref a)
inductive KyA (K : PySem.W.Frag) (H : Hp) : List NK → List V → Prop
  | nil : KyA K H [] []
  | cons {k : NK} {ks : List NK} {v : V} {vs : List V} : Ky K H k v → KyA K H ks vs → KyA K H (k :: ks) (v :: vs)
end
section
variable {X : Cx} {pins : List (Addr × Obj)} {σ : L2.St} {H : Hp} {s : Shared}
mutual
theorem ky_is (I : Inv X pins σ H s) : ∀ {k : NK} {v : V} {u : Value}, Ky X.K H k v → RelV v u → NestedIs s.heap k u
  | _, _, u, .non, r => by
    obtain rfl : u = Value.none := r
    exact .none
  | _, _, u, .bl b, r => by
    obtain rfl : u = Value.bool b := r
    exact .bool rfl
  | _, _, u, .int i, r => by
    obtain ⟨t, rfl⟩ := (show ∃ t, u = Value.int i t from r)
    exact .int i t
  | _, _, u, .str x, r => by
    obtain ⟨t, rfl⟩ := (show ∃ t, u = Value.str x t from r)
    exact .text x t
  | _, _, u, .tup h t, r => by
    cases (show u = Value.ref _ from r)
    obtain ⟨its, rv, ⟨o, ho, hc, n, hd⟩, _⟩ := I.tuple h
    exact .tup ho hc hd (kya_is I t rv)
theorem kya_is (I : Inv X pins σ H s) : ∀ {ks : List NK} {vs : List V} {us : List Value}, KyA X.K H ks vs → Vals vs us → NestedAll s.heap ks us
  | _, _, _, .nil, r => by cases r; exact .nil
  | _, _, _, .cons h t, r => by
    cases r with
    | cons a b => exact .cons (ky_is I h a) (kya_is I t b)
end
/-- the keys of a dict, where they stand -/
def Kys (K : PySem.W.Frag) (H : Hp) (xs : Ents) : Prop := ∀ x ∈ xs, Ky K H x.1 (.ref x.2.1) ∧ x.1.depth ≤ 8
theorem dn_of {ep : Nat} {a : Addr} {xs : Ents} (I : Inv X pins σ H s) (e : H a = some (dN X.w a ep xs)) (ks : Kys X.K H xs) : xs.length ≤ sizeLine ∧ (a == sysModules) = false ∧ s.heap.DictOfH (kN X.prog X.w) a xs := by
  obtain ⟨⟨z, q, o, es, h1, h2, h3, h4, h5⟩, _, _⟩ := I.hok a _ e
  exact ⟨z, q, o, es, ep, h1, h2, h3, h4, fun x hx => ⟨ky_is I (ks x hx).1 rfl, (ks x hx).2⟩, h5⟩
theorem dn_new {P : Program} {w : World} {H' : Hp} {h' : Heap} {a : Addr} {xs : Ents} (z : xs.length ≤ sizeLine) (hd : (a == sysModules) = false) (d : h'.DictOfH (kN P w) a xs) : ∃ ep, ObjOk P w H' h' a (dN w a ep xs) := by
  obtain ⟨o, es, ep, h1, h2, h3, h4, h5, h6⟩ := d
  refine ⟨ep, ⟨z, hd, o, es, h1, h2, h3, h4, h6⟩, ⟨o, h1⟩, fun g1 g2 p k => ?_⟩
  obtain ⟨y, q, o, es, e1, e2⟩ := p
  exact ⟨y, q, o, es, k o e1, e2⟩
theorem stored_len (xs : Ents) (k : NK) (b : Addr) (r : Value) : (storedH xs k b r).length ≤ xs.length + 1 := by
  unfold storedH
  split
  · rw [List.length_map]
    exact Nat.le_succ _
  · rw [List.length_append]
    exact Nat.le_refl _
variable {a b : Addr} {ep : Nat} {xs : Ents} {k : NK} {A : Around} {E : Value → Shared → Prop}
theorem dn_in {Q : Value → Shared → Prop} (hu : A.units + 9 < cLine) (I : Inv X pins σ H s) (e : H a = some (dN X.w a ep xs)) (ks : Kys X.K H xs) (hk : Ky X.K H k (.ref b)) (h8 : k.depth ≤ 8)
    (h : ∀ s', Inv X pins σ H s' → Q (.bool (atKey xs k).isSome) s') : wpAny (model X.prog X.w) A (compareOp .In (.ref b) (.ref a)) Q E s := by
  obtain ⟨_, hd, d⟩ := dn_of I e ks
  exact wpAny_in_heap (knd := kN X.prog X.w) (show A.units + 1 + 8 < cLine by omega) ⟨ky_is I hk rfl, h8⟩ hd d (h _ (I.tok _))
theorem dn_get {Q : Value → Shared → Prop} {p : Addr × Value} (hu : A.units + 9 < cLine) (I : Inv X pins σ H s) (e : H a = some (dN X.w a ep xs)) (ks : Kys X.K H xs) (hk : Ky X.K H k (.ref b)) (h8 : k.depth ≤ 8) (hp : atKey xs k = some p)
    (h : ∀ s', Inv X pins σ H s' → Q p.2 s') : wpAny (model X.prog X.w) A (getItem (.ref a) (.ref b)) Q E s := by
  obtain ⟨_, hd, d⟩ := dn_of I e ks
  exact wpAny_getItem_heap (knd := kN X.prog X.w) (show A.units + 1 + 8 < cLine by omega) ⟨ky_is I hk rfl, h8⟩ d hp (h _ (I.tok _))
theorem dn_put {Q : Unit → Shared → Prop} {r : Value} (hu : A.units + 9 < cLine) (I : Inv X pins σ H s) (e : H a = some (dN X.w a ep xs)) (ks : Kys X.K H xs) (hk : Ky X.K H k (.ref b)) (h8 : k.depth ≤ 8) (hz : xs.length < sizeLine)
    (h : ∀ s' ep', Inv X pins σ (upd H a (dN X.w a ep' (storedH xs k b r))) s' → Q () s') : wpAny (model X.prog X.w) A (setItem (.ref a) (.ref b) r) Q E s := by
  obtain ⟨z, hd, d⟩ := dn_of I e ks
  refine wpAny_setItem_heap (knd := kN X.prog X.w) (hsz := z) (show A.units + 1 + 8 < cLine by omega) ⟨ky_is I hk rfl, h8⟩ d fun h' d' hs => ?_
  obtain ⟨ep', d2⟩ := dn_new (H' := upd H a (dN X.w a 0 [])) (Nat.le_trans (stored_len xs k b r) hz) hd d'
  exact h _ ep' (d_write I (by rw [e]; trivial) hs (by obtain ⟨o, _, _, q, _⟩ := d'; exact ⟨o, q⟩) d2)
theorem dn_lay {Q : Unit → Shared → Prop} {r : Value} (hu : A.units + 8 < cLine) (I : Inv X pins σ H s) (e : H a = some (dN X.w a ep xs)) (ks : Kys X.K H xs) (hk : Ky X.K H k (.ref b)) (h8 : k.depth ≤ 8) (hz : xs.length < sizeLine)
    (h : ∀ s' ep', Inv X pins σ (upd H a (dN X.w a ep' (storedH xs k b r))) s' → Q () s') : wpAny (model X.prog X.w) A (dictSet a (.ref b) r) Q E s := by
  obtain ⟨z, hd, d⟩ := dn_of I e ks
  refine wpAny_dictSet_heap (knd := kN X.prog X.w) (hsz := z) hu ⟨ky_is I hk rfl, h8⟩ d fun h' d' hs => ?_
  obtain ⟨ep', d2⟩ := dn_new (H' := upd H a (dN X.w a 0 [])) (Nat.le_trans (stored_len xs k b r) hz) hd d'
  exact h _ ep' (d_write I (by rw [e]; trivial) hs (by obtain ⟨o, _, _, q, _⟩ := d'; exact ⟨o, q⟩) d2)
/-- a dict of no entries, just made -/
theorem dn_nil {P : Program} {w : World} {H : Hp} (h : Heap) (hb : sysModules < h.objs.size) : ObjOk P w H (h.push { cls := .type "dict", data := .dict #[] }) h.objs.size (dN w h.objs.size 0 []) :=
  ⟨⟨Nat.zero_le _, beq_eq_false_iff_ne.mpr (Ne.symm (Nat.ne_of_lt hb)), _, #[], Heap.get?_push_size _ rfl, ⟨rfl, rfl, rfl⟩, rfl, rfl, List.nodup_nil⟩, ⟨_, Heap.get?_push_size _ rfl⟩, fun g1 g2 p k => by
    obtain ⟨y, q, o, es, e1, e2⟩ := p
    exact ⟨y, q, o, es, k o e1, e2⟩⟩
/-- y in a dict -/
def rInN (K : KW) (neg : Bool) : R2 := fun y x H Q => ∃ a b ep xs k, x = .ref a ∧ y = .ref b ∧ H a = some (dN K.w a ep xs) ∧ Kys K.F H xs ∧ Ky K.F H k (.ref b) ∧ k.depth ≤ 8 ∧ Q (.bl ((atKey xs k).isSome != neg)) H
theorem op_inN {fa : Str → Addr} (hu : X.A.units + 9 < cLine) : OpR X (compareOp .In) (rInN ⟨X.K, X.w, fa⟩ false) := by
  intro pins s σ H x y v u Q I rx ry h
  obtain ⟨a, b, ep, xs, k, rfl, rfl, e, ks, hk, h8, q⟩ := h
  cases (show u = Value.ref a from ry)
  cases (show v = Value.ref b from rx)
  exact dn_in hu I e ks hk h8 fun s3 I3 => ⟨.bl _, H, I3, rfl, by rw [Bool.bne_false] at q; exact q⟩
theorem op_notInN {fa : Str → Addr} (hu : X.A.units + 9 < cLine) : OpR X (compareOp .NotIn) (rInN ⟨X.K, X.w, fa⟩ true) := by
  intro pins s σ H x y v u Q I rx ry h
  obtain ⟨a, b, ep, xs, k, rfl, rfl, e, ks, hk, h8, q⟩ := h
  cases (show u = Value.ref a from ry)
  cases (show v = Value.ref b from rx)
  obtain ⟨_, hd, d⟩ := dn_of I e ks
  refine notIn_keyed (knd := kN X.prog X.w) (kvs := pairsH xs) (show X.A.units + 1 + 8 < cLine by omega) ⟨ky_is I hk rfl, h8⟩ hd ⟨xs, d, rfl⟩ ?_
  rw [valueAt_pairsH, Option.isSome_map]
  exact ⟨.bl _, H, I.tok _, rfl, by rw [Bool.bne_true] at q; exact q⟩
end
end Fw

set_option Elab.async false
set_option linter.all false
set_option maxRecDepth 100000
set_option maxHeartbeats 4000000
namespace Fw
open PySem PySem.Spec PyProof.Rows L2

abbrev D := PyData

/-! ### heaps that grow -/
theorem same_upd {H : Hp} {p : Addr} {o : HO} (h : H p = none) : Same H (upd H p o) := fun b x e => by
  rw [upd_ne (ne_of_none e h)]
  exact e
theorem same_rd {H H' : Hp} {a : Addr} {u : HO} (e : Same H H') (h : Rd H a u) : Rd H' a u := by
  rcases h with h | ⟨o, h⟩
  · exact .inl (e a _ h)
  · exact .inr ⟨o, e a _ h⟩
theorem same_l {K : KW} {H H' : Hp} {a : Addr} {xs : List V} (e : Same H H') (h : SqL K H a xs) : SqL K H' a xs := by
  rcases h with h | h
  · exact .inl (same_rd e h)
  · exact .inr h
theorem same_t {K : KW} {H H' : Hp} {a : Addr} {xs : List V} (e : Same H H') (h : SqT K H a xs) : SqT K H' a xs := by
  rcases h with h | h
  · exact .inl (same_rd e h)
  · exact .inr h
/-! ### values and what they tell: data; the script, read alone; dicts by keys that are tuples -/
mutual
/-- the key that data is -/
def nk : D → Option NK
  | .none => some .none
  | .bool b => some (.num (if b = true then 1 else 0))
  | .int i => some (.num i)
  | .str x => some (.text x)
  | .tuple ds => (nks ds).map NestedKey.tup
  | .list _ => none
  | .dict _ => none
def nks : List D → Option (List NK)
  | [] => some []
  | d :: ds => (nk d).bind fun k => (nks ds).map fun ks => k :: ks
end
/-- a def, as data of its own -/
def fnD (x : Str) : D := .dict [(.bool true, .str x)]
/-- a dict by ints and texts of which nothing more is told -/
def dkD : D := .dict [(.bool false, .none)]
/-- the script, as data of its own -/
def scr (ns : List Int) : D := .dict [(.none, .list (ns.map .int))]
mutual
inductive Rp (K : KW) (G : Hp) : V → D → Prop
  | non : Rp K G .non .none
  | bl (b : Bool) : Rp K G (.bl b) (.bool b)
  | int (i : Int) : Rp K G (.int i) (.int i)
  | str (x : Str) : Rp K G (.str x) (.str x)
  | lst {a : Addr} {xs : List V} {ds : List D} : G a = some (.lst xs) → RpL K G xs ds → Rp K G (.ref a) (.list ds)
  | tup {a : Addr} {xs : List V} {ds : List D} : SqT K G a xs → RpL K G xs ds → Rp K G (.ref a) (.tuple ds)
  | scr {a : Addr} {ns : List Int} : SqL K G a (ns.map V.int) → Rp K G (.ref a) (scr ns)
  | fn (x : Str) : Rp K G (.ref (K.fa x)) (fnD x)
  | dk {a : Addr} {kvs : List (Key × V)} : G a = some (.dK kvs) → Rp K G (.ref a) dkD
  | dic {a : Addr} {ep : Nat} {xs : Ents} {kds ds : List D} {vs : List V} : G a = some (dN K.w a ep xs) → RpL K G (xs.map fun x => V.ref x.2.1) kds → kds.map nk = xs.map (fun x => some x.1) → (∀ x ∈ xs, x.1.depth ≤ 8) → Vals vs (xs.map fun x => x.2.2) → RpL K G vs ds → Rp K G (.ref a) (.dict (kds.zip ds))
inductive RpL (K : KW) (G : Hp) : List V → List D → Prop
  | nil : RpL K G [] []
  | cons {v : V} {vs : List V} {d : D} {ds : List D} : Rp K G v d → RpL K G vs ds → RpL K G (v :: vs) (d :: ds)
end
mutual
theorem rp_lift {K : KW} {G G' : Hp} (e : Same G G') : ∀ {v : V} {d : D}, Rp K G v d → Rp K G' v d
  | _, _, .non => .non
  | _, _, .bl b => .bl b
  | _, _, .int i => .int i
  | _, _, .str x => .str x
  | _, _, .lst h t => .lst (e _ _ h) (rpl_lift e t)
  | _, _, .tup h t => .tup (same_t e h) (rpl_lift e t)
  | _, _, .scr h => .scr (same_l e h)
  | _, _, .fn x => .fn x
  | _, _, .dk h => .dk (e _ _ h)
  | _, _, .dic h t1 c d r t => .dic (e _ _ h) (rpl_lift e t1) c d r (rpl_lift e t)
theorem rpl_lift {K : KW} {G G' : Hp} (e : Same G G') : ∀ {vs : List V} {ds : List D}, RpL K G vs ds → RpL K G' vs ds
  | _, _, .nil => .nil
  | _, _, .cons h t => .cons (rp_lift e h) (rpl_lift e t)
end

/-! ### what a dict holds, entry by entry -/
inductive DRel (K : KW) (G : Hp) : Ents → List (D × D) → Prop
  | nil : DRel K G [] []
  | cons {x : NK × Addr × Value} {xs : Ents} {kd d : D} {kvs : List (D × D)} {v : V} : Rp K G (.ref x.2.1) kd → nk kd = some x.1 → x.1.depth ≤ 8 → RelV v x.2.2 → Rp K G v d → DRel K G xs kvs → DRel K G (x :: xs) ((kd, d) :: kvs)
theorem DRel.lift {K : KW} {G G' : Hp} (e : Same G G') : ∀ {xs : Ents} {kvs : List (D × D)}, DRel K G xs kvs → DRel K G' xs kvs
  | _, _, .nil => .nil
  | _, _, .cons a b c r q t => .cons (rp_lift e a) b c r (rp_lift e q) (DRel.lift e t)
theorem DRel.parts {K : KW} {G : Hp} : ∀ {xs : Ents} {kvs : List (D × D)}, DRel K G xs kvs → ∃ kds ds vs, kvs = kds.zip ds ∧ RpL K G (xs.map fun x => V.ref x.2.1) kds ∧ kds.map nk = xs.map (fun x => some x.1) ∧ (∀ x ∈ xs, x.1.depth ≤ 8) ∧ Vals vs (xs.map fun x => x.2.2) ∧ RpL K G vs ds
  | _, _, .nil => ⟨[], [], [], rfl, .nil, rfl, fun x hx => absurd hx List.not_mem_nil, .nil, .nil⟩
  | _, _, .cons a b c r q t => by
    obtain ⟨kds, ds, vs, e, h1, h2, h3, h4, h5⟩ := DRel.parts t
    refine ⟨_ :: kds, _ :: ds, _ :: vs, by rw [List.zip_cons_cons, ← e], .cons a h1, by rw [List.map_cons, List.map_cons, b, h2], fun y hy => ?_, .cons r h4, .cons q h5⟩
    rcases List.mem_cons.mp hy with z | z
    · rw [z]; exact c
    · exact h3 y z
theorem DRel.rp {K : KW} {G : Hp} {a : Addr} {ep : Nat} {xs : Ents} {kvs : List (D × D)} (t : DRel K G xs kvs) (e : G a = some (dN K.w a ep xs)) : Rp K G (.ref a) (.dict kvs) := by
  obtain ⟨kds, ds, vs, rfl, h1, h2, h3, h4, h5⟩ := t.parts
  exact .dic e h1 h2 h3 h4 h5
theorem DRel.of {K : KW} {G : Hp} : ∀ {xs : Ents} {kds ds : List D} {vs : List V}, RpL K G (xs.map fun x => V.ref x.2.1) kds → kds.map nk = xs.map (fun x => some x.1) → (∀ x ∈ xs, x.1.depth ≤ 8) → Vals vs (xs.map fun x => x.2.2) → RpL K G vs ds → DRel K G xs (kds.zip ds)
  | [], _, _, _, h, _, _, r, q => by
    cases h
    exact .nil
  | x :: xs, _, _, _, h, c, dp, r, q => by
    cases h with
    | cons a t1 =>
      cases r with
      | cons r rv =>
        cases q with
        | cons q t =>
          injection c with c1 c2
          exact .cons a c1 (dp x List.mem_cons_self) r q (DRel.of t1 c2 (fun y hy => dp y (List.mem_cons_of_mem _ hy)) rv t)
/-! ### what may change -/
structure MO where
  o : HO
  nt : ∀ xs, o ≠ .tup xs ∧ ∀ u, o ≠ .frz u (.tup xs)
def MO.l (xs : List V) : MO := ⟨.lst xs, fun _ => ⟨fun h => (by cases h), fun _ h => (by cases h)⟩⟩
def MO.d (w : World) (a : Addr) (ep : Nat) (xs : Ents) : MO := ⟨dN w a ep xs, fun _ => ⟨fun h => (by cases h), fun _ h => (by cases h)⟩⟩
/-! ### data without lists -/
mutual
def noList : D → Bool
  | .none => true
  | .bool _ => true
  | .int _ => true
  | .str _ => true
  | .list _ => false
  | .tuple ds => noListAll ds
  | .dict _ => false
def noListAll : List D → Bool
  | [] => true
  | d :: ds => noList d && noListAll ds
end
def isList : D → Bool
  | .list _ => true
  | .dict _ => true
  | _ => false

/-! ### lists that are one's own: a tree of lists, by its footprint; its leaves are data of the quiet part G -/
mutual
inductive Ow (K : KW) (b : Bool) (G H : Hp) : List Addr → V → D → Prop
  | leaf {v : V} {d : D} : Rp K G v d → (b = true → noList d = true) → Ow K b G H [] v d
  | node {p : Addr} {vs : List V} {ds : List D} {F : List Addr} : H p = some (.lst vs) → OwL K b G H F vs ds → Ow K b G H (p :: F) (.ref p) (.list ds)
  | dic {p : Addr} {ep : Nat} {xs : Ents} {kvs : List (D × D)} : H p = some (dN K.w p ep xs) → DRel K G xs kvs → (b = true → noListAll (kvs.map (·.2)) = true) → Ow K b G H [p] (.ref p) (.dict kvs)
inductive OwL (K : KW) (b : Bool) (G H : Hp) : List Addr → List V → List D → Prop
  | nil : OwL K b G H [] [] []
  | cons {F1 F2 : List Addr} {v : V} {d : D} {vs : List V} {ds : List D} : Ow K b G H F1 v d → OwL K b G H F2 vs ds → OwL K b G H (F1 ++ F2) (v :: vs) (d :: ds)
end

mutual
/-- moved to other heaps that hold the same at the footprint -/
theorem ow_move {K : KW} {b : Bool} {G G' H H' : Hp} (e : Same G G') : ∀ {F : List Addr} {v : V} {d : D}, Ow K b G H F v d → (∀ a ∈ F, H' a = H a) → Ow K b G' H' F v d
  | _, _, _, .leaf h c, _ => .leaf (rp_lift e h) c
  | _, _, _, .node hp hl, k => .node ((k _ List.mem_cons_self).trans hp) (owl_move e hl fun a ha => k a (List.mem_cons_of_mem _ ha))
  | _, _, _, .dic hp r c, k => .dic ((k _ List.mem_cons_self).trans hp) (r.lift e) c
theorem owl_move {K : KW} {b : Bool} {G G' H H' : Hp} (e : Same G G') : ∀ {F : List Addr} {vs : List V} {ds : List D}, OwL K b G H F vs ds → (∀ a ∈ F, H' a = H a) → OwL K b G' H' F vs ds
  | _, _, _, .nil, _ => .nil
  | _, _, _, .cons h t, k => .cons (ow_move e h fun a ha => k a (List.mem_append_left _ ha)) (owl_move e t fun a ha => k a (List.mem_append_right _ ha))
end
mutual
/-- what is one's own, read as data of a heap that holds it -/
theorem ow_rp {K : KW} {b : Bool} {G G' H : Hp} (e : Same G G') : ∀ {F : List Addr} {v : V} {d : D}, Ow K b G H F v d → (∀ a ∈ F, G' a = H a) → Rp K G' v d
  | _, _, _, .leaf h _, _ => rp_lift e h
  | _, _, _, .node hp hl, k => .lst ((k _ List.mem_cons_self).trans hp) (owl_rp e hl fun a ha => k a (List.mem_cons_of_mem _ ha))
  | _, _, _, .dic hp r _, k => (r.lift e).rp ((k _ List.mem_cons_self).trans hp)
theorem owl_rp {K : KW} {b : Bool} {G G' H : Hp} (e : Same G G') : ∀ {F : List Addr} {vs : List V} {ds : List D}, OwL K b G H F vs ds → (∀ a ∈ F, G' a = H a) → RpL K G' vs ds
  | _, _, _, .nil, _ => .nil
  | _, _, _, .cons h t, k => .cons (ow_rp e h fun a ha => k a (List.mem_append_left _ ha)) (owl_rp e t fun a ha => k a (List.mem_append_right _ ha))
end
mutual
/-- the nodes are lists -/
theorem ow_lst {K : KW} {b : Bool} {G H : Hp} : ∀ {F : List Addr} {v : V} {d : D}, Ow K b G H F v d → ∀ a ∈ F, ∃ xs : MO, H a = some xs.o
  | _, _, _, .leaf _ _, a, ha => by cases ha
  | _, _, _, .node hp hl, a, ha => by
    rcases List.mem_cons.mp ha with rfl | ha
    · exact ⟨.l _, hp⟩
    · exact owl_lst hl a ha
  | _, _, _, .dic hp _ _, a, ha => by
    rw [List.mem_singleton.mp ha]
    exact ⟨.d _ _ _ _, hp⟩
theorem owl_lst {K : KW} {b : Bool} {G H : Hp} : ∀ {F : List Addr} {vs : List V} {ds : List D}, OwL K b G H F vs ds → ∀ a ∈ F, ∃ xs : MO, H a = some xs.o
  | _, _, _, .nil, a, ha => by cases ha
  | _, _, _, .cons h t, a, ha => by
    rcases List.mem_append.mp ha with ha | ha
    · exact ow_lst h a ha
    · exact owl_lst t a ha
end
theorem owl_leaves {K : KW} {b : Bool} {G H : Hp} : ∀ {vs : List V} {ds : List D}, RpL K G vs ds → (b = true → noListAll ds = true) → OwL K b G H [] vs ds
  | _, _, .nil, _ => .nil
  | _, _, .cons h t, c => .cons (F1 := []) (F2 := []) (.leaf h fun e => (Bool.and_eq_true _ _ ▸ c e).1) (owl_leaves t fun e => (Bool.and_eq_true _ _ ▸ c e).2)
/-- what is made: no list, or a list of one's own -/
inductive On (K : KW) (b : Bool) (G H : Hp) : List Addr → V → D → Prop
  | dic {p : Addr} {ep : Nat} {xs : Ents} {kvs : List (D × D)} : H p = some (dN K.w p ep xs) → DRel K G xs kvs → (b = true → noListAll (kvs.map (·.2)) = true) → On K b G H [p] (.ref p) (.dict kvs)
  | val {v : V} {d : D} : Rp K G v d → isList d = false → (b = true → noList d = true) → On K b G H [] v d
  | node {p : Addr} {vs : List V} {ds : List D} {F : List Addr} : H p = some (.lst vs) → OwL K b G H F vs ds → On K b G H (p :: F) (.ref p) (.list ds)
theorem on_ow {K : KW} {b : Bool} {G H : Hp} {F : List Addr} {v : V} {d : D} (h : On K b G H F v d) : Ow K b G H F v d := by
  cases h with
  | val r _ c => exact .leaf r c
  | node hp hl => exact .node hp hl
  | dic hp r c => exact .dic hp r c
theorem on_move {K : KW} {b : Bool} {G G' H H' : Hp} (e : Same G G') {F : List Addr} {v : V} {d : D} (h : On K b G H F v d) (k : ∀ a ∈ F, H' a = H a) : On K b G' H' F v d := by
  cases h with
  | val r i c => exact .val (rp_lift e r) i c
  | node hp hl => exact .node ((k _ List.mem_cons_self).trans hp) (owl_move e hl fun a ha => k a (List.mem_cons_of_mem _ ha))
  | dic hp r c => exact .dic ((k _ List.mem_cons_self).trans hp) (r.lift e) c
theorem rpl_len {K : KW} {G : Hp} : ∀ {vs : List V} {ds : List D}, RpL K G vs ds → vs.length = ds.length
  | _, _, .nil => rfl
  | _, _, .cons _ t => by rw [List.length_cons, List.length_cons, rpl_len t]
theorem rpl_get {K : KW} {G : Hp} : ∀ {vs : List V} {ds : List D} {i : Nat}, RpL K G vs ds → ∀ {d : D}, ds[i]? = some d → ∃ v, vs[i]? = some v ∧ Rp K G v d
  | _, _, _, .nil, _, h => by simp at h
  | _, _, 0, .cons h _, d, e => by
    have e' := Option.some.inj e
    subst e'
    exact ⟨_, rfl, h⟩
  | _, _, i + 1, .cons _ t, d, e => rpl_get (i := i) t e
theorem rpl_app {K : KW} {G : Hp} : ∀ {vs ws : List V} {ds es : List D}, RpL K G vs ds → RpL K G ws es → RpL K G (vs ++ ws) (ds ++ es)
  | _, _, _, _, .nil, h => h
  | _, _, _, _, .cons h t, h2 => .cons h (rpl_app t h2)
theorem owl_len {K : KW} {b : Bool} {G H : Hp} : ∀ {F : List Addr} {vs : List V} {ds : List D}, OwL K b G H F vs ds → vs.length = ds.length
  | _, _, _, .nil => rfl
  | _, _, _, .cons _ t => by rw [List.length_cons, List.length_cons, owl_len t]
theorem owl_app {K : KW} {b : Bool} {G H : Hp} : ∀ {F1 F2 : List Addr} {vs ws : List V} {ds es : List D}, OwL K b G H F1 vs ds → OwL K b G H F2 ws es → OwL K b G H (F1 ++ F2) (vs ++ ws) (ds ++ es)
  | _, _, _, _, _, _, .nil, h => h
  | _, _, _, _, _, _, .cons (F1 := A) (F2 := B) h t, h2 => by
    rw [List.append_assoc]
    exact .cons h (owl_app t h2)

/-! ### the state: slots -/
inductive Sl where
  | no
  | p (d : D)
  | o (r : Option Nat) (b : Bool) (d : D)
abbrev Rho := List Sl
inductive Slr (K : KW) (vs0 : List V) (G H : Hp) : L2.St → Rho → List Addr → Prop
  | nil : Slr K vs0 G H [] [] []
  | no {x : Option V} {σ : L2.St} {ρ : Rho} {F : List Addr} : Slr K vs0 G H σ ρ F → Slr K vs0 G H (x :: σ) (.no :: ρ) F
  | p {v : V} {d : D} {σ : L2.St} {ρ : Rho} {F : List Addr} : Rp K G v d → Slr K vs0 G H σ ρ F → Slr K vs0 G H (some v :: σ) (.p d :: ρ) F
  | o {v : V} {d : D} {r : Option Nat} {b : Bool} {σ : L2.St} {ρ : Rho} {F1 F2 : List Addr} : On K b G H F1 v d → (∀ j, r = some j → vs0[j]? = some v) → Slr K vs0 G H σ ρ F2 → Slr K vs0 G H (some v :: σ) (.o r b d :: ρ) (F1 ++ F2)
structure Sts (K : KW) (vs0 : List V) (G H : Hp) (σ : L2.St) (ρ : Rho) (F : List Addr) : Prop where
  same : Same G H
  rel : Slr K vs0 G H σ ρ F
  nd : F.Nodup
  out : ∀ a ∈ F, G a = none
/-- what came to pass: the old stands but for one's own; what is told anew is new -/
structure Adv (F : List Addr) (G H : Hp) (F' : List Addr) (G' H' : Hp) : Prop where
  keep : ∀ a o, H a = some o → a ∉ F → H' a = some o
  foot : ∀ a ∈ F', a ∈ F ∨ H a = none
  same : Same G G'
  quiet : ∀ a, H a ≠ none → a ∉ F → G' a = G a
structure New (G H G' H' : Hp) : Prop where
  keep : Same H H'
  inn : Same G' H'
  quiet : ∀ a, H a ≠ none → G' a = G a

theorem nn_of {H : Hp} {a : Addr} {o : HO} (h : H a = some o) : H a ≠ none := by rw [h]; simp
theorem New.same {G H G' H' : Hp} (n : New G H G' H') (s : Same G H) : Same G G' := fun a o e => by
  rw [n.quiet a (nn_of (s a o e))]
  exact e
theorem New.refl {G H : Hp} (s : Same G H) : New G H G H := ⟨Same.refl _, s, fun _ _ => rfl⟩
theorem New.trans {G H G1 H1 G2 H2 : Hp} (a : New G H G1 H1) (b : New G1 H1 G2 H2) : New G H G2 H2 where
  keep := a.keep.trans b.keep
  inn := b.inn
  quiet := fun x hx => by
    have h1 : H1 x ≠ none := by
      cases e : H x with
      | none => exact absurd e hx
      | some o => exact nn_of (a.keep x o e)
    rw [b.quiet x h1, a.quiet x hx]
theorem Adv.refl {F : List Addr} {G H : Hp} : Adv F G H F G H := ⟨fun _ _ h _ => h, fun _ h => .inl h, Same.refl _, fun _ _ _ => rfl⟩
theorem Adv.trans {F F1 F2 : List Addr} {G H G1 H1 G2 H2 : Hp} (a : Adv F G H F1 G1 H1) (b : Adv F1 G1 H1 F2 G2 H2) : Adv F G H F2 G2 H2 := by
  have k : ∀ x, H x ≠ none → x ∉ F → x ∉ F1 := fun x hx hf h1 => by
    rcases a.foot x h1 with h | h
    · exact hf h
    · exact hx h
  refine ⟨fun x o hx hf => b.keep x o (a.keep x o hx hf) (k x (nn_of hx) hf), fun x hx => ?_, a.same.trans b.same, fun x hx hf => ?_⟩
  · rcases b.foot x hx with h | h
    · exact a.foot x h
    · by_cases hf : x ∈ F
      · exact .inl hf
      · refine .inr ?_
        cases e : H x with
        | none => rfl
        | some o =>
          rw [a.keep x o e hf] at h
          cases h
  · cases e : H x with
    | none => exact absurd e hx
    | some o => rw [b.quiet x (nn_of (a.keep x o e hf)) (k x hx hf), a.quiet x hx hf]
theorem New.adv {F : List Addr} {G H G' H' : Hp} (n : New G H G' H') (s : Same G H) : Adv F G H F G' H' := ⟨fun a o h _ => n.keep a o h, fun _ h => .inl h, n.same s, fun a h _ => n.quiet a h⟩
/-- a new thing is quiet -/
theorem New.upd {G H : Hp} {p : Addr} {o : HO} (s : Same G H) (hp : H p = none) : New G H (upd G p o) (upd H p o) where
  keep := same_upd hp
  inn := fun a u e => by
    by_cases h : a = p
    · subst h
      rw [upd_same] at e ⊢
      exact e
    · rw [upd_ne h] at e ⊢
      exact s a u e
  quiet := fun a h => upd_ne fun e => by
    subst e
    exact h hp
/-- a new thing is one's own -/
theorem New.lay {G H : Hp} {p : Addr} {o : HO} (s : Same G H) (hp : H p = none) : New G H G (L2.upd H p o) where
  keep := same_upd hp
  inn := s.trans (same_upd hp)
  quiet := fun _ _ => rfl

section
variable {K : KW} {vs0 : List V} {G H G' H' : Hp} {σ : L2.St} {ρ : Rho} {F : List Addr}
theorem Slr.len : ∀ {σ : L2.St} {ρ : Rho} {F : List Addr}, Slr K vs0 G H σ ρ F → σ.length = ρ.length
  | _, _, _, .nil => rfl
  | _, _, _, .no t => by rw [List.length_cons, List.length_cons, Slr.len t]
  | _, _, _, .p _ t => by rw [List.length_cons, List.length_cons, Slr.len t]
  | _, _, _, .o _ _ t => by rw [List.length_cons, List.length_cons, Slr.len t]
theorem Slr.move (e : Same G G') : ∀ {σ : L2.St} {ρ : Rho} {F : List Addr}, Slr K vs0 G H σ ρ F → (∀ a ∈ F, H' a = H a) → Slr K vs0 G' H' σ ρ F
  | _, _, _, .nil, _ => .nil
  | _, _, _, .no t, k => .no (Slr.move e t k)
  | _, _, _, .p h t, k => .p (rp_lift e h) (Slr.move e t k)
  | _, _, _, .o h r t, k => .o (on_move e h fun a ha => k a (List.mem_append_left _ ha)) r (Slr.move e t fun a ha => k a (List.mem_append_right _ ha))
theorem Slr.foot : ∀ {σ : L2.St} {ρ : Rho} {F : List Addr}, Slr K vs0 G H σ ρ F → ∀ a ∈ F, ∃ xs : MO, H a = some xs.o
  | _, _, _, .nil, a, ha => by cases ha
  | _, _, _, .no t, a, ha => Slr.foot t a ha
  | _, _, _, .p h t, a, ha => Slr.foot t a ha
  | _, _, _, .o h r t, a, ha => by
    rcases List.mem_append.mp ha with ha | ha
    · exact ow_lst (on_ow h) a ha
    · exact Slr.foot t a ha
theorem Sts.new (S : Sts K vs0 G H σ ρ F) (n : New G H G' H') : Sts K vs0 G' H' σ ρ F where
  same := n.inn
  rel := S.rel.move (n.same S.same) fun a ha => by
    obtain ⟨xs, e⟩ := S.rel.foot a ha
    rw [e]
    exact n.keep a _ e
  nd := S.nd
  out := fun a ha => by
    obtain ⟨xs, e⟩ := S.rel.foot a ha
    rw [n.quiet a (nn_of e)]
    exact S.out a ha
theorem Slr.pget : ∀ {σ : L2.St} {ρ : Rho} {F : List Addr} {i : Nat} {d : D}, Slr K vs0 G H σ ρ F → ρ[i]? = some (.p d) → ∃ v, σ[i]? = some (some v) ∧ Rp K G v d
  | _, _, _, _, _, .nil, e => by simp at e
  | _, _, _, 0, _, .no t, e => by simp at e
  | _, _, _, i + 1, _, .no t, e => Slr.pget (i := i) t e
  | _, _, _, 0, _, .p h t, e => by
    have e' := Option.some.inj e
    injection e' with e''
    subst e''
    exact ⟨_, rfl, h⟩
  | _, _, _, i + 1, _, .p h t, e => Slr.pget (i := i) t e
  | _, _, _, 0, _, .o _ _ t, e => by
    have e' := Option.some.inj e
    cases e'
  | _, _, _, i + 1, _, .o _ _ t, e => Slr.pget (i := i) t e
/-- a slot is stored: what it held is let go -/
theorem Slr.set : ∀ {σ : L2.St} {ρ : Rho} {F : List Addr} (i : Nat) {v : V} {d : D}, Slr K vs0 G H σ ρ F → Rp K G v d → ∃ F', Slr K vs0 G H (σ.set i (some v)) (ρ.set i (.p d)) F' ∧ F'.Sublist F
  | _, _, _, i, v, d, .nil, h => ⟨[], .nil, .slnil⟩
  | _, _, _, 0, v, d, .no t, h => ⟨_, .p h t, .refl _⟩
  | _, _, _, 0, v, d, .p _ t, h => ⟨_, .p h t, .refl _⟩
  | _, _, _, 0, v, d, .o _ _ t, h => ⟨_, .p h t, List.sublist_append_right _ _⟩
  | _, _, _, i + 1, v, d, .no t, h => let ⟨F', t', s⟩ := Slr.set i t h; ⟨F', .no t', s⟩
  | _, _, _, i + 1, v, d, .p h0 t, h => let ⟨F', t', s⟩ := Slr.set i t h; ⟨F', .p h0 t', s⟩
  | _, _, _, i + 1, v, d, .o h0 r t, h => let ⟨F', t', s⟩ := Slr.set i t h; ⟨_, .o h0 r t', List.Sublist.append_left s _⟩
theorem Slr.setN : ∀ {σ : L2.St} {ρ : Rho} {F : List Addr} (i : Nat) {x : Option V}, Slr K vs0 G H σ ρ F → ∃ F', Slr K vs0 G H (σ.set i x) (ρ.set i .no) F' ∧ F'.Sublist F
  | _, _, _, i, x, .nil => ⟨[], .nil, .slnil⟩
  | _, _, _, 0, x, .no t => ⟨_, .no t, .refl _⟩
  | _, _, _, 0, x, .p _ t => ⟨_, .no t, .refl _⟩
  | _, _, _, 0, x, .o _ _ t => ⟨_, .no t, List.sublist_append_right _ _⟩
  | _, _, _, i + 1, x, .no t => let ⟨F', t', s⟩ := Slr.setN i t; ⟨F', .no t', s⟩
  | _, _, _, i + 1, x, .p h0 t => let ⟨F', t', s⟩ := Slr.setN i t; ⟨F', .p h0 t', s⟩
  | _, _, _, i + 1, x, .o h0 r t => let ⟨F', t', s⟩ := Slr.setN i t; ⟨_, .o h0 r t', List.Sublist.append_left s _⟩
theorem Slr.setO {b : Bool} : ∀ {σ : L2.St} {ρ : Rho} {F : List Addr} (i : Nat) {v : V} {d : D} {F1 : List Addr}, Slr K vs0 G H σ ρ F → On K b G H F1 v d → i < ρ.length → ∃ A B, Slr K vs0 G H (σ.set i (some v)) (ρ.set i (.o none b d)) (A ++ (F1 ++ B)) ∧ (A ++ B).Sublist F
  | _, _, _, i, v, d, F1, .nil, h, hi => absurd hi (Nat.not_lt_zero _)
  | _, _, _, 0, v, d, F1, .no t, h, _ => ⟨[], _, (Slr.o (r := none) h (fun _ z => by cases z) t : Slr K vs0 G H _ _ (F1 ++ _)), .refl _⟩
  | _, _, _, 0, v, d, F1, .p _ t, h, _ => ⟨[], _, (Slr.o (r := none) h (fun _ z => by cases z) t : Slr K vs0 G H _ _ (F1 ++ _)), .refl _⟩
  | _, _, _, 0, v, d, F1, .o _ _ t, h, _ => ⟨[], _, (Slr.o (r := none) h (fun _ z => by cases z) t : Slr K vs0 G H _ _ (F1 ++ _)), List.sublist_append_right _ _⟩
  | _, _, _, i + 1, v, d, F1, .no t, h, hi => let ⟨A, B, t', s⟩ := Slr.setO i t h (Nat.lt_of_succ_lt_succ hi); ⟨A, B, .no t', s⟩
  | _, _, _, i + 1, v, d, F1, .p h0 t, h, hi => let ⟨A, B, t', s⟩ := Slr.setO i t h (Nat.lt_of_succ_lt_succ hi); ⟨A, B, .p h0 t', s⟩
  | _, _, _, i + 1, v, d, F1, .o (F1 := C) h0 r t, h, hi => by
    obtain ⟨A, B, t', s⟩ := Slr.setO i t h (Nat.lt_of_succ_lt_succ hi)
    refine ⟨C ++ A, B, ?_, ?_⟩
    · rw [List.append_assoc]
      exact .o h0 r t'
    · rw [List.append_assoc]
      exact List.Sublist.append_left s _
/-- a slot that holds what is one's own -/
theorem Slr.oget : ∀ {σ : L2.St} {ρ : Rho} {F : List Addr} {i : Nat} {r : Option Nat} {b : Bool} {d : D}, Slr K vs0 G H σ ρ F → ρ[i]? = some (.o r b d) →
    ∃ v A F1 B, F = A ++ (F1 ++ B) ∧ σ[i]? = some (some v) ∧ On K b G H F1 v d ∧ (∀ j, r = some j → vs0[j]? = some v) ∧
      ∀ {G' H' : Hp} {F1' : List Addr} {d' : D}, Same G G' → (∀ a ∈ A ++ B, H' a = H a) → On K b G' H' F1' v d' → Slr K vs0 G' H' σ (ρ.set i (.o r b d')) (A ++ (F1' ++ B))
  | _, _, _, _, _, _, _, .nil, e => by simp at e
  | _, _, _, 0, _, _, _, .no t, e => by simp at e
  | _, _, _, 0, _, _, _, .p h t, e => by
    have e' := Option.some.inj e
    cases e'
  | _, _, _, 0, _, _, _, .o h r t, e => by
    have e' := Option.some.inj e
    cases e'
    exact ⟨_, [], _, _, rfl, rfl, h, r, fun {_ _ F1' _} s k h' => (Slr.o h' r (t.move s fun a ha => k a ha) : Slr K vs0 _ _ _ _ (F1' ++ _))⟩
  | _, _, _, i + 1, _, _, _, .no t, e => by
    obtain ⟨v, A, F1, B, eF, es, h, r, k⟩ := Slr.oget (i := i) t e
    exact ⟨v, A, F1, B, eF, es, h, r, fun s k2 h' => .no (k s k2 h')⟩
  | _, _, _, i + 1, _, _, _, .p h0 t, e => by
    obtain ⟨v, A, F1, B, eF, es, h, r, k⟩ := Slr.oget (i := i) t e
    exact ⟨v, A, F1, B, eF, es, h, r, fun s k2 h' => .p (rp_lift s h0) (k s k2 h')⟩
  | _, _, _, i + 1, _, _, _, .o (F1 := C) h0 r0 t, e => by
    obtain ⟨v, A, F1, B, eF, es, h, r, k⟩ := Slr.oget (i := i) t e
    refine ⟨v, C ++ A, F1, B, by rw [eF, List.append_assoc], es, h, r, fun s k2 h' => ?_⟩
    rw [List.append_assoc]
    refine .o (on_move s h0 fun a ha => k2 a ?_) r0 (k s (fun a ha => k2 a ?_) h')
    · simp [ha]
    · rcases List.mem_append.mp ha with z | z <;> simp [z]
/-- .. is let go to the quiet part -/
theorem Slr.frz : ∀ {σ : L2.St} {ρ : Rho} {F : List Addr} {i : Nat} {r : Option Nat} {b : Bool} {d : D}, Slr K vs0 G H σ ρ F → ρ[i]? = some (.o r b d) →
    ∃ v A F1 B, F = A ++ (F1 ++ B) ∧ On K b G H F1 v d ∧ ∀ {G' : Hp}, Same G G' → Rp K G' v d → Slr K vs0 G' H σ (ρ.set i (.p d)) (A ++ B)
  | _, _, _, _, _, _, _, .nil, e => by simp at e
  | _, _, _, 0, _, _, _, .no t, e => by simp at e
  | _, _, _, 0, _, _, _, .p h t, e => by
    have e' := Option.some.inj e
    cases e'
  | _, _, _, 0, _, _, _, .o h r t, e => by
    have e' := Option.some.inj e
    cases e'
    exact ⟨_, [], _, _, rfl, h, fun s h' => .p h' (t.move s fun a ha => rfl)⟩
  | _, _, _, i + 1, _, _, _, .no t, e => by
    obtain ⟨v, A, F1, B, eF, h, k⟩ := Slr.frz (i := i) t e
    exact ⟨v, A, F1, B, eF, h, fun s h' => .no (k s h')⟩
  | _, _, _, i + 1, _, _, _, .p h0 t, e => by
    obtain ⟨v, A, F1, B, eF, h, k⟩ := Slr.frz (i := i) t e
    exact ⟨v, A, F1, B, eF, h, fun s h' => .p (rp_lift s h0) (k s h')⟩
  | _, _, _, i + 1, _, _, _, .o (F1 := C) h0 r0 t, e => by
    obtain ⟨v, A, F1, B, eF, h, k⟩ := Slr.frz (i := i) t e
    refine ⟨v, C ++ A, F1, B, by rw [eF, List.append_assoc], h, fun s h' => ?_⟩
    rw [List.append_assoc]
    exact .o (on_move s h0 fun a ha => rfl) r0 (k s h')
end
end Fw

set_option Elab.async false
set_option linter.all false
set_option maxRecDepth 100000
set_option maxHeartbeats 4000000
namespace Fw
open PySem PySem.Spec PyProof.Rows L2

/-! ### what comes of an expression -/
inductive Res (α : Type) where
  | bad
  | ok (a : α)
  | exc (c : Nat)
def Res.bind {α β : Type} (r : Res α) (f : α → Res β) : Res β := match r with
  | .bad => .bad
  | .ok a => f a
  | .exc c => .exc c
def Post {α : Type} (r : Res α) (k : α → Prop) (e : Nat → Prop) : Prop := match r with
  | .bad => False
  | .ok a => k a
  | .exc c => e c
theorem Post.bind {α β : Type} {r : Res α} {f : α → Res β} {k : β → Prop} {e : Nat → Prop} (h : Post (r.bind f) k e) : Post r (fun a => Post (f a) k e) e := by
  cases r <;> exact h
theorem Post.imp {α : Type} {r : Res α} {k k' : α → Prop} {e e' : Nat → Prop} (h : Post r k e) (hk : ∀ a, k a → k' a) (he : ∀ c, e c → e' c) : Post r k' e' := by
  cases r with
  | bad => exact h
  | ok a => exact hk a h
  | exc c => exact he c h
abbrev EF := Rho → Res D
abbrev BF := Rho → Res Bool
abbrev AF := Rho → Res (List D)
/-- exceptions by number: what is wished where one is raised, by the slots and the heap -/
abbrev WN := Nat → L2.St → Hp → Prop
def W0 : WN := fun _ _ _ => False

section
variable (K : KW) (vs0 : List V) (W : WN)
def Snd (t : TE) (f : EF) : Prop := ∀ σ G H ρ F (Q : VK), Sts K vs0 G H σ ρ F →
  Post (f ρ) (fun d => ∀ v G' H', New G H G' H' → Rp K G' v d → Q v H') (fun c => ∀ G' H', New G H G' H' → W c σ H') → t σ H Q
def SndT (t : TT) (f : BF) : Prop := ∀ σ G H ρ F (Q : Bool → Hp → Prop), Sts K vs0 G H σ ρ F →
  Post (f ρ) (fun b => ∀ G' H', New G H G' H' → Q b H') (fun c => ∀ G' H', New G H G' H' → W c σ H') → t σ H Q
def SndA (t : TA) (f : AF) : Prop := ∀ σ G H ρ F (Q : List V → Hp → Prop), Sts K vs0 G H σ ρ F →
  Post (f ρ) (fun ds => ∀ vs G' H', New G H G' H' → RpL K G' vs ds → Q vs H') (fun c => ∀ G' H', New G H G' H' → W c σ H') → t σ H Q
/-- what is made is new and one's own -/
structure Lay (G H : Hp) (F : List Addr) (G' H' : Hp) : Prop where
  new : New G H G' H'
  nd : F.Nodup
  fresh : ∀ a ∈ F, H a = none ∧ G' a = none
def SndO (b : Bool) (t : TE) (f : EF) : Prop := ∀ σ G H ρ F (Q : VK), Sts K vs0 G H σ ρ F →
  Post (f ρ) (fun d => ∀ v F' G' H', Lay G H F' G' H' → On K b G' H' F' v d → Q v H') (fun c => ∀ G' H', New G H G' H' → W c σ H') → t σ H Q
/-- .. or a leaf of it -/
def SndE (b : Bool) (t : TE) (f : EF) : Prop := ∀ σ G H ρ F (Q : VK), Sts K vs0 G H σ ρ F →
  Post (f ρ) (fun d => ∀ v F' G' H', Lay G H F' G' H' → Ow K b G' H' F' v d → Q v H') (fun c => ∀ G' H', New G H G' H' → W c σ H') → t σ H Q
def SndAO (b : Bool) (t : TA) (f : AF) : Prop := ∀ σ G H ρ F (Q : List V → Hp → Prop), Sts K vs0 G H σ ρ F →
  Post (f ρ) (fun ds => ∀ vs F' G' H', Lay G H F' G' H' → OwL K b G' H' F' vs ds → Q vs H') (fun c => ∀ G' H', New G H G' H' → W c σ H') → t σ H Q
/-- an operation upon two values -/
def RD (r : R2) (g : D → D → Res D) : Prop := ∀ G H x y d e (Q : VK), Same G H → Rp K G x d → Rp K G y e →
  Post (g d e) (fun z => ∀ v G' H', New G H G' H' → Rp K G' v z → Q v H') (fun _ => False) → r x y H Q
def RU (r : V → Hp → VK → Prop) (g : D → Res D) : Prop := ∀ G H x d (Q : VK), Same G H → Rp K G x d →
  Post (g d) (fun z => ∀ v G' H', New G H G' H' → Rp K G' v z → Q v H') (fun _ => False) → r x H Q
def RL (r : List V → Hp → VK → Prop) (g : List D → Res D) : Prop := ∀ G H xs ds (Q : VK), Same G H → RpL K G xs ds →
  Post (g ds) (fun z => ∀ v G' H', New G H G' H' → Rp K G' v z → Q v H') (fun _ => False) → r xs H Q
/-- .. whose answer is a new list, flat over what was there -/
def RLO (r : List V → Hp → VK → Prop) (g : List D → Res D) : Prop := ∀ G H xs ds (Q : VK), Same G H → RpL K G xs ds →
  Post (g ds) (fun z => ∀ v F' G' H', Lay G H F' G' H' → On K false G' H' F' v z → Q v H') (fun _ => False) → r xs H Q
def RDO (r : R2) (g : D → D → Res D) : Prop := ∀ G H x y d e (Q : VK), Same G H → Rp K G x d → Rp K G y e →
  Post (g d e) (fun z => ∀ v F' G' H', Lay G H F' G' H' → On K false G' H' F' v z → Q v H') (fun _ => False) → r x y H Q
end

section
variable {K : KW} {vs0 : List V} {W : WN} {G H G' H' G1 H1 : Hp} {σ : L2.St} {ρ : Rho} {F : List Addr}
theorem Lay.pure (n : New G H G' H') : Lay G H [] G' H' := ⟨n, .nil, fun a h => by cases h⟩
/-- one's own is let go to the quiet part -/
theorem Lay.let_go {F' : List Addr} (s : Same G H) (l : Lay G H F' G' H') (hl : ∀ a ∈ F', ∃ xs : MO, H' a = some xs.o) :
    New G H (fun a => if a ∈ F' then H' a else G' a) H' ∧ Same G' (fun a => if a ∈ F' then H' a else G' a) := by
  refine ⟨⟨l.new.keep, fun a o e => ?_, fun a h => ?_⟩, fun a o e => ?_⟩
  · by_cases ha : a ∈ F'
    · rw [if_pos ha] at e
      exact e
    · rw [if_neg ha] at e
      exact l.new.inn a o e
  · have ha : a ∉ F' := fun z => h (l.fresh a z).1
    show (if a ∈ F' then H' a else G' a) = G a
    rw [if_neg ha]
    exact l.new.quiet a h
  · have ha : a ∉ F' := fun z => by
      rw [(l.fresh a z).2] at e
      cases e
    show (if a ∈ F' then H' a else G' a) = some o
    rw [if_neg ha]
    exact e
theorem Lay.dp {b : Bool} {F' : List Addr} {v : V} {d : D} (s : Same G H) (l : Lay G H F' G' H') (o : Ow K b G' H' F' v d) : ∃ G2, New G H G2 H' ∧ Rp K G2 v d := by
  obtain ⟨n, s2⟩ := l.let_go s (ow_lst o)
  exact ⟨_, n, ow_rp s2 o fun a ha => if_pos ha⟩
theorem Lay.dpa {b : Bool} {F' : List Addr} {vs : List V} {ds : List D} (s : Same G H) (l : Lay G H F' G' H') (o : OwL K b G' H' F' vs ds) : ∃ G2, New G H G2 H' ∧ RpL K G2 vs ds := by
  obtain ⟨n, s2⟩ := l.let_go s (owl_lst o)
  exact ⟨_, n, owl_rp s2 o fun a ha => if_pos ha⟩
theorem Lay.trans {F1 F2 : List Addr} (hl : ∀ a ∈ F1, ∃ xs : MO, H1 a = some xs.o) (a : Lay G H F1 G1 H1) (b : Lay G1 H1 F2 G' H') : Lay G H (F1 ++ F2) G' H' := by
  refine ⟨a.new.trans b.new, ?_, fun x hx => ?_⟩
  · refine List.nodup_append.mpr ⟨a.nd, b.nd, fun x hx y hy e => ?_⟩
    subst e
    obtain ⟨xs, e⟩ := hl x hx
    rw [(b.fresh x hy).1] at e
    cases e
  · rcases List.mem_append.mp hx with hx | hx
    · refine ⟨(a.fresh x hx).1, ?_⟩
      obtain ⟨xs, e⟩ := hl x hx
      rw [b.new.quiet x (nn_of e)]
      exact (a.fresh x hx).2
    · refine ⟨?_, (b.fresh x hx).2⟩
      cases e : H x with
      | none => rfl
      | some o =>
        have z := a.new.keep x o e
        rw [(b.fresh x hx).1] at z
        cases z
theorem Lay.lst {b : Bool} {vs : List V} {ds : List D} {F1 : List Addr} {p : Addr} (a : Lay G H F1 G1 H1) (o : OwL K b G1 H1 F1 vs ds) (hp : H1 p = none) : Lay G H (p :: F1) G1 (upd H1 p (.lst vs)) ∧ On K b G1 (upd H1 p (.lst vs)) (p :: F1) (.ref p) (.list ds) := by
  have np : p ∉ F1 := fun z => by
    obtain ⟨xs, e⟩ := owl_lst o p z
    rw [hp] at e
    cases e
  have hG : G1 p = none := by
    cases e : G1 p with
    | none => rfl
    | some u =>
      rw [a.new.inn p u e] at hp
      cases hp
  have hH : H p = none := by
    cases e : H p with
    | none => rfl
    | some u =>
      rw [a.new.keep p u e] at hp
      cases hp
  refine ⟨⟨a.new.trans (New.lay a.new.inn hp), List.nodup_cons.mpr ⟨np, a.nd⟩, fun x hx => ?_⟩, .node upd_same (owl_move (Same.refl _) o fun x hx => upd_ne fun z => np (by rw [← z]; exact hx))⟩
  rcases List.mem_cons.mp hx with rfl | hx
  · exact ⟨hH, hG⟩
  · exact a.fresh x hx

/-! ### from one's own to the quiet, and back -/
theorem snd_ofE {b : Bool} {t : TE} {f : EF} (h : SndE K vs0 W b t f) : Snd K vs0 W t f := fun σ G H ρ F Q S p =>
  h σ G H ρ F Q S (p.imp (fun d q v F' G' H' l o => let ⟨G2, n, dp⟩ := l.dp S.same o; q v G2 H' n dp) fun _ q => q)
theorem snde_of {b : Bool} {t : TE} {f : EF} (h : SndO K vs0 W b t f) : SndE K vs0 W b t f := fun σ G H ρ F Q S p =>
  h σ G H ρ F Q S (p.imp (fun d q v F' G' H' l o => q v F' G' H' l (on_ow o)) fun _ q => q)
theorem snd_of {b : Bool} {t : TE} {f : EF} (h : SndO K vs0 W b t f) : Snd K vs0 W t f := snd_ofE (snde_of h)
theorem snde_p {t : TE} {f : EF} (h : Snd K vs0 W t f) : SndE K vs0 W false t f := fun σ G H ρ F Q S p =>
  h σ G H ρ F Q S (p.imp (fun d q v G' H' n dp => q v [] G' H' (.pure n) (.leaf dp fun e => by cases e)) fun _ q => q)
/-- data without lists may be a leaf of anything -/
def eNL (f : EF) : EF := fun ρ => (f ρ).bind fun d => if noList d = true then .ok d else .bad
theorem snde_nl {b : Bool} {t : TE} {f : EF} (h : Snd K vs0 W t f) : SndE K vs0 W b t (eNL f) := fun σ G H ρ F Q S p =>
  h σ G H ρ F Q S (p.bind.imp (fun d q v G' H' n dp => by
    by_cases e : noList d = true
    · rw [if_pos e] at q
      exact q v [] G' H' (.pure n) (.leaf dp fun _ => e)
    · rw [if_neg e] at q
      exact q.elim) fun _ q => q)
/-- a flat list of data without lists is one's own, all of it -/
def flatL : D → Bool
  | .list ds => noListAll ds
  | d => noList d
theorem owl_deep {F : List Addr} {vs : List V} {ds : List D} : OwL K false G H F vs ds → noListAll ds = true → OwL K true G H F vs ds
  | .nil, _ => .nil
  | .cons h t, c => by
    have c' := (Bool.and_eq_true _ _).mp (show (noList _ && noListAll _) = true from c)
    refine .cons ?_ (owl_deep t c'.2)
    cases h with
    | leaf r _ => exact .leaf r fun _ => c'.1
    | node _ _ => cases c'.1
    | dic _ _ _ => cases c'.1
def eFlat (f : EF) : EF := fun ρ => (f ρ).bind fun d => if flatL d = true then .ok d else .bad
theorem sndo_deep {t : TE} {f : EF} (h : SndO K vs0 W false t f) : SndO K vs0 W true t (eFlat f) := fun σ G H ρ F Q S p =>
  h σ G H ρ F Q S (p.bind.imp (fun d q v F' G' H' l o => by
    by_cases e : flatL d = true
    · rw [if_pos e] at q
      refine q v F' G' H' l ?_
      cases o with
      | val r i _ => exact .val r i fun _ => by cases d <;> first | exact e | cases i
      | node hp hl => exact .node hp (owl_deep hl e)
      | dic _ _ _ => cases e
    · rw [if_neg e] at q
      exact q.elim) fun _ q => q)
theorem snda_of {b : Bool} {t : TA} {f : AF} (h : SndAO K vs0 W b t f) : SndA K vs0 W t f := fun σ G H ρ F Q S p =>
  h σ G H ρ F Q S (p.imp (fun d q v F' G' H' l o => let ⟨G2, n, dp⟩ := l.dpa S.same o; q v G2 H' n dp) fun _ q => q)

/-! ### names, constants -/
def rget (ρ : Rho) (i : Nat) : Res D := match ρ[i]? with
  | some (.p d) => .ok d
  | _ => .bad
def eVar (i : Nat) : EF := fun ρ => rget ρ i
def eC (d : D) : EF := fun _ => .ok d
theorem snd_var {i : Nat} : Snd K vs0 W (tVar i) (eVar i) := fun σ G H ρ F Q S p => by
  unfold eVar rget at p
  split at p
  · rename_i d e
    obtain ⟨v, e1, h⟩ := S.rel.pget e
    exact ⟨v, e1, p v G H (New.refl S.same) h⟩
  · exact False.elim p
theorem snd_c {v : V} {d : D} (h : ∀ G, Rp K G v d) : Snd K vs0 W (tC v) (eC d) := fun σ G H ρ F Q S p => p v G H (New.refl S.same) (h G)
theorem snd_int {i : Int} : Snd K vs0 W (tC (.int i)) (eC (.int i)) := snd_c fun _ => .int i
theorem snd_bl {i : Bool} : Snd K vs0 W (tC (.bl i)) (eC (.bool i)) := snd_c fun _ => .bl i
theorem snd_str {i : Str} : Snd K vs0 W (tC (.str i)) (eC (.str i)) := snd_c fun _ => .str i
theorem snd_non : Snd K vs0 W (tC .non) (eC .none) := snd_c fun _ => .non

/-! ### operations -/
def eOp (g : D → D → Res D) (f1 f2 : EF) : EF := fun ρ => (f1 ρ).bind fun x => (f2 ρ).bind fun y => g x y
def eUn (g : D → Res D) (f1 : EF) : EF := fun ρ => (f1 ρ).bind g
/-- an operation's answer has no exception -/
theorem post_w {α : Type} {r : Res α} {k : α → Prop} {e : Nat → Prop} (hn : ∀ c, r ≠ .exc c) (h : Post r k e) : Post r k fun _ => False := by
  cases r with
  | bad => exact h
  | ok a => exact h
  | exc c => exact absurd rfl (hn c)
def Quiet2 (g : D → D → Res D) : Prop := ∀ d e c, g d e ≠ .exc c
def Quiet1 {α : Type} (g : α → Res D) : Prop := ∀ d c, g d ≠ .exc c
theorem snd_op {ta tb : TE} {f1 f2 : EF} {r : R2} {g : D → D → Res D} (hr : RD K r g) (hq : Quiet2 g) (h1 : Snd K vs0 W ta f1) (h2 : Snd K vs0 W tb f2) : Snd K vs0 W (tOp r ta tb) (eOp g f1 f2) := fun σ G H ρ F Q S p =>
  h1 σ G H ρ F _ S (p.bind.imp (fun d q v G1 H1 n1 d1 => h2 σ G1 H1 ρ F _ (S.new n1) (q.bind.imp (fun e q2 u G2 H2 n2 d2 =>
    hr G2 H2 v u d e Q n2.inn (rp_lift (n2.same n1.inn) d1) d2 ((post_w (hq d e) q2).imp (fun z q3 w G3 H3 n3 d3 => q3 w G3 H3 ((n1.trans n2).trans n3) d3) fun _ z => z)) fun c q2 G2 H2 n2 => q2 G2 H2 (n1.trans n2)))
    fun c q => q)
theorem sndo_op {ta tb : TE} {f1 f2 : EF} {r : R2} {g : D → D → Res D} (hr : RDO K r g) (hq : Quiet2 g) (h1 : Snd K vs0 W ta f1) (h2 : Snd K vs0 W tb f2) : SndO K vs0 W false (tOp r ta tb) (eOp g f1 f2) := fun σ G H ρ F Q S p =>
  h1 σ G H ρ F _ S (p.bind.imp (fun d q v G1 H1 n1 d1 => h2 σ G1 H1 ρ F _ (S.new n1) (q.bind.imp (fun e q2 u G2 H2 n2 d2 =>
    hr G2 H2 v u d e Q n2.inn (rp_lift (n2.same n1.inn) d1) d2 ((post_w (hq d e) q2).imp (fun z q3 w F3 G3 H3 n3 d3 => q3 w F3 G3 H3 (Lay.trans (fun a h => by cases h) (.pure (n1.trans n2)) n3) d3) fun _ z => z)) fun c q2 G2 H2 n2 => q2 G2 H2 (n1.trans n2)))
    fun c q => q)
theorem snd_un {ta : TE} {f1 : EF} {r : V → Hp → VK → Prop} {g : D → Res D} (hr : RU K r g) (hq : Quiet1 g) (h1 : Snd K vs0 W ta f1) : Snd K vs0 W (tUn r ta) (eUn g f1) := fun σ G H ρ F Q S p =>
  h1 σ G H ρ F _ S (p.bind.imp (fun d q v G1 H1 n1 d1 => hr G1 H1 v d Q n1.inn d1 ((post_w (hq d) q).imp (fun z q3 w G3 H3 n3 d3 => q3 w G3 H3 (n1.trans n3) d3) fun _ z => z)) fun c q => q)

/-! ### arguments -/
def aNil : AF := fun _ => .ok []
def aCons (f : EF) (g : AF) : AF := fun ρ => (f ρ).bind fun d => (g ρ).bind fun ds => .ok (d :: ds)
theorem snda_nil : SndA K vs0 W tNil aNil := fun σ G H ρ F Q S p => p [] G H (New.refl S.same) .nil
theorem snda_cons {ta : TE} {tr : TA} {f : EF} {g : AF} (h1 : Snd K vs0 W ta f) (h2 : SndA K vs0 W tr g) : SndA K vs0 W (tCons ta tr) (aCons f g) := fun σ G H ρ F Q S p =>
  h1 σ G H ρ F _ S (p.bind.imp (fun d q v G1 H1 n1 d1 => h2 σ G1 H1 ρ F _ (S.new n1) (q.bind.imp (fun ds q2 vs G2 H2 n2 d2 =>
    q2 (v :: vs) G2 H2 (n1.trans n2) (.cons (rp_lift (n2.same n1.inn) d1) d2)) fun c q2 G2 H2 n2 => q2 G2 H2 (n1.trans n2))) fun c q => q)
theorem sndao_nil {b : Bool} : SndAO K vs0 W b tNil aNil := fun σ G H ρ F Q S p => p [] [] G H (.pure (New.refl S.same)) .nil
theorem sndao_cons {b : Bool} {ta : TE} {tr : TA} {f : EF} {g : AF} (h1 : SndE K vs0 W b ta f) (h2 : SndAO K vs0 W b tr g) : SndAO K vs0 W b (tCons ta tr) (aCons f g) := fun σ G H ρ F Q S p =>
  h1 σ G H ρ F _ S (p.bind.imp (fun d q v F1 G1 H1 n1 d1 => h2 σ G1 H1 ρ F _ (S.new n1.new) (q.bind.imp (fun ds q2 vs F2 G2 H2 n2 d2 =>
    q2 (v :: vs) (F1 ++ F2) G2 H2 (Lay.trans (ow_lst d1) n1 n2) (.cons (ow_move (n2.new.same n1.new.inn) d1 fun a ha => by
      obtain ⟨xs, e⟩ := ow_lst d1 a ha
      rw [e]
      exact n2.new.keep a _ e) d2)) fun c q2 G2 H2 n2 => q2 G2 H2 (n1.new.trans n2))) fun c q => q)
def big : Nat := 16000000
theorem big_line {n : Nat} (h : n ≤ big) : n ≤ sizeLine := Nat.le_trans h (by decide)
theorem big_lt {n : Nat} (h : n < big) : n < sizeLine := Nat.lt_of_lt_of_le h (by decide)
def dLst (ds : List D) : Res D := if ds.length ≤ big then .ok (.list ds) else .bad
def dTup (ds : List D) : Res D := if ds.length ≤ big then .ok (.tuple ds) else .bad
def eArgs (g : List D → Res D) (a : AF) : EF := fun ρ => (a ρ).bind g
theorem sndo_lst {b : Bool} {ta : TA} {g : AF} (h : SndAO K vs0 W b ta g) : SndO K vs0 W b (tLst ta) (eArgs dLst g) := fun σ G H ρ F Q S p =>
  h σ G H ρ F _ S (p.bind.imp (fun ds q vs F1 G1 H1 l o => by
    unfold dLst at q
    split at q
    · rename_i hz
      refine ⟨big_line (by rw [owl_len o]; exact hz), fun a ha => ?_⟩
      obtain ⟨l2, o2⟩ := l.lst o ha
      exact q _ _ _ _ l2 o2
    · exact False.elim q) fun c q => q)
theorem snd_tup {ta : TA} {g : AF} (h : SndA K vs0 W ta g) : Snd K vs0 W (tTup ta) (eArgs dTup g) := fun σ G H ρ F Q S p =>
  h σ G H ρ F _ S (p.bind.imp (fun ds q vs G1 H1 n o => by
    unfold dTup at q
    split at q
    · rename_i hz
      refine ⟨big_line (by rw [rpl_len o]; exact hz), fun a ha => ?_⟩
      have n2 := New.upd (o := .tup vs) n.inn ha
      exact q _ _ _ (n.trans n2) (.tup (SqT.of upd_same) (rpl_lift (n2.same n.inn) o))
    · exact False.elim q) fun c q => q)
/-- a built-in that is called -/
theorem snd_cb {ta : TA} {g : AF} {r : List V → Hp → VK → Prop} {k : List D → Res D} (hr : RL K r k) (hq : Quiet1 k) (h : SndA K vs0 W ta g) : Snd K vs0 W (tCB r ta) (eArgs k g) := fun σ G H ρ F Q S p =>
  h σ G H ρ F _ S (p.bind.imp (fun ds q vs G1 H1 n1 o => hr G1 H1 vs ds Q n1.inn o ((post_w (hq ds) q).imp (fun z q3 w G3 H3 n3 d3 => q3 w G3 H3 (n1.trans n3) d3) fun _ z => z)) fun c q => q)
theorem sndo_cb {ta : TA} {g : AF} {r : List V → Hp → VK → Prop} {k : List D → Res D} (hr : RLO K r k) (hq : Quiet1 k) (h : SndA K vs0 W ta g) : SndO K vs0 W false (tCB r ta) (eArgs k g) := fun σ G H ρ F Q S p =>
  h σ G H ρ F _ S (p.bind.imp (fun ds q vs G1 H1 n1 o => hr G1 H1 vs ds Q n1.inn o ((post_w (hq ds) q).imp (fun z q3 w F3 G3 H3 n3 d3 => q3 w F3 G3 H3 (Lay.trans (fun a h => by cases h) (.pure n1) n3) d3) fun _ z => z)) fun c q => q)

/-! ### truth, tests -/
def bOf (f : EF) : BF := fun ρ => (f ρ).bind fun d => match d with
  | .bool b => .ok b
  | _ => .bad
theorem sndt_test {t : TE} {f : EF} (h : Snd K vs0 W t f) : SndT K vs0 W (tTest t) (bOf f) := fun σ G H ρ F Q S p =>
  h σ G H ρ F _ S (p.bind.imp (fun d q v G1 H1 n d1 => by
    cases d with
    | bool b =>
      cases d1
      exact ⟨b, rfl, q G1 H1 n⟩
    | _ => exact False.elim q) fun c q => q)
theorem sndt_B {t : TE} {f : EF} (h : Snd K vs0 W t f) : SndT K vs0 W (tB t) (bOf f) := sndt_test h
def bNot (f : BF) : BF := fun ρ => (f ρ).bind fun b => .ok (!b)
def bAnd (f g : BF) : BF := fun ρ => (f ρ).bind fun b => if b = true then g ρ else .ok false
def bOr (f g : BF) : BF := fun ρ => (f ρ).bind fun b => if b = true then .ok true else g ρ
theorem sndt_not {t : TT} {f : BF} (h : SndT K vs0 W t f) : SndT K vs0 W (tNot t) (bNot f) := fun σ G H ρ F Q S p =>
  h σ G H ρ F _ S (p.bind.imp (fun d q G1 H1 n => q G1 H1 n) fun c q => q)
theorem post_new {α : Type} {r : Res α} {k : α → Hp → Hp → Prop} {e : Nat → Hp → Prop} (n : New G H G1 H1) (p : Post r (fun a => ∀ G' H', New G H G' H' → k a G' H') (fun c => ∀ G' H', New G H G' H' → e c H')) :
    Post r (fun a => ∀ G' H', New G1 H1 G' H' → k a G' H') (fun c => ∀ G' H', New G1 H1 G' H' → e c H') := p.imp (fun a q G' H' n' => q G' H' (n.trans n')) fun c q G' H' n' => q G' H' (n.trans n')
theorem sndt_and {t u : TT} {f g : BF} (h1 : SndT K vs0 W t f) (h2 : SndT K vs0 W u g) : SndT K vs0 W (tAnd t u) (bAnd f g) := fun σ G H ρ F Q S p =>
  h1 σ G H ρ F _ S (p.bind.imp (fun b q G1 H1 n => by
    cases b with
    | true =>
      rw [if_pos rfl] at q
      rw [if_pos rfl]
      exact h2 σ G1 H1 ρ F Q (S.new n) (q.imp (fun b q G2 H2 n2 => q G2 H2 (n.trans n2)) fun c q G2 H2 n2 => q G2 H2 (n.trans n2))
    | false =>
      rw [if_neg (by decide)] at q
      rw [if_neg (by decide)]
      exact q G1 H1 n) fun c q => q)
theorem sndt_or {t u : TT} {f g : BF} (h1 : SndT K vs0 W t f) (h2 : SndT K vs0 W u g) : SndT K vs0 W (tOr t u) (bOr f g) := fun σ G H ρ F Q S p =>
  h1 σ G H ρ F _ S (p.bind.imp (fun b q G1 H1 n => by
    cases b with
    | false =>
      rw [if_neg (by decide)] at q
      rw [if_neg (by decide)]
      exact h2 σ G1 H1 ρ F Q (S.new n) (q.imp (fun b q G2 H2 n2 => q G2 H2 (n.trans n2)) fun c q G2 H2 n2 => q G2 H2 (n.trans n2))
    | true =>
      rw [if_pos rfl] at q
      rw [if_pos rfl]
      exact q G1 H1 n) fun c q => q)
/-- and, or, not as values: the first is True or False -/
def eAnd (f : EF) (g : EF) : EF := fun ρ => (bOf f ρ).bind fun b => if b = true then g ρ else .ok (.bool false)
def eOr (f : EF) (g : EF) : EF := fun ρ => (bOf f ρ).bind fun b => if b = true then .ok (.bool true) else g ρ
def eNot (f : EF) : EF := fun ρ => (bOf f ρ).bind fun b => .ok (.bool (!b))
theorem post_ev {r : Res D} {k : V → Hp → Prop} {e : Nat → Hp → Prop} (n : New G H G1 H1) (p : Post r (fun d => ∀ v G' H', New G H G' H' → Rp K G' v d → k v H') (fun c => ∀ G' H', New G H G' H' → e c H')) :
    Post r (fun d => ∀ v G' H', New G1 H1 G' H' → Rp K G' v d → k v H') (fun c => ∀ G' H', New G1 H1 G' H' → e c H') := p.imp (fun a q v G' H' n' => q v G' H' (n.trans n')) fun c q G' H' n' => q G' H' (n.trans n')
theorem snd_and {t u : TE} {f g : EF} (h1 : Snd K vs0 W t f) (h2 : Snd K vs0 W u g) : Snd K vs0 W (tAndV t u) (eAnd f g) := fun σ G H ρ F Q S p => by
  refine sndt_test h1 σ G H ρ F (fun b H1 => if b = true then u σ H1 Q else Q (.bl false) H1) S (p.bind.imp (fun b q G1 H1 n => ?_) fun c q => q)
  cases b with
  | true =>
    rw [if_pos rfl] at q
    rw [if_pos rfl]
    exact h2 σ G1 H1 ρ F Q (S.new n) (post_ev n q)
  | false =>
    rw [if_neg (by decide)] at q
    rw [if_neg (by decide)]
    exact q _ G1 H1 n (.bl false)
theorem snd_or {t u : TE} {f g : EF} (h1 : Snd K vs0 W t f) (h2 : Snd K vs0 W u g) : Snd K vs0 W (tOrV t u) (eOr f g) := fun σ G H ρ F Q S p => by
  refine sndt_test h1 σ G H ρ F (fun b H1 => if b = true then Q (.bl true) H1 else u σ H1 Q) S (p.bind.imp (fun b q G1 H1 n => ?_) fun c q => q)
  cases b with
  | false =>
    rw [if_neg (by decide)] at q
    rw [if_neg (by decide)]
    exact h2 σ G1 H1 ρ F Q (S.new n) (post_ev n q)
  | true =>
    rw [if_pos rfl] at q
    rw [if_pos rfl]
    exact q _ G1 H1 n (.bl true)
theorem snd_not {t : TE} {f : EF} (h : Snd K vs0 W t f) : Snd K vs0 W (tNotV t) (eNot f) := fun σ G H ρ F Q S p =>
  sndt_test h σ G H ρ F (fun b H1 => Q (.bl (!b)) H1) S (p.bind.imp (fun b q G1 H1 n => q _ G1 H1 n (.bl _)) fun c q => q)
def eIf (c : BF) (f g : EF) : EF := fun ρ => (c ρ).bind fun b => if b = true then f ρ else g ρ
theorem snd_if {c : TT} {t u : TE} {fc : BF} {f g : EF} (hc : SndT K vs0 W c fc) (h1 : Snd K vs0 W t f) (h2 : Snd K vs0 W u g) : Snd K vs0 W (tIf c t u) (eIf fc f g) := fun σ G H ρ F Q S p => by
  refine hc σ G H ρ F _ S (p.bind.imp (fun b q G1 H1 n => ?_) fun c q => q)
  cases b with
  | true =>
    rw [if_pos rfl] at q
    rw [if_pos rfl]
    exact h1 σ G1 H1 ρ F Q (S.new n) (post_ev n q)
  | false =>
    rw [if_neg (by decide)] at q
    rw [if_neg (by decide)]
    exact h2 σ G1 H1 ρ F Q (S.new n) (post_ev n q)
/-- the truth of any data -/
def dTru : D → Res Bool
  | .none => .ok false
  | .bool b => .ok b
  | .int i => .ok (i != 0)
  | .str x => if x.length ≤ big then .ok ((x.length : Int) != 0) else .bad
  | .list xs => .ok (!xs.isEmpty)
  | .tuple xs => .ok (!xs.isEmpty)
  | .dict _ => .bad
def bTru (f : EF) : BF := fun ρ => (f ρ).bind dTru
theorem rpl_emp {vs : List V} {ds : List D} (h : RpL K G vs ds) : vs.isEmpty = ds.isEmpty := by
  cases h <;> rfl
theorem sndt_tru {t : TE} {f : EF} (h : Snd K vs0 W t f) : SndT K vs0 W (fun σ H Q => t σ H fun x H' => ∃ k, TruV K x H' k ∧ Q k H') (bTru f) := fun σ G H ρ F Q S p =>
  h σ G H ρ F _ S (p.bind.imp (fun d q v G1 H1 n d1 => by
    cases d1 with
    | non => exact ⟨false, rfl, q G1 H1 n⟩
    | bl b => exact ⟨b, rfl, q G1 H1 n⟩
    | int i => exact ⟨_, rfl, q G1 H1 n⟩
    | str x =>
      simp only [dTru] at q
      split at q
      · rename_i hz
        exact ⟨_, ⟨big_line hz, rfl⟩, q G1 H1 n⟩
      · exact False.elim q
    | lst hs ha => exact ⟨_, .inl ⟨_, SqL.of (n.inn _ _ hs), by rw [← rpl_emp ha]⟩, q G1 H1 n⟩
    | scr _ => exact False.elim q
    | fn _ => exact False.elim q
    | dk _ => exact False.elim q
    | dic _ _ _ _ _ _ => exact False.elim q
    | tup hs ha => exact ⟨_, .inr (.inl ⟨_, same_t n.inn hs, by rw [← rpl_emp ha]⟩), q G1 H1 n⟩) fun c q => q)
end
end Fw

set_option Elab.async false
set_option linter.all false
set_option maxRecDepth 100000
set_option maxHeartbeats 4000000
namespace Fw
open PySem PySem.Spec PyProof.Rows L2

/-! ### operations upon data -/
def CMulX (i j : Int) : Prop := i.natAbs.log2 + j.natAbs.log2 < 100000000
instance : Decidable (CMulX i j) := Nat.decLt _ _
theorem CMulX.fits {i j : Int} (h : CMulX i j) : IntMulOk i j := fun z => by
  have b : ∀ x : Int, Builtin.Int.intBits x ≤ x.natAbs.log2 + 1 := fun x => by
    unfold Builtin.Int.intBits
    split <;> omega
  have h1 := b i
  have h2 := b j
  have h3 : i.natAbs.log2 + j.natAbs.log2 < 100000000 := h
  have z2 := of_decide_eq_true ((Bool.and_eq_true _ _).mp z).2
  have e : bitsLine = 134217728 := by decide
  rw [e] at z2
  omega
def strRep (z : Str) (k : Int) : Str := ⟨(List.replicate k.toNat z.cps).foldl (· ++ ·) #[]⟩
theorem fold_len : ∀ (n : Nat) (a b : Array Nat), ((List.replicate n a).foldl (· ++ ·) b).size = b.size + a.size * n
  | 0, a, b => by simp
  | n + 1, a, b => by
    rw [List.replicate_succ, List.foldl_cons, fold_len n a (b ++ a), Array.size_append, Nat.mul_succ]
    omega
def dAdd : D → D → Res D
  | .int i, .int j => .ok (.int (i + j))
  | .list xs, .list ys => if xs.length + ys.length ≤ big then .ok (.list (xs ++ ys)) else .bad
  | .tuple xs, .tuple ys => if xs.length + ys.length ≤ big then .ok (.tuple (xs ++ ys)) else .bad
  | .str x, .str y => if x.length + y.length ≤ big then .ok (.str (x ++ y)) else .bad
  | _, _ => .bad
def dSub : D → D → Res D
  | .int i, .int j => .ok (.int (i - j))
  | _, _ => .bad
def dMul : D → D → Res D
  | .int i, .int j => if CMulX i j then .ok (.int (i * j)) else .bad
  | .list xs, .int k => if -1000000 ≤ k ∧ k ≤ 1000000 ∧ xs.length * k.toNat ≤ big then .ok (.list (List.replicate k.toNat xs).flatten) else .bad
  | .str x, .int k => if -1000 ≤ k ∧ k ≤ 1000 ∧ x.length * k.toNat ≤ big then .ok (.str (strRep x k)) else .bad
  | .tuple xs, .int k => if xs ≠ [] ∧ 1 ≤ k ∧ k ≤ 1000 ∧ xs.length ≤ 1000 then .ok (.tuple (List.replicate k.toNat xs).flatten) else .bad
  | _, _ => .bad
def dMod : D → D → Res D
  | .int i, .int j => if j ≠ 0 then .ok (.int (i.fmod j)) else .bad
  | _, _ => .bad
def dDiv : D → D → Res D
  | .int i, .int j => if j ≠ 0 ∧ j.natAbs < 1073741824 then .ok (.int (i.fdiv j)) else .bad
  | _, _ => .bad
def dPow : D → D → Res D
  | .int i, .int j => if 0 ≤ j ∧ j ≤ 1000000 ∧ i.natAbs < 2 ^ 64 then .ok (.int (i ^ j.toNat)) else .bad
  | _, _ => .bad
def dNeg : D → Res D
  | .int i => .ok (.int (-i))
  | _ => .bad
def dLt : D → D → Res D
  | .int i, .int j => .ok (.bool (decide (i < j)))
  | _, _ => .bad
def dLe : D → D → Res D
  | .int i, .int j => .ok (.bool (decide (i ≤ j)))
  | _, _ => .bad
def dGt : D → D → Res D
  | .int i, .int j => .ok (.bool (decide (j < i)))
  | _, _ => .bad
def dGe : D → D → Res D
  | .int i, .int j => .ok (.bool (decide (j ≤ i)))
  | _, _ => .bad
def dEq : D → D → Res D := fun d e => if SeqAt.shaped d = true ∧ SeqAt.shaped e = true then .ok (.bool (PyData.eqv d e)) else .bad
def dNe : D → D → Res D := fun d e => if SeqAt.shaped d = true ∧ SeqAt.shaped e = true then .ok (.bool (!PyData.eqv d e)) else .bad
def dIs : D → D → Res D
  | .bool a, .bool b => .ok (.bool (decide (a = b)))
  | _, _ => .bad
def ofOpt {α : Type} : Option α → Res α
  | some a => .ok a
  | none => .bad
def scrOf : List (D × D) → Option (List D)
  | [(.none, .list xs)] => some xs
  | _ => none
def isTup : D → Bool
  | .tuple _ => true
  | _ => false
/-- a dict that is told by its entries -/
def isDic : List (D × D) → Bool
  | [(.none, _)] => false
  | [(.bool _, _)] => false
  | _ => true
def dInD (neg : Bool) (d : D) (kvs : List (D × D)) : Res D := if isTup d = true ∧ isDic kvs = true then (ofOpt (nk d)).bind fun k => if k.depth ≤ 8 then .ok (.bool ((kvs.any fun kv => decide (nk kv.1 = some k)) != neg)) else .bad else .bad
/-- x in a list; in a tuple of flat things; a text in a text is not taken -/
def flatD : D → Bool
  | .none => true
  | .bool _ => true
  | .int _ => true
  | .str _ => true
  | _ => false
def dIn (neg : Bool) : D → D → Res D := fun d e => match e with
  | .list ds => if SeqAt.shaped d = true ∧ SeqAt.shaped (.list ds) = true then .ok (.bool (if neg then !(ds.any fun z => PyData.eqv z d) else ds.any fun z => PyData.eqv z d)) else .bad
  | .tuple ds => if flatD d = true ∧ ds.all flatD = true then .ok (.bool (if neg then !(ds.any fun z => PyData.eqv z d) else ds.any fun z => PyData.eqv z d)) else .bad
  | .dict kvs => dInD neg d kvs
  | .str z => (match d with
    | .str ⟨⟨[c]⟩⟩ => .ok (.bool (decide (c ∈ z.cps.toList) != neg))
    | _ => .bad)
  | _ => .bad
def dIxI (i : Int) : D → Res D
  | .list xs => ofOpt (atI xs i)
  | .tuple xs => ofOpt (atI xs i)
  | .dict kvs => (ofOpt (scrOf kvs)).bind fun xs => ofOpt (atI xs i)
  | .str x => if x.length ≤ big then (ofOpt (atI x.cps.toList i)).bind fun c => .ok (.str ⟨#[c]⟩) else .bad
  | _ => .bad
/-- a key of a dict: a tuple, at most eight deep -/
def keyOk (d : D) : Bool := isTup d && (match nk d with
  | some k => decide (k.depth ≤ 8)
  | none => false)
def dGet (d e : D) : Res D := match d with
  | .dict kvs => if isDic kvs = true ∧ keyOk e = true then (ofOpt (kvs.find? fun kv => decide (nk kv.1 = nk e))).bind fun kv => .ok kv.2 else .bad
  | _ => .bad
def dIx (d e : D) : Res D := match e with
  | .int i => dIxI i d
  | .tuple ds => dGet d (.tuple ds)
  | _ => .bad
def dLen1 : D → Res D
  | .list xs => .ok (.int xs.length)
  | .tuple xs => .ok (.int xs.length)
  | .dict kvs => (ofOpt (scrOf kvs)).bind fun xs => .ok (.int xs.length)
  | .str x => if x.length ≤ big then .ok (.int x.length) else .bad
  | _ => .bad
def d1 (g : D → Res D) : List D → Res D
  | [d] => g d
  | _ => .bad
/-- list(..), tuple(..) of a list or a tuple -/
def dListOf : D → Res D
  | .list xs => .ok (.list xs)
  | .tuple xs => .ok (.list xs)
  | _ => .bad
def dTupOf : D → Res D
  | .list xs => .ok (.tuple xs)
  | .tuple xs => .ok (.tuple xs)
  | _ => .bad
def dIntOf : D → Res D
  | .int i => .ok (.int i)
  | .bool b => .ok (.int (if b then 1 else 0))
  | _ => .bad
def tyName : D → String
  | .none => "NoneType"
  | .bool _ => "bool"
  | .int _ => "int"
  | .str _ => "str"
  | .list _ => "list"
  | .tuple _ => "tuple"
  | .dict _ => "dict"
def isScr : D → Bool
  | .dict [(.bool false, .none)] => false
  | .dict _ => true
  | _ => false
/-- isinstance(x, T), T a built-in class by its name -/
def dIsi (T : String) (d : D) : Res D := if isScr d = false then (ofOpt (kitB (tyName d) T)).bind fun b => .ok (.bool b) else .bad
/-- all, any of a list of truth values; the sum of ints -/
def boolsOf : List D → Option (List Bool)
  | [] => some []
  | .bool b :: r => (boolsOf r).map (b :: ·)
  | _ => none
def intsOf : List D → Option (List Int)
  | [] => some []
  | .int b :: r => (intsOf r).map (b :: ·)
  | _ => none
def dAll : D → Res D
  | .list xs => (ofOpt (boolsOf xs)).bind fun bs => .ok (.bool (bs.all id))
  | _ => .bad
def dAny : D → Res D
  | .list xs => (ofOpt (boolsOf xs)).bind fun bs => .ok (.bool (bs.any id))
  | _ => .bad
def dSum : D → Res D
  | .list xs => (ofOpt (intsOf xs)).bind fun bs => .ok (.int bs.sum)
  | _ => .bad
def cutD (xs : List D) (lo hi : Option Int) : List D := (xs.drop (HT.sIx xs.length 0 lo)).take (HT.sIx xs.length xs.length hi - HT.sIx xs.length 0 lo)
def dSl (d : D) (lo hi : Option Int) : Res D := match d with
  | .str z => if z.length ≤ big then .ok (.str (cutS z lo hi)) else .bad
  | .list xs => .ok (.list (cutD xs lo hi))
  | .tuple xs => .ok (.tuple (cutD xs lo hi))
  | _ => .bad

/-! ### .. and what they are upon values -/
section
variable {X : Cx}
def rCatG : R2 := rCat
theorem op_mulX : OpR X (binaryOp .Mult) (rI CMulX fun i j => .int (i * j)) := opI fun _ _ _ _ _ _ _ hc q => mul_int q hc.fits
def rAddU (K : PySem.W.Frag) : R2 := fun x y H Q => rI0 (fun i j => .int (i + j)) x y H Q ∨ rCat x y H Q ∨ rCatA K x y H Q ∨ ∃ i j, x = .str i ∧ y = .str j ∧ i.length + j.length ≤ sizeLine ∧ Q (.str (i ++ j)) H
theorem op_addU : OpR X (binaryOp .Add) (rAddU X.K) := op_add.or (op_cat.or (op_catA.or op_add_str))
/-- a tuple once is itself -/
def rRep1 (K : PySem.W.Frag) : R2 := fun x y H Q => ∃ l xs, x = .ref l ∧ y = .int 1 ∧ SqT K H l xs ∧ xs ≠ [] ∧ xs.length ≤ 1000 ∧ Q (.ref l) H
end
section
variable {K : KW} {G H : Hp}
theorem rpl_map {xs : List V} {ds : List D} (h : RpL K G xs ds) : ∀ (n : Nat), RpL K G (xs.drop n) (ds.drop n) := fun n => by
  induction n generalizing xs ds with
  | zero => exact h
  | succ n ih =>
    cases h with
    | nil => exact .nil
    | cons _ t => exact ih t
theorem rpl_take {xs : List V} {ds : List D} (h : RpL K G xs ds) : ∀ (n : Nat), RpL K G (xs.take n) (ds.take n) := fun n => by
  induction n generalizing xs ds with
  | zero => exact .nil
  | succ n ih =>
    cases h with
    | nil => exact .nil
    | cons a t => exact .cons a (ih t)
theorem rpl_rep {xs : List V} {ds : List D} (h : RpL K G xs ds) : ∀ (n : Nat), RpL K G (List.replicate n xs).flatten (List.replicate n ds).flatten := fun n => by
  induction n with
  | zero => exact .nil
  | succ n ih =>
    rw [List.replicate_succ, List.replicate_succ, List.flatten_cons, List.flatten_cons]
    exact rpl_app h ih
theorem rpl_at {xs : List V} {ds : List D} {i : Int} {d : D} (h : RpL K G xs ds) (e : atI ds i = some d) : ∃ v, atI xs i = some v ∧ Rp K G v d := by
  unfold atI at e ⊢
  rw [rpl_len h]
  cases q : ixN ds.length i with
  | none =>
    rw [q] at e
    cases e
  | some j =>
    rw [q] at e
    obtain ⟨v, h1, h2⟩ := rpl_get h (i := j) (d := d) e
    exact ⟨v, h1, h2⟩
theorem rpl_ints : ∀ {xs : List V} {ds : List D} {ns : List Int}, RpL K G xs ds → intsOf ds = some ns → xs = ns.map V.int
  | _, _, ns, .nil, e => by
    have e' := Option.some.inj e
    subst e'
    rfl
  | _, _, ns, .cons h t, e => by
    cases h with
    | int i =>
      simp only [intsOf, Option.map_eq_some_iff] at e
      obtain ⟨r, e1, rfl⟩ := e
      rw [rpl_ints t e1]
      rfl
    | _ => simp [intsOf, scr, fnD, dkD] at e
theorem rpl_bools : ∀ {xs : List V} {ds : List D} {ns : List Bool}, RpL K G xs ds → boolsOf ds = some ns → xs = ns.map V.bl
  | _, _, ns, .nil, e => by
    have e' := Option.some.inj e
    subst e'
    rfl
  | _, _, ns, .cons h t, e => by
    cases h with
    | bl i =>
      simp only [boolsOf, Option.map_eq_some_iff] at e
      obtain ⟨r, e1, rfl⟩ := e
      rw [rpl_bools t e1]
      rfl
    | _ => simp [boolsOf, scr, fnD, dkD] at e
mutual
/-- data that can be compared -/
theorem rp_dp : ∀ {v : V} {d : D}, Rp K G v d → PyData.canLay0 d = true → Dp K G v d
  | _, _, .non, _ => .non
  | _, _, .bl b, _ => .bl b
  | _, _, .int i, _ => .int i
  | _, _, .str x, _ => .str x
  | _, _, .lst h t, c => .lst (SqL.of h) (rpl_dp t (by simpa only [PyData.canLay0] using c))
  | _, _, .tup h t, c => .tup h (rpl_dp t (by simpa only [PyData.canLay0] using c))
  | _, _, .scr h, c => by simp [scr, PyData.canLay0] at c
  | _, _, .fn h, c => by simp [fnD, PyData.canLay0] at c
  | _, _, .dk h, c => by simp [dkD, PyData.canLay0] at c
  | _, _, .dic .., c => by simp [PyData.canLay0] at c
theorem rpl_dp : ∀ {vs : List V} {ds : List D}, RpL K G vs ds → PyData.canLayAll0 ds = true → DpAll K G vs ds
  | _, _, .nil, _ => .nil
  | _, _, .cons h t, c => by
    simp only [PyData.canLayAll0, Bool.and_eq_true] at c
    exact .cons (rp_dp h c.1) (rpl_dp t c.2)
end
theorem rp_sh {v : V} {d : D} (h : Rp K G v d) (s : SeqAt.shaped d = true) : Dp K G v d := rp_dp h (SeqAt.canLay_of_shaped s)
end
end Fw

set_option Elab.async false
set_option linter.all false
set_option maxRecDepth 100000
set_option maxHeartbeats 4000000
namespace Fw
open PySem PySem.Spec PyProof.Rows L2
section
variable {K : KW}
theorem pof {α : Type} {c : Prop} [Decidable c] {a : α} {k : α → Prop} {e : Nat → Prop} (p : Post (if c then .ok a else .bad) k e) : c ∧ k a := by
  by_cases h : c
  · rw [if_pos h] at p
    exact ⟨h, p⟩
  · rw [if_neg h] at p
    exact p.elim
theorem rd_add_flat : RD K (rI0 fun i j => .int (i + j)) (fun d e => match d, e with | .int i, .int j => .ok (.int (i + j)) | _, _ => .bad) := fun G H x y d e Q s hx hy p => by
  cases hx <;> cases hy <;> first | exact False.elim p | exact ⟨_, _, rfl, rfl, p _ G H (New.refl s) (.int _)⟩
theorem rdo_add : RDO K (rAddU K) dAdd := fun G H x y d e Q s hx hy p => by
  cases hx with
  | int i =>
    cases hy with
    | int j => exact .inl ⟨_, _, rfl, rfl, p _ [] G H (.pure (New.refl s)) (.val (.int _) rfl (fun z => by cases z))⟩
    | _ => exact False.elim p
  | str i =>
    cases hy with
    | str j =>
      obtain ⟨hz, q⟩ := pof p
      exact .inr (.inr (.inr ⟨_, _, rfl, rfl, big_line hz, q _ [] G H (.pure (New.refl s)) (.val (.str _) rfl (fun z => by cases z))⟩))
    | _ => exact False.elim p
  | lst h1 t1 =>
    cases hy with
    | lst h2 t2 =>
      obtain ⟨hz, q⟩ := pof p
      refine .inr (.inl ⟨_, _, _, _, rfl, rfl, s _ _ h1, s _ _ h2, big_line (by rw [rpl_len t1, rpl_len t2]; exact hz), fun a ha => ?_⟩)
      obtain ⟨l, o⟩ := Lay.lst (.pure (New.refl s)) (owl_leaves (b := false) (H := H) (rpl_app t1 t2) fun z => by cases z) ha
      exact q _ _ _ _ l o
    | _ => exact False.elim p
  | @tup _ xs1 _ h1 t1 =>
    cases hy with
    | @tup _ xs2 _ h2 t2 =>
      obtain ⟨hz, q⟩ := pof p
      refine .inr (.inr (.inl ⟨_, _, _, _, rfl, rfl, same_t s h1, same_t s h2, big_line (by rw [rpl_len t1, rpl_len t2]; exact hz), fun e => ?_, fun _ e => ?_, fun _ _ a ha => ?_⟩))
      · subst e
        cases t1
        exact q _ [] G H (.pure (New.refl s)) (.val (.tup h2 t2) rfl (fun z => by cases z))
      · subst e
        cases t2
        rw [List.append_nil] at q
        exact q _ [] G H (.pure (New.refl s)) (.val (.tup h1 t1) rfl (fun z => by cases z))
      · have n := New.upd (o := .tup (xs1 ++ xs2)) s ha
        exact q _ [] _ _ (.pure n) (.val (.tup (SqT.of upd_same) (rpl_lift (n.same s) (rpl_app t1 t2))) rfl (fun z => by cases z))
    | _ => exact False.elim p
  | _ => cases hy <;> exact False.elim p
theorem q2_add : Quiet2 dAdd := fun d e c h => by
  unfold dAdd at h
  split at h <;> (try split at h) <;> cases h
theorem rd_sub : RD K (rI0 fun i j => .int (i - j)) dSub := fun G H x y d e Q s hx hy p => by
  cases hx <;> cases hy <;> first | exact False.elim p | exact ⟨_, _, rfl, rfl, p _ G H (New.refl s) (.int _)⟩
theorem q2_sub : Quiet2 dSub := fun d e c h => by unfold dSub at h; split at h <;> cases h
theorem rd_mod : RD K (rI (fun _ j => j ≠ 0) fun i j => .int (i.fmod j)) dMod := fun G H x y d e Q s hx hy p => by
  cases hx <;> cases hy <;> first | exact False.elim p | (obtain ⟨hz, q⟩ := pof p; exact ⟨_, _, rfl, rfl, hz, q _ G H (New.refl s) (.int _)⟩)
theorem q2_mod : Quiet2 dMod := fun d e c h => by unfold dMod at h; split at h <;> (try split at h) <;> cases h
theorem rd_div : RD K (rI CDivN fun i j => .int (i.fdiv j)) dDiv := fun G H x y d e Q s hx hy p => by
  cases hx <;> cases hy <;> first | exact False.elim p | (obtain ⟨hz, q⟩ := pof p; exact ⟨_, _, rfl, rfl, hz, q _ G H (New.refl s) (.int _)⟩)
theorem q2_div : Quiet2 dDiv := fun d e c h => by unfold dDiv at h; split at h <;> (try split at h) <;> cases h
theorem rd_pow : RD K (rI CPow fun i j => .int (i ^ j.toNat)) dPow := fun G H x y d e Q s hx hy p => by
  cases hx <;> cases hy <;> first | exact False.elim p | (obtain ⟨hz, q⟩ := pof p; exact ⟨_, _, rfl, rfl, hz, q _ G H (New.refl s) (.int _)⟩)
theorem q2_pow : Quiet2 dPow := fun d e c h => by unfold dPow at h; split at h <;> (try split at h) <;> cases h
theorem ru_neg : RU K (rU fun i => .int (-i)) dNeg := fun G H x d Q s hx p => by
  cases hx <;> first | exact False.elim p | exact ⟨_, rfl, p _ G H (New.refl s) (.int _)⟩
theorem q1_neg : Quiet1 dNeg := fun d c h => by unfold dNeg at h; split at h <;> cases h
theorem rd_lt : RD K (rI0 fun i j => .bl (decide (i < j))) dLt := fun G H x y d e Q s hx hy p => by
  cases hx <;> cases hy <;> first | exact False.elim p | exact ⟨_, _, rfl, rfl, p _ G H (New.refl s) (.bl _)⟩
theorem q2_lt : Quiet2 dLt := fun d e c h => by unfold dLt at h; split at h <;> cases h
theorem rd_le : RD K (rI0 fun i j => .bl (decide (i ≤ j))) dLe := fun G H x y d e Q s hx hy p => by
  cases hx <;> cases hy <;> first | exact False.elim p | exact ⟨_, _, rfl, rfl, p _ G H (New.refl s) (.bl _)⟩
theorem q2_le : Quiet2 dLe := fun d e c h => by unfold dLe at h; split at h <;> cases h
theorem rd_gt : RD K (rI0 fun i j => .bl (decide (j < i))) dGt := fun G H x y d e Q s hx hy p => by
  cases hx <;> cases hy <;> first | exact False.elim p | exact ⟨_, _, rfl, rfl, p _ G H (New.refl s) (.bl _)⟩
theorem q2_gt : Quiet2 dGt := fun d e c h => by unfold dGt at h; split at h <;> cases h
theorem rd_ge : RD K (rI0 fun i j => .bl (decide (j ≤ i))) dGe := fun G H x y d e Q s hx hy p => by
  cases hx <;> cases hy <;> first | exact False.elim p | exact ⟨_, _, rfl, rfl, p _ G H (New.refl s) (.bl _)⟩
theorem q2_ge : Quiet2 dGe := fun d e c h => by unfold dGe at h; split at h <;> cases h
theorem dp_lift {G G' : Hp} {v : V} {d : D} (s : Same G G') (r : Rp K G v d) (h : SeqAt.shaped d = true) : Dp K G' v d := rp_sh (rp_lift s r) h
theorem rd_eq : RD K (rEqD K) dEq := fun G H x y d e Q s hx hy p => by
  obtain ⟨hz, q⟩ := pof p
  exact ⟨d, e, dp_lift s hx hz.1, dp_lift s hy hz.2, hz.1, hz.2, q _ G H (New.refl s) (.bl _)⟩
theorem q2_eq : Quiet2 dEq := fun d e c h => by unfold dEq at h; split at h <;> cases h
theorem rd_ne : RD K (rNeD K) dNe := fun G H x y d e Q s hx hy p => by
  obtain ⟨hz, q⟩ := pof p
  exact ⟨d, e, dp_lift s hx hz.1, dp_lift s hy hz.2, hz.1, hz.2, q _ G H (New.refl s) (.bl _)⟩
theorem q2_ne : Quiet2 dNe := fun d e c h => by unfold dNe at h; split at h <;> cases h
theorem rd_is : RD K rIsB dIs := fun G H x y d e Q s hx hy p => by
  cases hx <;> cases hy <;> first | exact False.elim p | exact ⟨_, _, rfl, rfl, p _ G H (New.refl s) (.bl _)⟩
theorem q2_is : Quiet2 dIs := fun d e c h => by unfold dIs at h; split at h <;> cases h
/-! x in xs -/
theorem pom {α β : Type} {o : Option α} {f : α → Res β} {k : β → Prop} {e : Nat → Prop} (p : Post ((ofOpt o).bind f) k e) : ∃ d, o = some d ∧ Post (f d) k e := by
  cases o with
  | none => exact p.elim
  | some d => exact ⟨d, rfl, p⟩
theorem scrOf_dic {G : Hp} {bs : List Addr} {kds ds : List D} (t : RpL K G (bs.map V.ref) kds) : scrOf (kds.zip ds) = none := by
  cases bs with
  | nil => cases t; rfl
  | cons b bs =>
    cases t with
    | cons h t =>
      cases ds with
      | nil => rfl
      | cons d ds => cases h <;> rfl
theorem refs_map (xs : Ents) : (xs.map fun x => V.ref x.2.1) = (xs.map fun x => x.2.1).map V.ref := by rw [List.map_map]; rfl
def rInS (neg : Bool) : R2 := fun x y H Q => ∃ (c : Nat) (z : Str), x = .str ⟨#[c]⟩ ∧ y = .str z ∧ Q (.bl (decide (c ∈ z.cps.toList) != neg)) H
def rInU (K : KW) : R2 := fun x y H Q => rInD K x y H Q ∨ rIn K false x y H Q ∨ rInN K false x y H Q ∨ rInS false x y H Q
def rNotInU (K : KW) : R2 := fun x y H Q => rNotInD K x y H Q ∨ rIn K true x y H Q ∨ rInN K true x y H Q ∨ rInS true x y H Q
mutual
theorem ky_of {G H : Hp} (s : Same G H) : ∀ {v : V} {d : D} {k : NK}, Rp K G v d → nk d = some k → Ky K.F H k v
  | _, _, _, .non, e => by cases e; exact .non
  | _, _, _, .bl b, e => by cases e; exact .bl b
  | _, _, _, .int i, e => by cases e; exact .int i
  | _, _, _, .str x, e => by cases e; exact .str x
  | _, _, _, .lst _ _, e => by cases e
  | _, _, _, .tup h t, e => by
    obtain ⟨ks, e1, rfl⟩ := Option.map_eq_some_iff.mp (show (nks _).map NestedKey.tup = some _ from e)
    exact .tup (same_t s h) (kya_of s t e1)
  | _, _, _, .scr _, e => by cases e
  | _, _, _, .fn _, e => by cases e
  | _, _, _, .dk _, e => by cases e
  | _, _, _, .dic .., e => by cases e
theorem kya_of {G H : Hp} (s : Same G H) : ∀ {vs : List V} {ds : List D} {ks : List NK}, RpL K G vs ds → nks ds = some ks → KyA K.F H ks vs
  | _, _, _, .nil, e => by cases e; exact .nil
  | _, _, _, .cons h t, e => by
    obtain ⟨k, e1, e2⟩ := Option.bind_eq_some_iff.mp (show (nk _).bind _ = some _ from e)
    obtain ⟨ks, e3, rfl⟩ := Option.map_eq_some_iff.mp e2
    exact .cons (ky_of s h e1) (kya_of s t e3)
end
theorem kys_of {G H : Hp} (s : Same G H) : ∀ {xs : Ents} {kds : List D}, RpL K G (xs.map fun x => V.ref x.2.1) kds → kds.map nk = xs.map (fun x => some x.1) → (∀ x ∈ xs, x.1.depth ≤ 8) → Kys K.F H xs
  | [], _, _, _, _ => fun x hx => absurd hx List.not_mem_nil
  | x :: xs, _, .cons h t, c, d => fun y hy => by
    injection c with c1 c2
    rcases List.mem_cons.mp hy with z | z
    · subst z
      exact ⟨ky_of s h c1, d y List.mem_cons_self⟩
    · exact kys_of s t c2 (fun x hx => d x (List.mem_cons_of_mem _ hx)) y z
theorem at_any (k : NK) : ∀ {xs : Ents} {kds : List D} {ds : List D}, kds.map nk = xs.map (fun x => some x.1) → ds.length = kds.length → ((kds.zip ds).any fun kv => decide (nk kv.1 = some k)) = (atKey xs k).isSome
  | [], [], _, _, _ => rfl
  | [], _ :: _, _, c, _ => by cases c
  | _ :: _, [], _, c, _ => by cases c
  | x :: xs, kd :: kds, [], c, l => by cases l
  | x :: xs, kd :: kds, d :: ds, c, l => by
    injection c with c1 c2
    have ih := at_any k c2 (Nat.succ.inj l)
    rw [List.zip_cons_cons, List.any_cons, ih, c1]
    unfold atKey
    rw [List.find?_cons]
    by_cases e : x.1 = k
    · have e1 : decide (x.1 = k) = true := decide_eq_true e
      have e2 : decide (some x.1 = some k) = true := decide_eq_true (by rw [e])
      rw [e1, e2]
      rfl
    · have e1 : decide (x.1 = k) = false := decide_eq_false e
      have e2 : decide (some x.1 = some k) = false := decide_eq_false fun z => e (Option.some.inj z)
      rw [e1, e2, Bool.false_or]
theorem rin_dic {G H : Hp} {x y : V} {d : D} {kvs : List (D × D)} {neg : Bool} {Q : VK} (s : Same G H) (hx : Rp K G x d) (hy : Rp K G y (.dict kvs)) (p : Post (dIn neg d (.dict kvs)) (fun z => ∀ v G' H', New G H G' H' → Rp K G' v z → Q v H') (fun _ => False)) : rInN K neg x y H Q := by
  have p0 : Post (dInD neg d kvs) (fun z => ∀ v G' H', New G H G' H' → Rp K G' v z → Q v H') (fun _ => False) := p
  unfold dInD at p0
  by_cases c0 : isTup d = true ∧ isDic kvs = true
  case neg =>
    rw [if_neg c0] at p0
    exact p0.elim
  rw [if_pos c0] at p0
  obtain ⟨ht, hn⟩ := c0
  obtain ⟨k, ek, p2⟩ := pom p0
  by_cases h8 : k.depth ≤ 8
  case neg =>
    rw [if_neg h8] at p2
    exact p2.elim
  rw [if_pos h8] at p2
  have q : ∀ v G' H', New G H G' H' → Rp K G' v (.bool ((kvs.any fun kv => decide (nk kv.1 = some k)) != neg)) → Q v H' := p2
  generalize ed : PyData.dict kvs = dd at hy
  cases hy with
  | @dic a ep xs kds ds vs h t1 c dp r t =>
    injection ed with ed
    subst ed
    cases hx with
    | @tup b vs2 ds2 h2 t2 =>
      have l : ds.length = kds.length := by
        have l1 := rpl_len t
        have l2 := rpl_len t1
        have l3 := r.length
        rw [List.length_map] at l2 l3
        omega
      rw [at_any k c l] at q
      exact ⟨a, b, ep, xs, k, rfl, rfl, s _ _ h, kys_of s t1 c dp, ky_of s (.tup h2 t2) ek, h8, q _ G H (New.refl s) (.bl _)⟩
    | _ => cases ht
  | scr h =>
    injection ed with ed
    subst ed
    cases hn
  | fn _ =>
    injection ed with ed
    subst ed
    cases hn
  | dk _ =>
    injection ed with ed
    subst ed
    cases hn
  | _ => cases ed
theorem flat_v {G : Hp} {v : V} {d : D} (r : Rp K G v d) (h : flatD d = true) : flatV v = true := by
  cases r <;> first | rfl | (simp [flatD, scr, fnD, dkD] at h)
theorem flat_all {G : Hp} : ∀ {vs : List V} {ds : List D}, RpL K G vs ds → ds.all flatD = true → vs.all flatV = true
  | _, _, .nil, _ => rfl
  | _, _, .cons a t, h => by
    rw [List.all_cons, Bool.and_eq_true] at h ⊢
    exact ⟨flat_v a h.1, flat_all t h.2⟩
theorem eqv_flat {G : Hp} {v u : V} {d e : D} (r : Rp K G v d) (q : Rp K G u e) (h : flatD d = true) (h2 : flatD e = true) : eqV v u = PyData.eqv d e := by
  cases r <;> cases q <;> first | rfl | (simp [flatD, scr, fnD, dkD] at h; done) | (simp [flatD, scr, fnD, dkD] at h2; done) | (simp [eqV, PyData.eqv])
theorem inv_flat {G : Hp} {u : V} {e : D} (q : Rp K G u e) (he : flatD e = true) : ∀ {vs : List V} {ds : List D}, RpL K G vs ds → ds.all flatD = true → inV u vs = ds.any fun z => PyData.eqv z e
  | _, _, .nil, _ => rfl
  | _, _, .cons a t, h => by
    rw [List.all_cons, Bool.and_eq_true] at h
    have ih := inv_flat q he t h.2
    unfold inV at ih ⊢
    rw [List.any_cons, List.any_cons, eqv_flat a q h.1 he, ih]
theorem q_inD {neg : Bool} {d : D} {kvs : List (D × D)} {c : Nat} : dInD neg d kvs ≠ .exc c := fun h => by
  unfold dInD at h
  split at h
  · cases e : nk d with
    | none => rw [e] at h; cases h
    | some k =>
      rw [e] at h
      have h' : (if k.depth ≤ 8 then Res.ok (PyData.bool ((kvs.any fun kv => decide (nk kv.1 = some k)) != neg)) else .bad) = .exc c := h
      split at h' <;> cases h'
  · cases h
theorem rin_str {G H : Hp} {x : V} {z : Str} {d : D} {neg : Bool} {Q : VK} (s : Same G H) (hx : Rp K G x d) (p : Post (dIn neg d (.str z)) (fun z => ∀ v G' H', New G H G' H' → Rp K G' v z → Q v H') (fun _ => False)) : rInS neg x (.str z) H Q := by
  have p0 : Post (match d with | .str ⟨⟨[c]⟩⟩ => Res.ok (PyData.bool (decide (c ∈ z.cps.toList) != neg)) | _ => .bad) (fun z => ∀ v G' H', New G H G' H' → Rp K G' v z → Q v H') (fun _ => False) := p
  split at p0
  · cases hx
    exact ⟨_, z, rfl, rfl, p0 _ G H (New.refl s) (.bl _)⟩
  · exact p0.elim
theorem rd_in : RD K (rInU K) (dIn false) := fun G H x y d e Q s hx hy p => by
  cases hy with
  | lst h t =>
    obtain ⟨hz, q⟩ := pof p
    exact .inl ⟨d, _, dp_lift s hx hz.1, dp_lift s (.lst h t) hz.2, hz.1, hz.2, q _ G H (New.refl s) (.bl _)⟩
  | tup h t =>
    obtain ⟨hz, q⟩ := pof p
    refine .inr (.inl ⟨_, _, rfl, .inr (same_t s h), flat_v hx hz.1, flat_all t hz.2, ?_⟩)
    rw [inv_flat hx hz.1 t hz.2]
    exact q _ G H (New.refl s) (.bl _)
  | dic h t1 c dp r t => exact .inr (.inr (.inl (rin_dic s hx (.dic h t1 c dp r t) p)))
  | scr h => exact .inr (.inr (.inl (rin_dic s hx (.scr h) p)))
  | fn h => exact .inr (.inr (.inl (rin_dic s hx (.fn h) p)))
  | dk h => exact .inr (.inr (.inl (rin_dic s hx (.dk h) p)))
  | str z => exact .inr (.inr (.inr (rin_str s hx p)))
  | _ => exact False.elim p
theorem q2_in : Quiet2 (dIn false) := fun d e c h => by
  by_cases k : ∃ kvs, e = .dict kvs
  · obtain ⟨kvs, rfl⟩ := k
    exact q_inD h
  · unfold dIn at h
    split at h
    · split at h <;> cases h
    · split at h <;> cases h
    · exact k ⟨_, rfl⟩
    · split at h <;> cases h
    · cases h
theorem rd_notin : RD K (rNotInU K) (dIn true) := fun G H x y d e Q s hx hy p => by
  cases hy with
  | lst h t =>
    obtain ⟨hz, q⟩ := pof p
    exact .inl ⟨d, _, dp_lift s hx hz.1, dp_lift s (.lst h t) hz.2, hz.1, hz.2, q _ G H (New.refl s) (.bl _)⟩
  | tup h t =>
    obtain ⟨hz, q⟩ := pof p
    refine .inr (.inl ⟨_, _, rfl, .inr (same_t s h), flat_v hx hz.1, flat_all t hz.2, ?_⟩)
    rw [inv_flat hx hz.1 t hz.2]
    exact q _ G H (New.refl s) (.bl _)
  | dic h t1 c dp r t => exact .inr (.inr (.inl (rin_dic s hx (.dic h t1 c dp r t) p)))
  | scr h => exact .inr (.inr (.inl (rin_dic s hx (.scr h) p)))
  | fn h => exact .inr (.inr (.inl (rin_dic s hx (.fn h) p)))
  | dk h => exact .inr (.inr (.inl (rin_dic s hx (.dk h) p)))
  | str z => exact .inr (.inr (.inr (rin_str s hx p)))
  | _ => exact False.elim p
theorem q2_notin : Quiet2 (dIn true) := fun d e c h => by
  by_cases k : ∃ kvs, e = .dict kvs
  · obtain ⟨kvs, rfl⟩ := k
    exact q_inD h
  · unfold dIn at h
    split at h
    · split at h <;> cases h
    · split at h <;> cases h
    · exact k ⟨_, rfl⟩
    · split at h <;> cases h
    · cases h
/-! subscripts -/
theorem pom1 {α : Type} {o : Option α} {k : α → Prop} {e : Nat → Prop} (p : Post (ofOpt o) k e) : ∃ d, o = some d ∧ k d := by
  cases o with
  | none => exact p.elim
  | some d => exact ⟨d, rfl, p⟩
theorem at_map {α β : Type} {f : α → β} {xs : List α} {i : Int} {d : β} (h : atI (xs.map f) i = some d) : ∃ a, atI xs i = some a ∧ f a = d := by
  unfold atI at h ⊢
  rw [List.length_map] at h
  cases q : ixN xs.length i with
  | none =>
    rw [q] at h
    cases h
  | some j =>
    rw [q] at h
    have h' : (xs.map f)[j]? = some d := h
    rw [List.getElem?_map, Option.map_eq_some_iff] at h'
    exact h'
theorem at_map2 {α β : Type} {f : α → β} {xs : List α} {i : Int} {a : α} (h : atI xs i = some a) : atI (xs.map f) i = some (f a) := by
  unfold atI at h ⊢
  rw [List.length_map]
  cases q : ixN xs.length i with
  | none =>
    rw [q] at h
    cases h
  | some j =>
    rw [q] at h
    have h' : xs[j]? = some a := h
    show (xs.map f)[j]? = some (f a)
    rw [List.getElem?_map, h']
    rfl
theorem rd_ix0 {G H : Hp} {x : V} {d : D} {i : Int} {Q : VK} (s : Same G H) (hx : Rp K G x d) (p : Post (dIxI i d) (fun z => ∀ v G' H', New G H G' H' → Rp K G' v z → Q v H') (fun _ => False)) : rIx K x (.int i) H Q := by
  have hy : True := trivial
  cases hy with
  | intro =>
    have p1 : Post (dIxI i d) _ _ := p
    cases hx with
    | lst h t =>
      obtain ⟨d, e, q⟩ := pom1 p1
      obtain ⟨v, e1, r⟩ := rpl_at t e
      exact .inl ⟨_, _, i, v, rfl, rfl, SqL.of (s _ _ h), e1, q v G H (New.refl s) r⟩
    | tup h t =>
      obtain ⟨d, e, q⟩ := pom1 p1
      obtain ⟨v, e1, r⟩ := rpl_at t e
      exact .inr (.inl ⟨_, _, i, v, rfl, rfl, same_t s h, e1, q v G H (New.refl s) r⟩)
    | @scr a ns h =>
      obtain ⟨xs, e0, q0⟩ := pom (o := scrOf [(PyData.none, PyData.list (ns.map .int))]) (f := fun xs => ofOpt (atI xs i)) p1
      have e0' := Option.some.inj e0
      subst e0'
      obtain ⟨d, e, q⟩ := pom1 q0
      obtain ⟨z, e1, rfl⟩ := at_map e
      exact .inl ⟨_, _, i, _, rfl, rfl, same_l s h, at_map2 e1, q _ G H (New.refl s) (.int _)⟩
    | str x =>
      by_cases hz : x.length ≤ big
      · have p2 : Post (if x.length ≤ big then (ofOpt (atI x.cps.toList i)).bind fun c => .ok (PyData.str ⟨#[c]⟩) else .bad) _ _ := p1
        rw [if_pos hz] at p2
        obtain ⟨c, e, q⟩ := pom p2
        exact .inr (.inr ⟨x, i, c, rfl, rfl, big_line hz, e, q _ G H (New.refl s) (.str _)⟩)
      · have p2 : Post (if x.length ≤ big then (ofOpt (atI x.cps.toList i)).bind fun c => .ok (PyData.str ⟨#[c]⟩) else .bad) _ _ := p1
        rw [if_neg hz] at p2
        exact p2.elim
    | dic h t1 _ _ _ t =>
      rw [refs_map] at t1
      obtain ⟨xs, e0, q0⟩ := pom p1
      rw [scrOf_dic t1] at e0
      cases e0
    | _ => exact False.elim p
def rIxN (K : KW) : R2 := fun x y H Q => ∃ a b ep xs k p v, x = .ref a ∧ y = .ref b ∧ H a = some (dN K.w a ep xs) ∧ Kys K.F H xs ∧ Ky K.F H k (.ref b) ∧ k.depth ≤ 8 ∧ atKey xs k = some p ∧ RelV v p.2 ∧ Q v H
theorem ix_N {X : Cx} {fa : Str → Addr} (hu : X.A.units + 9 < cLine) : IxR X (rIxN ⟨X.K, X.w, fa⟩) := by
  intro value slice pins s σ H x y v u Q I rx ry h hs
  obtain ⟨a, b, ep, xs, k, p, z, rfl, rfl, e, ks, hk, h8, hp, rz, q⟩ := h
  cases (show v = Value.ref a from rx)
  cases (show u = Value.ref b from ry)
  obtain ⟨_, _, d⟩ := dn_of I e ks
  exact subscriptTail_builtinR (x := p.2) (show s.TypeIs (.ref a) "dict" from let ⟨o, _, _, h1, h2, _⟩ := d; ⟨o, h1, h2.1⟩) PySem.F.slot_dict_getitem.lookup
    (dn_get (Q := fun r s' => r = p.2 ∧ EP X pins σ Q r s') hu I e ks hk h8 hp fun s' I' => ⟨rfl, z, H, I', rz, q⟩) hs
def rIxU (K : KW) : R2 := fun x y H Q => rIx K x y H Q ∨ rIxN K x y H Q
theorem ix_U {X : Cx} {fa : Str → Addr} (hu : X.A.units + 65 < cLine) : IxR X (rIxU ⟨X.K, X.w, fa⟩) := ix_seq.or (ix_N (by omega))
theorem DRel.get {G : Hp} {k : NK} {kd : D} (e : nk kd = some k) : ∀ {xs : Ents} {kvs : List (D × D)}, DRel K G xs kvs → ∀ {kv : D × D}, kvs.find? (fun kv => decide (nk kv.1 = nk kd)) = some kv → ∃ p v, atKey xs k = some p ∧ RelV v p.2 ∧ Rp K G v kv.2
  | _, _, .nil, _, h => by cases h
  | _, _, .cons (x := x) (kd := kd2) (d := d2) a b c r q t, kv, h => by
    rw [List.find?_cons] at h
    unfold atKey
    rw [List.find?_cons]
    by_cases z : x.1 = k
    · have z2 : decide (nk (kd2, d2).1 = nk kd) = true := decide_eq_true (by rw [e, ← z]; exact b)
      rw [z2] at h
      cases h
      rw [decide_eq_true z]
      exact ⟨x.2, _, rfl, r, q⟩
    · have z2 : decide (nk (kd2, d2).1 = nk kd) = false := decide_eq_false fun y => z (Option.some.inj (b.symm.trans (y.trans e)))
      rw [z2] at h
      rw [decide_eq_false z]
      exact DRel.get e t h
theorem rix_dic {G H : Hp} {x y : V} {e : D} {kvs : List (D × D)} {Q : VK} (s : Same G H) (hx : Rp K G x (.dict kvs)) (hy : Rp K G y e) (p : Post (dGet (.dict kvs) e) (fun z => ∀ v G' H', New G H G' H' → Rp K G' v z → Q v H') (fun _ => False)) : rIxN K x y H Q := by
  have p0 : Post (if isDic kvs = true ∧ keyOk e = true then (ofOpt (kvs.find? fun kv => decide (nk kv.1 = nk e))).bind fun kv => .ok kv.2 else .bad) (fun z => ∀ v G' H', New G H G' H' → Rp K G' v z → Q v H') (fun _ => False) := p
  by_cases c0 : isDic kvs = true ∧ keyOk e = true
  case neg =>
    rw [if_neg c0] at p0
    exact p0.elim
  rw [if_pos c0] at p0
  obtain ⟨hn, hk⟩ := c0
  obtain ⟨ht, hk2⟩ := (Bool.and_eq_true _ _).mp (show (isTup e && _) = true from hk)
  obtain ⟨kv, ekv, q⟩ := pom p0
  have q : ∀ v G' H', New G H G' H' → Rp K G' v kv.2 → Q v H' := q
  obtain ⟨k, ek, h8⟩ : ∃ k, nk e = some k ∧ k.depth ≤ 8 := by
    cases z : nk e with
    | none => rw [z] at hk2; cases hk2
    | some k => rw [z] at hk2; exact ⟨k, rfl, of_decide_eq_true hk2⟩
  generalize ed : PyData.dict kvs = dd at hx
  cases hx with
  | @dic a ep xs kds ds vs h t1 c dp r t =>
    injection ed with ed
    subst ed
    have dr := DRel.of t1 c dp r t
    obtain ⟨pp, v, h1, h2, h3⟩ := dr.get ek ekv
    cases hy with
    | @tup b vs2 ds2 h4 t4 =>
      exact ⟨a, b, ep, xs, k, pp, v, rfl, rfl, s _ _ h, kys_of s t1 c dp, ky_of s (.tup h4 t4) ek, h8, h1, h2, q v G H (New.refl s) h3⟩
    | _ => cases ht
  | scr h => injection ed with ed; subst ed; cases hn
  | fn h => injection ed with ed; subst ed; cases hn
  | dk h => injection ed with ed; subst ed; cases hn
  | _ => cases ed
theorem rd_ix : RD K (rIxU K) dIx := fun G H x y d e Q s hx hy p => by
  cases hy with
  | int i => exact .inl (rd_ix0 s hx p)
  | tup h t =>
    cases d with
    | dict kvs => exact .inr (rix_dic s hx (.tup h t) p)
    | _ => exact False.elim p
  | _ => exact False.elim p
theorem q_opt {α β : Type} {o : Option α} {f : α → Res β} {c : Nat} (hf : ∀ a, f a ≠ .exc c) : (ofOpt o).bind f ≠ .exc c := by
  cases o with
  | none => exact fun h => by cases h
  | some a => exact hf a
theorem q_opt1 {α : Type} {o : Option α} {c : Nat} : ofOpt o ≠ .exc c := by
  cases o <;> exact fun h => by cases h
theorem q_ite {α : Type} {p : Prop} [Decidable p] {a : Res α} {c : Nat} (h : a ≠ .exc c) : (if p then a else .bad) ≠ .exc c := by
  split
  · exact h
  · exact fun h => by cases h
theorem q2_get {d e : D} {c : Nat} : dGet d e ≠ .exc c := by
  cases d with
  | dict kvs => exact q_ite (q_opt fun _ h => by cases h)
  | _ => exact fun h => by cases h
theorem q2_ix : Quiet2 dIx := fun d e c => by
  cases e <;> first | exact (fun h => by cases h) | exact q2_get | skip
  rename_i i
  show dIxI i d ≠ .exc c
  cases d with
  | list xs => exact q_opt1
  | tuple xs => exact q_opt1
  | dict kvs => exact q_opt fun _ => q_opt1
  | str x => exact q_ite (q_opt fun _ h => by cases h)
  | _ => exact fun h => by cases h
end
end Fw

set_option Elab.async false
set_option linter.all false
set_option maxRecDepth 100000
set_option maxHeartbeats 4000000
namespace Fw
open PySem PySem.Spec PyProof.Rows L2
theorem tup_once (l : Addr) (items : Array Value) (n : Nat) (dd : Option Addr) (sl : Array (Option Value)) (u : Tok) (x : Int) (hx : x = 1) (c1 : (items.isEmpty || x == 1) = true)
    (c0 : (decide (x < -(2 ^ 63)) || decide (x ≥ 2 ^ 63)) = false) :
    Meets (Builtin.«tuple.__mul__» ⟨[.ref l, .int x u], []⟩) (fun _ R s => s.heap.get? l = some { cls := .type "tuple", dict := dd, data := .seq items n, slots := sl } ∧
      R (.ok (.ret (Value.ref l))) s) :=
  .of_wp fun prog w A R s h => by
    obtain ⟨hp, g, d, tk, os⟩ := s
    obtain ⟨hl, h⟩ := h
    have f1 := AutoSeq1.idx_int
    wp_walk using wpAny_loadPart' hl
    exact ⟨_, rfl, h⟩
section
variable {X : Cx}
def rRepS : R2 := fun x y H Q => ∃ z k, x = .str z ∧ y = .int k ∧ -1000 ≤ k ∧ k ≤ 1000 ∧ z.length * k.toNat ≤ 16000000 ∧ Q (.str (strRep z k)) H
theorem op_repS : OpR X (binaryOp .Mult) rRepS := by
  intro pins s σ H x y v u Q I rx ry h
  obtain ⟨z, k, rfl, rfl, k1, k2, hz, q⟩ := h
  obtain ⟨t, rfl⟩ := rx
  obtain ⟨t', rfl⟩ := ry
  refine P.mul_str ?_ ?_ ?_ ?_
  · rw [decide_eq_false (by omega), decide_eq_false (by omega)]; rfl
  · intro h1 _ h2
    obtain ⟨n, rfl⟩ := Int.eq_ofNat_of_zero_le (show 0 ≤ k by omega)
    rw [Int.toNat_natCast] at hz
    have h3 : (2 ^ 63 - 1) / (n : Int) < (z.length : Int) := h2
    have h4 := (Int.ediv_lt_iff_lt_mul (by omega)).mp h3
    have h5 : (z.length : Int) * n = ((z.length * n : Nat) : Int) := by rw [Int.natCast_mul]
    omega
  · intro h1 _
    show decide (z.length * k.toNat > sizeLine) = false
    exact decide_eq_false (by have : sizeLine = 16777216 := sizeLine_eq; omega)
  · by_cases h1 : k < 1
    · rw [if_pos h1]
      have e : strRep z k = Str.empty := by
        have : k.toNat = 0 := by omega
        unfold strRep
        rw [this]
        rfl
      rw [e] at q
      exact ⟨Nat.zero_le _, .str Str.empty, H, I.tok _, ⟨_, rfl⟩, q⟩
    · rw [if_neg h1]
      by_cases h2 : (k == 1 || z.length == 0) = true
      · rw [if_pos h2]
        have e : strRep z k = z := by
          rcases Bool.or_eq_true_iff.mp h2 with h3 | h3
          · have h4 : k = 1 := by simpa using h3
            subst h4
            unfold strRep
            show (⟨#[] ++ z.cps⟩ : Str) = z
            rw [Array.empty_append]
          · have h4 : z.cps.size = 0 := eq_of_beq h3
            have h5 : z.cps = #[] := Array.eq_empty_of_size_eq_zero h4
            have h6 : (strRep z k).cps.size = 0 := by
              show ((List.replicate k.toNat z.cps).foldl (· ++ ·) #[]).size = 0
              rw [fold_len, h4]
              simp
            have h7 : (strRep z k).cps = #[] := Array.eq_empty_of_size_eq_zero h6
            cases z with
            | mk c =>
              have h8 : c = #[] := h5
              show (⟨(strRep ⟨c⟩ k).cps⟩ : Str) = ⟨c⟩
              rw [h7, h8]
        rw [e] at q
        exact ⟨.str z, H, I, ⟨t, rfl⟩, q⟩
      · rw [if_neg h2]
        refine ⟨?_, .str (strRep z k), H, I.tok _, ⟨_, rfl⟩, q⟩
        show ((List.replicate k.toNat z.cps).foldl (· ++ ·) #[]).size ≤ sizeLine
        rw [fold_len]
        have : sizeLine = 16777216 := sizeLine_eq
        show 0 + z.length * k.toNat ≤ sizeLine
        omega
theorem op_rep1 : OpR X (binaryOp .Mult) (rRep1 X.K) := by
  intro pins s σ H x y v u Q I rx ry h
  obtain ⟨l, xs, rfl, rfl, hT, hne, hz, q⟩ := h
  cases rx
  obtain ⟨t, rfl⟩ := ry
  obtain ⟨its, r, ⟨⟨cls, dd, data, sl⟩, ho, hc, n, hd⟩, hs⟩ := I.tuple hT
  simp only at hc hd
  subst hc
  subst hd
  have c0 : (decide ((1 : Int) < -(2 ^ 63)) || decide ((1 : Int) ≥ 2 ^ 63)) = false := by decide
  have c1 : (its.toArray.isEmpty || (1 : Int) == 1) = true := by simp
  refine wpAny_binaryOp_repeat_ref (T := "tuple") (U := "int") (by decide) ⟨_, ho, rfl⟩ (fun s' => typeIs_int s' 1 t) noFill_tuple_mul
    F.fills_int_mul F.slot_int_rmul repeat_tuple F.slot_int_index.lookup ?_
  refine call_meets F.slot_int_rmul (typeIs_int s 1 t) F.entry_int_rmul (F.args_int_rmul_2 _ _) (int_rmul_tuple 1 t l its.toArray n dd sl) ⟨ho, rfl, ⟨_, ho, rfl⟩, ?_⟩
  refine call_meets F.slot_tuple_mul ⟨_, ho, rfl⟩ F.entry_tuple_mul (F.args_tuple_mul_2 _ _) (tup_once l its.toArray n dd sl t 1 rfl c1 c0) ⟨ho, ?_⟩
  exact ⟨V.ref l, H, I, rfl, q⟩
def rMulU (K : PySem.W.Frag) : R2 := fun x y H Q => rI CMulX (fun i j => .int (i * j)) x y H Q ∨ rRep x y H Q ∨ rRepT K x y H Q ∨ rRep1 K x y H Q ∨ rRepS x y H Q
theorem op_mulU : OpR X (binaryOp .Mult) (rMulU X.K) := op_mulX.or (op_rep.or (op_repT.or (op_rep1.or op_repS)))
def rSlU (K : PySem.W.Frag) : V → Option Int → Option Int → Hp → VK → Prop := fun x lo hi H Q => rSlL K x lo hi H Q ∨ rSlA K x lo hi H Q ∨ rSlS x lo hi H Q
theorem sl_U : SlR X (rSlU X.K) := SlR.or sl_list (SlR.or sl_tupA sl_str)
def rLenU (K : PySem.W.Frag) : List V → Hp → VK → Prop := fun xs H Q => (∃ p ys, xs = [.ref p] ∧ (SqL K H p ys ∨ SqT K H p ys) ∧ Q (.int ys.length) H) ∨ ∃ z, xs = [.str z] ∧ z.length ≤ sizeLine ∧ Q (.int z.length) H
theorem call_lenU : CallR X (.builtin "len") (rLenU X.K) := fun pins s σ H xs us Q I r h => by
  rcases h with h | h
  · exact call_len_seq pins s σ H xs us Q I r h
  · exact call_len_str pins s σ H xs us Q I r h
end
section
variable {K : KW}
theorem rep_one {α : Type} (xs : List α) : (List.replicate 1 xs).flatten = xs := by simp
theorem rdo_mul : RDO K (rMulU K) dMul := fun G H x y d e Q s hx hy p => by
  cases hx with
  | int i =>
    cases hy with
    | int j =>
      obtain ⟨hz, q⟩ := pof p
      exact .inl ⟨_, _, rfl, rfl, hz, q _ [] G H (.pure (New.refl s)) (.val (.int _) rfl (fun z => by cases z))⟩
    | _ => exact False.elim p
  | str x =>
    cases hy with
    | int k =>
      obtain ⟨hz, q⟩ := pof p
      exact .inr (.inr (.inr (.inr ⟨x, k, rfl, rfl, hz.1, hz.2.1, hz.2.2, q _ [] G H (.pure (New.refl s)) (.val (.str _) rfl (fun z => by cases z))⟩)))
    | _ => exact False.elim p
  | lst h1 t1 =>
    cases hy with
    | int k =>
      obtain ⟨hz, q⟩ := pof p
      refine .inr (.inl ⟨_, k, _, rfl, rfl, s _ _ h1, by omega, by omega, big_line (by rw [rpl_len t1]; exact hz.2.2), fun a ha => ?_⟩)
      obtain ⟨l, o⟩ := Lay.lst (.pure (New.refl s)) (owl_leaves (b := false) (H := H) (rpl_rep t1 k.toNat) fun z => by cases z) ha
      exact q _ _ _ _ l o
    | _ => exact False.elim p
  | @tup a1 xs1 ds1 h1 t1 =>
    cases hy with
    | int k =>
      obtain ⟨hz, q⟩ := pof p
      obtain ⟨z1, z2, z3, z4⟩ := hz
      have hne : xs1 ≠ [] := fun e => by
        subst e
        cases t1
        exact z1 rfl
      have hlen : xs1.length ≤ 1000 := by rw [rpl_len t1]; exact z4
      by_cases hk : k = 1
      · subst hk
        refine .inr (.inr (.inr (.inl ⟨_, xs1, rfl, rfl, same_t s h1, hne, hlen, ?_⟩)))
        have q' := q (.ref a1) [] G H (.pure (New.refl s))
        rw [show (1 : Int).toNat = 1 from rfl, rep_one] at q'
        exact q' (.val (.tup h1 t1) rfl (fun z => by cases z))
      · refine .inr (.inr (.inl ⟨_, k, xs1, rfl, rfl, same_t s h1, hne, by omega, z3, hlen, fun a ha => ?_⟩))
        have n := New.upd (o := .tup (List.replicate k.toNat xs1).flatten) s ha
        exact q _ [] _ _ (.pure n) (.val (.tup (SqT.of upd_same) (rpl_lift (n.same s) (rpl_rep t1 k.toNat))) rfl (fun z => by cases z))
    | _ => exact False.elim p
  | _ => cases hy <;> exact False.elim p
theorem q2_mul : Quiet2 dMul := fun d e c h => by unfold dMul at h; split at h <;> (try split at h) <;> cases h
/-! slices -/
abbrev OF := Rho → Res (Option Int)
def oNone : OF := fun _ => .ok none
def oSome (f : EF) : OF := fun ρ => (f ρ).bind fun d => match d with
  | .int i => .ok (some i)
  | _ => .bad
variable {vs0 : List V} {W : WN}
def SndI (K : KW) (vs0 : List V) (W : WN) (t : TO) (f : OF) : Prop := ∀ σ G H ρ F (Q : Option Int → Hp → Prop), Sts K vs0 G H σ ρ F →
  Post (f ρ) (fun b => ∀ G' H', New G H G' H' → Q b H') (fun c => ∀ G' H', New G H G' H' → W c σ H') → t σ H Q
theorem sndi_none : SndI K vs0 W tNoPart oNone := fun σ G H ρ F Q S p => p G H (New.refl S.same)
theorem sndi_some {t : TE} {f : EF} (h : Snd K vs0 W t f) : SndI K vs0 W (tPart t) (oSome f) := fun σ G H ρ F Q S p =>
  h σ G H ρ F _ S (p.bind.imp (fun d q v G1 H1 n d1 => by
    cases d with
    | int i =>
      cases d1
      exact ⟨i, rfl, q G1 H1 n⟩
    | _ => exact False.elim q) fun c q => q)
def eSl (f : EF) (lo hi : OF) : EF := fun ρ => (f ρ).bind fun d => (lo ρ).bind fun l => (hi ρ).bind fun h => dSl d l h
theorem rpl_cut {G : Hp} {xs : List V} {ds : List D} (h : RpL K G xs ds) (lo hi : Option Int) : RpL K G (cutV xs lo hi) (cutD ds lo hi) := by
  unfold cutV cutD
  rw [rpl_len h]
  exact rpl_take (rpl_map h _) _
theorem cut_whole {G : Hp} {xs : List V} {ds : List D} {lo hi : Option Int} (h : RpL K G xs ds) (w : HT.sIx xs.length 0 lo = 0 ∧ HT.sIx xs.length xs.length hi = xs.length) : cutD ds lo hi = ds := by
  unfold cutD
  rw [← rpl_len h, w.1, w.2, Nat.sub_zero, List.drop_zero, rpl_len h, List.take_length]
theorem sndo_sl {te : TE} {tl th : TO} {f : EF} {l h : OF} (h1 : Snd K vs0 W te f) (h2 : SndI K vs0 W tl l) (h3 : SndI K vs0 W th h) : SndO K vs0 W false (tSl (rSlU K) te tl th) (eSl f l h) := fun σ G H ρ F Q S p =>
  h1 σ G H ρ F _ S (p.bind.imp (fun d q v G1 H1 n1 d1 => h2 σ G1 H1 ρ F _ (S.new n1) (q.bind.imp (fun lo q2 G2 H2 n2 => h3 σ G2 H2 ρ F _ ((S.new n1).new n2) (q2.bind.imp (fun hi q3 G3 H3 n3 => by
    have n12 := n2.trans n3
    have n123 := n1.trans n12
    have d3 := rp_lift (n12.same n1.inn) d1
    cases d3 with
    | lst hl t =>
      refine .inl ⟨_, _, rfl, SqL.of (n3.inn _ _ hl), fun a ha => ?_⟩
      obtain ⟨l, o⟩ := Lay.lst (.pure n123) (owl_leaves (b := false) (H := H3) (rpl_cut t lo hi) fun z => by cases z) ha
      exact q3 _ _ _ _ l o
    | @tup a1 xs1 _ hl t =>
      refine .inr (.inl ⟨_, _, rfl, same_t n3.inn hl, fun w => ?_, fun w a ha => ?_⟩)
      · have q4 := q3 (.ref a1) [] G3 H3 (.pure n123)
        rw [cut_whole t w] at q4
        exact q4 (.val (.tup hl t) rfl (fun z => by cases z))
      · have n := New.upd (o := .tup (cutV xs1 lo hi)) n3.inn ha
        exact q3 _ [] _ _ (.pure (n123.trans n)) (.val (.tup (SqT.of upd_same) (rpl_lift (n.same n3.inn) (rpl_cut t lo hi))) rfl (fun z => by cases z))
    | str z =>
      obtain ⟨hz, q4⟩ := pof q3
      exact .inr (.inr ⟨z, rfl, big_line hz, q4 _ [] G3 H3 (.pure n123) (.val (.str _) rfl (fun z => by cases z))⟩)
    | _ => exact False.elim q3) fun c q G3 H3 n3 => q G3 H3 ((n1.trans n2).trans n3))) fun c q G2 H2 n2 => q G2 H2 (n1.trans n2))) fun c q => q)
/-! built-ins -/
theorem rl_1 {r : List V → Hp → VK → Prop} {g : D → Res D} (h : ∀ G H x d (Q : VK), Same G H → Rp K G x d → Post (g d) (fun z => ∀ v G' H', New G H G' H' → Rp K G' v z → Q v H') (fun _ => False) → r [x] H Q) : RL K r (d1 g) := fun G H xs ds Q s hx p => by
  cases hx with
  | nil => exact False.elim p
  | cons a t =>
    cases t with
    | nil => exact h G H _ _ Q s a p
    | cons b t => exact False.elim p
theorem rlo_1 {r : List V → Hp → VK → Prop} {g : D → Res D} (h : ∀ G H x d (Q : VK), Same G H → Rp K G x d → Post (g d) (fun z => ∀ v F' G' H', Lay G H F' G' H' → On K false G' H' F' v z → Q v H') (fun _ => False) → r [x] H Q) : RLO K r (d1 g) := fun G H xs ds Q s hx p => by
  cases hx with
  | nil => exact False.elim p
  | cons a t =>
    cases t with
    | nil => exact h G H _ _ Q s a p
    | cons b t => exact False.elim p
theorem q1_1 {g : D → Res D} (h : Quiet1 g) : Quiet1 (d1 g) := fun ds c => by
  cases ds with
  | nil => exact fun h => by cases h
  | cons a t =>
    cases t with
    | nil => exact h a c
    | cons b t => exact fun h => by cases h
theorem rl_len : RL K (rLenU K) (d1 dLen1) := rl_1 fun G H x d Q s hx p => by
  cases hx with
  | lst h t => exact .inl ⟨_, _, rfl, .inl (SqL.of (s _ _ h)), by rw [rpl_len t]; exact p _ G H (New.refl s) (.int _)⟩
  | tup h t => exact .inl ⟨_, _, rfl, .inr (same_t s h), by rw [rpl_len t]; exact p _ G H (New.refl s) (.int _)⟩
  | @scr a ns h =>
    refine .inl ⟨_, _, rfl, .inl (same_l s h), ?_⟩
    have p' : ∀ v G' H', New G H G' H' → Rp K G' v (.int ((ns.map PyData.int).length : Nat)) → Q v H' := p
    rw [List.length_map] at p' ⊢
    exact p' _ G H (New.refl s) (.int _)
  | str x =>
    obtain ⟨hz, q⟩ := pof p
    exact .inr ⟨_, rfl, big_line hz, q _ G H (New.refl s) (.int _)⟩
  | dic h t1 _ _ _ t =>
    rw [refs_map] at t1
    obtain ⟨xs, e0, q0⟩ := pom (show Post ((ofOpt (scrOf _)).bind fun xs => Res.ok (PyData.int (xs.length : Nat))) _ _ from p)
    rw [scrOf_dic t1] at e0
    cases e0
  | _ => exact False.elim p
theorem q1_len : Quiet1 dLen1 := fun d c => by
  cases d with
  | dict kvs => exact q_opt fun _ h => by cases h
  | str x => exact q_ite fun h => by cases h
  | _ => exact fun h => by cases h
def rListU (K : KW) : List V → Hp → VK → Prop := fun xs H Q => ∃ p ys, xs = [.ref p] ∧ (SqL K H p ys ∨ SqT K H p ys) ∧ ∀ l, H l = none → Q (.ref l) (upd H l (.lst ys))
def rTupU (K : KW) : List V → Hp → VK → Prop := fun xs H Q => ∃ p ys, xs = [.ref p] ∧ ((SqL K H p ys ∧ ∀ l, H l = none → Q (.ref l) (upd H l (.tup ys))) ∨ (SqT K H p ys ∧ Q (.ref p) H))
theorem rlo_list : RLO K (rListU K) (d1 dListOf) := rlo_1 fun G H x d Q s hx p => by
  cases hx with
  | lst h t =>
    refine ⟨_, _, rfl, .inl (SqL.of (s _ _ h)), fun a ha => ?_⟩
    obtain ⟨l, o⟩ := Lay.lst (.pure (New.refl s)) (owl_leaves (b := false) (H := H) t fun z => by cases z) ha
    exact p _ _ _ _ l o
  | tup h t =>
    refine ⟨_, _, rfl, .inr (same_t s h), fun a ha => ?_⟩
    obtain ⟨l, o⟩ := Lay.lst (.pure (New.refl s)) (owl_leaves (b := false) (H := H) t fun z => by cases z) ha
    exact p _ _ _ _ l o
  | _ => exact False.elim p
theorem q1_list : Quiet1 dListOf := fun d c h => by unfold dListOf at h; split at h <;> cases h
theorem rl_tup : RL K (rTupU K) (d1 dTupOf) := rl_1 fun G H x d Q s hx p => by
  cases hx with
  | @lst _ xs1 _ h t =>
    refine ⟨_, _, rfl, .inl ⟨SqL.of (s _ _ h), fun a ha => ?_⟩⟩
    have n := New.upd (o := .tup xs1) s ha
    exact p _ _ _ n (.tup (SqT.of upd_same) (rpl_lift (n.same s) t))
  | tup h t => exact ⟨_, _, rfl, .inr ⟨same_t s h, p _ G H (New.refl s) (.tup h t)⟩⟩
  | _ => exact False.elim p
theorem q1_tup : Quiet1 dTupOf := fun d c h => by unfold dTupOf at h; split at h <;> cases h
def rIntU : List V → Hp → VK → Prop := fun xs H Q => (∃ i, xs = [.int i] ∧ Q (.int i) H) ∨ ∃ k, xs = [.bl k] ∧ Q (.int (if k then 1 else 0)) H
theorem rl_int : RL K rIntU (d1 dIntOf) := rl_1 fun G H x d Q s hx p => by
  cases hx with
  | int i => exact .inl ⟨i, rfl, p _ G H (New.refl s) (.int _)⟩
  | bl i => exact .inr ⟨i, rfl, p _ G H (New.refl s) (.int _)⟩
  | _ => exact False.elim p
theorem q1_int : Quiet1 dIntOf := fun d c h => by unfold dIntOf at h; split at h <;> cases h
theorem rl_all : RL K (rAll K) (d1 dAll) := rl_1 fun G H x d Q s hx p => by
  cases hx with
  | lst h t =>
    obtain ⟨bs, e, q⟩ := pom p
    have e2 := rpl_bools t e
    subst e2
    exact ⟨_, bs, rfl, SqL.of (s _ _ h), q _ G H (New.refl s) (.bl _)⟩
  | _ => exact False.elim p
theorem q1_all : Quiet1 dAll := fun d c => by
  cases d with
  | list xs => exact q_opt fun _ h => by cases h
  | _ => exact fun h => by cases h
theorem rl_any : RL K (rAny K) (d1 dAny) := rl_1 fun G H x d Q s hx p => by
  cases hx with
  | lst h t =>
    obtain ⟨bs, e, q⟩ := pom p
    have e2 := rpl_bools t e
    subst e2
    exact ⟨_, bs, rfl, SqL.of (s _ _ h), q _ G H (New.refl s) (.bl _)⟩
  | _ => exact False.elim p
theorem q1_any : Quiet1 dAny := fun d c => by
  cases d with
  | list xs => exact q_opt fun _ h => by cases h
  | _ => exact fun h => by cases h
theorem rl_sum : RL K (rSum K) (d1 dSum) := rl_1 fun G H x d Q s hx p => by
  cases hx with
  | lst h t =>
    obtain ⟨bs, e, q⟩ := pom p
    have e2 := rpl_ints t e
    subst e2
    exact ⟨_, bs, rfl, SqL.of (s _ _ h), q _ G H (New.refl s) (.int _)⟩
  | _ => exact False.elim p
theorem q1_sum : Quiet1 dSum := fun d c => by
  cases d with
  | list xs => exact q_opt fun _ h => by cases h
  | _ => exact fun h => by cases h
/-! isinstance(x, T), T a built-in class -/
theorem isScr_dic {G : Hp} {bs : List Addr} {kds ds : List D} (t : RpL K G (bs.map V.ref) kds) : isScr (.dict (kds.zip ds)) = true := by
  cases bs with
  | nil => cases t; rfl
  | cons b bs =>
    cases t with
    | cons h t =>
      cases ds with
      | nil => rfl
      | cons d ds => cases h <;> rfl
theorem ty_of {G H : Hp} {v : V} {d : D} (s : Same G H) (r : Rp K G v d) (n : isScr d = false) : TyX K H v (.type (tyName d)) := by
  cases r with
  | non => exact .base .non
  | bl b => exact .base (.bl b)
  | int i => exact .base (.int i)
  | str x => exact .base (.str x)
  | lst h t => exact .base (.lst (s _ _ h))
  | tup h t =>
    rcases same_t s h with (h | ⟨o, h⟩) | ⟨o, its, n, h1, h2, _⟩
    · exact .base (.tup h)
    · exact .fTuple h
    · exact .kTuple h1 h2
  | dic h t1 =>
    rw [refs_map] at t1
    rw [isScr_dic t1] at n
    cases n
  | fn h => simp [isScr, fnD] at n
  | dk h => exact .base (.dK (s _ _ h))
  | scr h => simp [isScr, scr] at n
theorem rl_isi {T : String} {G H : Hp} {x : V} {d : D} {Q : VK} (s : Same G H) (r : Rp K G x d) (p : Post (dIsi T d) (fun z => ∀ v G' H', New G H G' H' → Rp K G' v z → Q v H') (fun _ => False)) : rIsi K [x, .ty T] H Q := by
  obtain ⟨hs, q⟩ : isScr d = false ∧ Post ((ofOpt (kitB (tyName d) T)).bind fun b => .ok (.bool b)) (fun z => ∀ v G' H', New G H G' H' → Rp K G' v z → Q v H') (fun _ => False) := by
    unfold dIsi at p
    split at p
    · rename_i e
      exact ⟨e, p⟩
    · exact p.elim
  obtain ⟨b, e, q⟩ := pom q
  exact ⟨x, .ty T, _, _, b, rfl, .ty T, ty_of s r hs, kit_ty e, q _ G H (New.refl s) (.bl _)⟩
theorem q1_isi {T : String} : Quiet1 (dIsi T) := fun d c => q_ite (q_opt fun _ h => by cases h)
/-- the call isinstance(e, T) -/
theorem snd_isi {T : String} {te : TE} {f : EF} (h : Snd K vs0 W te f) : Snd K vs0 W (tCB (rIsi K) (tCons te (tCons (tC (.ty T)) tNil))) (eUn (dIsi T) f) := fun σ G H ρ F Q S p =>
  h σ G H ρ F _ S (p.bind.imp (fun d q v G1 H1 n1 d1 => rl_isi n1.inn d1 ((post_w (q1_isi d) q).imp (fun z q3 w G3 H3 n3 d3 => q3 w G3 H3 (n1.trans n3) d3) fun _ z => z)) fun c q => q)
end
end Fw

set_option Elab.async false
set_option linter.all false
set_option maxRecDepth 100000
set_option maxHeartbeats 4000000
namespace Fw
open PySem PySem.Spec PyProof.Rows L2

/-! ### what is walked -/
section
variable {X : Cx} {tg : Expr}
/-- a list or a tuple -/
def iSeq (K : PySem.W.Frag) (tl : TE) : TI := fun σ H R => tl σ H fun x H1 => (∃ a, x = .ref a ∧ (∃ xs, SqL K H1 a xs) ∧ R (Itl K a) H1) ∨ ∃ a, x = .ref a ∧ (∃ xs, SqT K H1 a xs) ∧ R (Itt K a) H1
theorem pi_seq {l : Expr} {tl : TE} (hl : PE X l tl) : PI X tg l (iSeq X.K tl) := by
  refine ⟨fun pins s σ H R I h => thn (hl.run pins s σ H _ I h) fun v s1 ⟨x, H1, I1, r1, q1⟩ => ?_⟩
  have fp : ∀ b ∈ [s1.heap.objs.size], FpOk X pins H1 b := fun b hb => by
    obtain rfl : b = s1.heap.objs.size := by simpa using hb
    exact I1.fpOk (Nat.le_refl _) (I1.hok.fresh (Nat.le_refl _))
  have kp : ∀ o : Obj, L2.Inv X pins σ H1 { s1 with heap := s1.heap.push o } := fun o => I1.kept (t' := s1.toks) fun b u e => Heap.get?_push_of_some _ e
  rcases q1 with ⟨a, rfl, ⟨xs, hq⟩, q⟩ | ⟨a, rfl, ⟨xs, hq⟩, q⟩
  · cases r1
    obtain ⟨its, rv, p, hz⟩ := I1.list hq
    exact wpAny_pyIter_list p.isList ⟨s1.heap.objs.size, [s1.heap.objs.size], _, _, H1, rfl, kp _, turn_list a _, ⟨_, Heap.get?_push_size _ rfl, rfl, rfl⟩, fp, q⟩
  · cases r1
    obtain ⟨its, rv, p, hz⟩ := I1.tuple hq
    exact wpAny_pyIter_tuple (show s1.heap.IsTuple a its.toArray from p) ⟨s1.heap.objs.size, [s1.heap.objs.size], _, _, H1, rfl, kp _, turn_tuple a _, ⟨_, Heap.get?_push_size _ rfl, rfl, rfl⟩, fp, q⟩
end
structure Its (K : KW) (J : It) (G : Hp) (ds : List D) : Prop where
  goes : ∀ i H G1, i < ds.length → Same G G1 → Same G1 H → J.go i H
  stops : ∀ H G1, Same G G1 → Same G1 H → J.stop ds.length H
  yields : ∀ i H G1 x H', i < ds.length → Same G G1 → Same G1 H → J.yld i H x H' → ∃ d G2, ds[i]? = some d ∧ New G1 H G2 H' ∧ Rp K G2 x d
def SndW (K : KW) (vs0 : List V) (W : WN) (wi : TI) (f : AF) : Prop := ∀ σ G H ρ F (R : It → Hp → Prop), Sts K vs0 G H σ ρ F →
  Post (f ρ) (fun ds => ∀ J G' H', New G H G' H' → Its K J G' ds → R J H') (fun c => ∀ G' H', New G H G' H' → W c σ H') → wi σ H R
section
variable {K : KW} {vs0 : List V} {W : WN} {G H G' H' G1 H1 : Hp} {σ : L2.St} {ρ : Rho} {F : List Addr}
theorem rpl_getV : ∀ {vs : List V} {ds : List D} {i : Nat}, RpL K G vs ds → ∀ {v : V}, vs[i]? = some v → ∃ d, ds[i]? = some d ∧ Rp K G v d
  | _, _, _, .nil, _, h => by simp at h
  | _, _, 0, .cons h _, d, e => by
    have e' := Option.some.inj e
    subst e'
    exact ⟨_, rfl, h⟩
  | _, _, i + 1, .cons _ t, d, e => rpl_getV (i := i) t e
theorem its_at {J : It} {xs : List V} {ds : List D} {P : Hp → Prop} (w : Walk J xs.length P (YAt xs)) (h : ∀ H, Same G H → P H) (t : RpL K G xs ds) : Its K J G ds where
  goes := fun i H G1 hi s s1 => w.goes i H (by rw [rpl_len t]; exact hi) (h H (s.trans s1))
  stops := fun H G1 s s1 => by rw [← rpl_len t]; exact w.stops H (h H (s.trans s1))
  yields := fun i H G1 x H' hi s s1 y => by
    obtain ⟨rfl, e⟩ := w.yields i H x H' (by rw [rpl_len t]; exact hi) (h H (s.trans s1)) y
    obtain ⟨d, e1, r⟩ := rpl_getV t e
    exact ⟨d, G1, e1, New.refl s1, rp_lift s r⟩
/-- its items, one after another -/
def wSeq (f : EF) : AF := fun ρ => (f ρ).bind fun d => match d with
  | .list xs => .ok xs
  | .tuple xs => .ok xs
  | _ => .bad
theorem sndw_seq {te : TE} {f : EF} (h : Snd K vs0 W te f) : SndW K vs0 W (iSeq K te) (wSeq f) := fun σ G H ρ F R S p =>
  h σ G H ρ F _ S (p.bind.imp (fun d q v G1 H1 n1 d1 => by
    cases d1 with
    | lst hl t => exact .inl ⟨_, rfl, ⟨_, SqL.of (n1.inn _ _ hl)⟩, q _ G1 H1 n1 (its_at walk_list (fun H s => SqL.of (s _ _ hl)) t)⟩
    | tup hl t => exact .inr ⟨_, rfl, ⟨_, same_t n1.inn hl⟩, q _ G1 H1 n1 (its_at walk_tup (fun H s => same_t s hl) t)⟩
    | _ => exact False.elim q) fun c q => q)
/-- range(n), range(a, b) -/
def rangeD (lo : Int) (n : Nat) : List D := (List.range n).map fun (i : Nat) => PyData.int (lo + (i : Int))
theorem range_len (lo : Int) (n : Nat) : (rangeD lo n).length = n := by simp [rangeD]
theorem range_get {lo : Int} {n i : Nat} (h : i < n) : (rangeD lo n)[i]? = some (.int (lo + (i : Nat))) := by simp [rangeD, h]
theorem its_range {lo : Int} {n : Nat} : Its K (Itr lo n) G (rangeD lo n) where
  goes := fun i H G1 hi _ _ => by rw [range_len] at hi; exact hi
  stops := fun H G1 _ _ => by rw [range_len]; exact Nat.le_refl _
  yields := fun i H G1 x H' hi s s1 y => by
    rw [range_len] at hi
    obtain ⟨rfl, rfl⟩ := (walk_range (lo := lo) (n := n)).yields i H x H' hi trivial y
    exact ⟨_, G1, range_get hi, New.refl s1, .int _⟩
def okI (i : Int) : Bool := decide (-(2 ^ 60) ≤ i ∧ i ≤ 2 ^ 60)
def wRange1 (a : AF) : AF := fun ρ => (a ρ).bind fun ds => match ds with
  | [.int j] => if okI j = true then .ok (rangeD 0 j.toNat) else .bad
  | _ => .bad
def wRange2 (a : AF) : AF := fun ρ => (a ρ).bind fun ds => match ds with
  | [.int i, .int j] => if okI i = true ∧ okI j = true then .ok (rangeD i (j - i).toNat) else .bad
  | _ => .bad
theorem okI_of {i : Int} (h : okI i = true) : -(2 ^ 62) ≤ i ∧ i < 2 ^ 62 := by
  have := of_decide_eq_true h
  omega
theorem sndw_range1 {ta : TA} {a : AF} (h : SndA K vs0 W ta a) : SndW K vs0 W (iRng1 ta) (wRange1 a) := fun σ G H ρ F R S p =>
  h σ G H ρ F _ S (p.bind.imp (fun ds q vs G1 H1 n1 d1 => by
    cases d1 with
    | nil => exact q.elim
    | cons x t =>
      cases t with
      | cons y t => cases x <;> exact q.elim
      | nil =>
        cases x with
        | int j =>
          obtain ⟨hz, q⟩ := pof q
          obtain ⟨h1, h2⟩ := okI_of hz
          exact ⟨j, rfl, h1, h2, q _ G1 H1 n1 its_range⟩
        | _ => exact q.elim) fun c q => q)
theorem sndw_range2 {ta : TA} {a : AF} (h : SndA K vs0 W ta a) : SndW K vs0 W (iRng2 ta) (wRange2 a) := fun σ G H ρ F R S p =>
  h σ G H ρ F _ S (p.bind.imp (fun ds q vs G1 H1 n1 d1 => by
    cases d1 with
    | nil => exact q.elim
    | cons x t =>
      cases t with
      | nil => cases x <;> exact q.elim
      | cons y t =>
        cases t with
        | cons z t => cases x <;> cases y <;> exact q.elim
        | nil =>
          cases x with
          | int i =>
            cases y with
            | int j =>
              obtain ⟨hz, q⟩ := pof q
              obtain ⟨h1, h2⟩ := okI_of hz.1
              obtain ⟨h3, h4⟩ := okI_of hz.2
              exact ⟨i, j, rfl, ⟨h1, h2, h3, h4⟩, q _ G1 H1 n1 its_range⟩
            | _ => exact q.elim
          | _ => cases y <;> exact q.elim) fun c q => q)
/-- enumerate(list) -/
def enumD (ds : List D) : List D := ds.zipIdx.map fun p => PyData.tuple [.int (p.2 : Nat), p.1]
theorem enum_len (ds : List D) : (enumD ds).length = ds.length := by simp [enumD]
theorem enum_get {ds : List D} {i : Nat} {d : D} (h : ds[i]? = some d) : (enumD ds)[i]? = some (.tuple [.int (i : Nat), d]) := by
  simp [enumD, h]
def wEnum (a : AF) : AF := fun ρ => (a ρ).bind fun ds => match ds with
  | [.list xs] => .ok (enumD xs)
  | _ => .bad
theorem sndw_enum {ta : TA} {a : AF} (h : SndA K vs0 W ta a) : SndW K vs0 W (iEnum K ta) (wEnum a) := fun σ G H ρ F R S p =>
  h σ G H ρ F _ S (p.bind.imp (fun ds q vs G1 H1 n1 d1 => by
    cases d1 with
    | nil => exact q.elim
    | cons x t =>
      cases t with
      | cons y t => cases x <;> exact q.elim
      | nil =>
        cases x with
        | @lst a xs dd hl t =>
          refine ⟨a, xs, rfl, SqL.of (n1.inn _ _ hl), q _ G1 H1 n1 ?_⟩
          have w := walk_enum (K := K) (a := a) (xs := xs)
          exact {
            goes := fun i H G2 hi s s1 => w.goes i H (by rw [rpl_len t, ← enum_len]; exact hi) (SqL.of (s1 _ _ (s _ _ hl)))
            stops := fun H G2 s s1 => by rw [enum_len, ← rpl_len t]; exact w.stops H (SqL.of (s1 _ _ (s _ _ hl)))
            yields := fun i H G2 x H' hi s s1 y => by
              obtain ⟨T, x1, x2, rfl, hT, rfl, e1, e2⟩ := w.yields i H x H' (by rw [rpl_len t, ← enum_len]; exact hi) (SqL.of (s1 _ _ (s _ _ hl))) y
              obtain ⟨d, e3, r⟩ := rpl_getV t e2
              have n := New.upd (o := .tup [x1, x2]) s1 hT
              have e4 := Option.some.inj e1
              subst e4
              exact ⟨_, _, enum_get e3, n, .tup (SqT.of upd_same) (.cons (.int _) (.cons (rp_lift (s.trans (n.same s1)) r) .nil))⟩ }
        | _ => exact q.elim) fun c q => q)
/-- reversed(list or tuple) -/
def wRev (f : EF) : AF := fun ρ => (wSeq f ρ).bind fun ds => .ok ds.reverse
theorem its_rev {J : It} {xs : List V} {ds : List D} {P : Hp → Prop} (w : Walk J xs.length P (fun i H x H' => H' = H ∧ xs[xs.length - 1 - i]? = some x)) (h : ∀ H, Same G H → P H) (t : RpL K G xs ds) : Its K J G ds.reverse where
  goes := fun i H G1 hi s s1 => w.goes i H (by rw [rpl_len t, ← List.length_reverse]; exact hi) (h H (s.trans s1))
  stops := fun H G1 s s1 => by rw [List.length_reverse, ← rpl_len t]; exact w.stops H (h H (s.trans s1))
  yields := fun i H G1 x H' hi s s1 y => by
    rw [List.length_reverse] at hi
    obtain ⟨rfl, e⟩ := w.yields i H x H' (by rw [rpl_len t]; exact hi) (h H (s.trans s1)) y
    obtain ⟨d, e1, r⟩ := rpl_getV t e
    refine ⟨d, G1, ?_, New.refl s1, rp_lift s r⟩
    rw [List.getElem?_reverse hi, ← rpl_len t]
    exact e1
theorem walk_revT {a : Addr} {xs : List V} : Walk (RT.ItvT K a xs.length) xs.length (fun H => SqT K H a xs) (fun i H x H' => H' = H ∧ xs[xs.length - 1 - i]? = some x) :=
  ⟨fun i _ hi q => ⟨hi, xs, xs[xs.length - 1 - i]'(by omega), q, by simp [show xs.length - 1 - i < xs.length by omega]⟩, fun _ _ => Nat.le_refl _, fun _ _ _ _ _ q y => ⟨y.1, y.2 xs q⟩⟩
theorem sndw_rev {te : TE} {f : EF} (h : Snd K vs0 W te f) : SndW K vs0 W (RT.iRevA K te) (wRev f) := fun σ G H ρ F R S p =>
  h σ G H ρ F _ S (p.bind.bind.imp (fun d q v G1 H1 n1 d1 => by
    cases d1 with
    | lst hl t => exact ⟨_, _, rfl, .inl ⟨SqL.of (n1.inn _ _ hl), q _ G1 H1 n1 (its_rev walk_rev (fun H s => SqL.of (s _ _ hl)) t)⟩⟩
    | tup hl t => exact ⟨_, _, rfl, .inr ⟨same_t n1.inn hl, q _ G1 H1 n1 (its_rev walk_revT (fun H s => same_t s hl) t)⟩⟩
    | _ => exact False.elim q) fun c q => q)

/-! ### targets -/
abbrev PF := D → Rho → Res Rho
def SndG (K : KW) (vs0 : List V) (g : TG) (pf : PF) (is : List Nat) : Prop := ∀ v d σ G H ρ F (Q : L2.St → Hp → Prop), Sts K vs0 G H σ ρ F → Rp K G v d →
  Post (pf d ρ) (fun ρ' => ∀ σ' F', Sts K vs0 G H σ' ρ' F' → F'.Sublist F → σ'.length = σ.length → (∀ j, j ∉ is → σ'[j]? = σ[j]?) → Q σ' H) (fun _ => False) → g v σ H Q
def pName (i : Nat) : PF := fun d ρ => .ok (ρ.set i (.p d))
theorem Sts.sub {F' : List Addr} (S : Sts K vs0 G H σ ρ F) {σ' : L2.St} {ρ' : Rho} (r : Slr K vs0 G H σ' ρ' F') (s : F'.Sublist F) : Sts K vs0 G H σ' ρ' F' :=
  ⟨S.same, r, s.nodup S.nd, fun a ha => S.out a (s.subset ha)⟩
theorem sndg_name {i : Nat} : SndG K vs0 (gName i) (pName i) [i] := fun v d σ G H ρ F Q S r p => by
  obtain ⟨F', t, s⟩ := S.rel.set i r
  refine p (σ.set i (some v)) F' (S.sub t s) s (List.length_set ..) fun j hj => ?_
  rw [List.getElem?_set_ne]
  exact fun e => hj (by rw [e]; exact List.mem_singleton.mpr rfl)
abbrev PFs := List D → Rho → Res Rho
def SndGs (K : KW) (vs0 : List V) (g : TGs) (pf : PFs) (is : List Nat) : Prop := ∀ vs ds σ G H ρ F (Q : L2.St → Hp → Prop), Sts K vs0 G H σ ρ F → RpL K G vs ds →
  Post (pf ds ρ) (fun ρ' => ∀ σ' F', Sts K vs0 G H σ' ρ' F' → F'.Sublist F → σ'.length = σ.length → (∀ j, j ∉ is → σ'[j]? = σ[j]?) → Q σ' H) (fun _ => False) → g vs σ H Q
def psNil : PFs := fun ds ρ => match ds with
  | [] => .ok ρ
  | _ => .bad
def psCons (p : PF) (q : PFs) : PFs := fun ds ρ => match ds with
  | d :: ds => (p d ρ).bind fun ρ' => q ds ρ'
  | _ => .bad
theorem sndgs_nil : SndGs K vs0 gNil psNil [] := fun vs ds σ G H ρ F Q S r p => by
  cases r with
  | nil => exact ⟨rfl, p σ F S (List.Sublist.refl _) rfl fun _ _ => rfl⟩
  | cons _ _ => exact p.elim
theorem sndgs_cons {g : TG} {gs : TGs} {pf : PF} {pfs : PFs} {is js : List Nat} (h1 : SndG K vs0 g pf is) (h2 : SndGs K vs0 gs pfs js) : SndGs K vs0 (gCons g gs) (psCons pf pfs) (is ++ js) := fun vs ds σ G H ρ F Q S r p => by
  cases r with
  | nil => exact p.elim
  | cons a t =>
    refine ⟨_, _, rfl, h1 _ _ σ G H ρ F _ S a (Post.imp (show Post (Res.bind _ _) _ _ from p).bind (fun ρ1 q σ1 F1 S1 s1 l1 e1 => ?_) fun _ z => z)⟩
    refine h2 _ _ σ1 G H ρ1 F1 Q S1 t (q.imp (fun ρ2 q2 σ2 F2 S2 s2 l2 e2 => q2 σ2 F2 S2 (s2.trans s1) (l2.trans l1) fun j hj => ?_) fun _ z => z)
    rw [e2 j fun z => hj (List.mem_append_right _ z), e1 j fun z => hj (List.mem_append_left _ z)]
def pTup (n : Nat) (q : PFs) : PF := fun d ρ => match d with
  | .tuple ds => if ds.length = n then q ds ρ else .bad
  | _ => .bad
theorem sndg_tup {n : Nat} {gs : TGs} {pfs : PFs} {is : List Nat} (h : SndGs K vs0 gs pfs is) : SndG K vs0 (gTup K n gs) (pTup n pfs) is := fun v d σ G H ρ F Q S r p => by
  cases r with
  | tup hl t =>
    have p' : Post (if _ then _ else _) _ _ := p
    split at p'
    · rename_i e
      exact ⟨_, _, rfl, same_t S.same hl, by rw [rpl_len t]; exact e, h _ _ σ G H ρ F Q S t p'⟩
    · exact p'.elim
  | _ => exact p.elim
end
end Fw

set_option Elab.async false
set_option linter.all false
set_option maxRecDepth 100000
set_option maxHeartbeats 4000000
namespace Fw
open PySem PySem.Spec PyProof.Rows L2

/-! ### list comprehensions -/
def wipeR (ρ : Rho) : List Nat → Rho
  | [] => ρ
  | v :: vs => (wipeR ρ vs).set v .no
def noExc {α : Type} : Res α → Res α
  | .exc _ => .bad
  | r => r
def lcGo (body : D → Res (List D)) : List D → Res (List D)
  | [] => .ok []
  | d :: ds => (body d).bind fun r => (lcGo body ds).bind fun rs => .ok (r ++ rs)
def lcTurn (pat : PF) (tt : BF) (elt : EF) (ρ : Rho) (d : D) : Res (List D) := (pat d ρ).bind fun ρ' => (tt ρ').bind fun b => if b = true then (elt ρ').bind fun e => .ok [e] else .ok []
def eLc (it : AF) (pat : PF) (tt : BF) (elt : EF) (vs : List Nat) : EF := fun ρ => (it ρ).bind fun ds => (noExc (lcGo (lcTurn pat tt elt (wipeR ρ vs)) ds)).bind dLst
def lcTurn2 (pat : PF) (tt : BF) (it1 : AF) (pat1 : PF) (tt1 : BF) (elt : EF) (vs1 : List Nat) (ρ : Rho) (d : D) : Res (List D) := (pat d ρ).bind fun ρ' => (tt ρ').bind fun b => if b = true then
  (it1 ρ').bind fun ds1 => lcGo (lcTurn pat1 tt1 elt (wipeR ρ' vs1)) ds1 else .ok []
def eLc2 (it : AF) (pat : PF) (tt : BF) (it1 : AF) (pat1 : PF) (tt1 : BF) (elt : EF) (vs vs1 : List Nat) : EF := fun ρ => (it ρ).bind fun ds => (noExc (lcGo (lcTurn2 pat tt it1 pat1 tt1 elt vs1 (wipeR ρ vs)) ds)).bind dLst
def bYes : BF := fun _ => .ok true

theorem wipe_get (σ : L2.St) : ∀ (vs : List Nat) (j : Nat), j ∉ vs → (wipe σ vs)[j]? = σ[j]?
  | [], _, _ => rfl
  | v :: vs, j, h => by
    unfold wipe
    rw [List.getElem?_set_ne fun e => h (by rw [e]; exact List.mem_cons_self), wipe_get σ vs j fun z => h (List.mem_cons_of_mem _ z)]
theorem wipe_at (σ : L2.St) : ∀ (vs : List Nat) (j : Nat), j ∈ vs → j < σ.length → (wipe σ vs)[j]? = some none
  | v :: vs, j, h, hl => by
    unfold wipe
    by_cases e : v = j
    · subst e
      rw [List.getElem?_set_self (by rw [wipe_length]; exact hl)]
    · rw [List.getElem?_set_ne e]
      rcases List.mem_cons.mp h with z | z
      · exact absurd z.symm e
      · exact wipe_at σ vs j z hl
theorem wipe_same {σ τ : L2.St} {vs is : List Nat} (hi : ∀ i ∈ is, i ∈ vs) (hl : τ.length = σ.length) (e : ∀ j, j ∉ is → τ[j]? = (wipe σ vs)[j]?) : wipe τ vs = wipe σ vs := by
  refine List.ext_getElem? fun j => ?_
  by_cases hj : j ∈ vs
  · by_cases hlt : j < σ.length
    · rw [wipe_at σ vs j hj hlt, wipe_at τ vs j hj (by omega)]
    · rw [List.getElem?_eq_none (by rw [wipe_length]; omega), List.getElem?_eq_none (by rw [wipe_length]; omega)]
  · rw [wipe_get τ vs j hj]
    exact e j fun z => hj (hi j z)

section
variable {K : KW} {vs0 : List V} {W : WN} {G H G' H' G1 H1 : Hp} {σ : L2.St} {ρ : Rho} {F : List Addr}
theorem Slr.wipe (S : Slr K vs0 G H σ ρ F) : ∀ vs : List Nat, ∃ F', Slr K vs0 G H (L2.wipe σ vs) (wipeR ρ vs) F' ∧ F'.Sublist F
  | [] => ⟨F, S, List.Sublist.refl _⟩
  | v :: vs => by
    obtain ⟨F1, t, s⟩ := Slr.wipe S vs
    obtain ⟨F2, t2, s2⟩ := t.setN v (x := none)
    exact ⟨F2, t2, s2.trans s⟩
theorem Sts.wipe (S : Sts K vs0 G H σ ρ F) (vs : List Nat) : ∃ F', Sts K vs0 G H (L2.wipe σ vs) (wipeR ρ vs) F' ∧ F'.Sublist F := by
  obtain ⟨F', t, s⟩ := S.rel.wipe vs
  exact ⟨F', S.sub t s, s⟩
/-- all but d goes on -/
structure But (d : Addr) (G H G' H' : Hp) : Prop where
  keep : ∀ a o, a ≠ d → H a = some o → H' a = some o
  same : Same G G'
  quiet : ∀ a, a ≠ d → H a ≠ none → G' a = G a
  inn : Same G' H'
theorem Sts.but {d : Addr} (S : Sts K vs0 G H σ ρ F) (b : But d G H G' H') (hd : d ∉ F) : Sts K vs0 G' H' σ ρ F where
  same := b.inn
  rel := S.rel.move b.same fun a ha => by
    obtain ⟨xs, e⟩ := S.rel.foot a ha
    rw [e]
    exact b.keep a _ (fun z => hd (by rw [← z]; exact ha)) e
  nd := S.nd
  out := fun a ha => by
    obtain ⟨xs, e⟩ := S.rel.foot a ha
    rw [b.quiet a (fun z => hd (by rw [← z]; exact ha)) (nn_of e)]
    exact S.out a ha
theorem But.of {d : Addr} {o : HO} (n : New G H G1 H1) (s : Same G H) (hg : G1 d = none) : But d G H G1 (upd H1 d o) where
  keep := fun a u h e => by
    rw [upd_ne h]
    exact n.keep a u e
  same := n.same s
  quiet := fun a h e => n.quiet a e
  inn := fun a u e => by
    rw [upd_ne (ne_of_none e hg)]
    exact n.inn a u e
theorem But.new {d : Addr} (n : New G H G1 H1) (s : Same G H) : But d G H G1 H1 where
  keep := fun a u h e => n.keep a u e
  same := n.same s
  quiet := fun a h e => n.quiet a e
  inn := n.inn
structure LcI (K : KW) (b : Bool) (G H : Hp) (d : Addr) (G' H' : Hp) (acc : List V) (ds : List D) (F : List Addr) : Prop where
  lay : Lay G H (d :: F) G' H'
  own : OwL K b G' H' F acc ds
  here : H' d = some (.lst acc)
theorem LcI.start {b : Bool} {d : Addr} (s : Same G H) (hd : H d = none) : LcI K b G H d G (upd H d (.lst [])) [] [] [] := by
  obtain ⟨l, o⟩ := Lay.lst (.pure (New.refl s)) (OwL.nil (K := K) (b := b) (G := G) (H := H)) hd
  exact ⟨l, .nil, upd_same⟩
theorem LcI.grow {b : Bool} {d : Addr} {acc : List V} {ds : List D} {F : List Addr} (L : LcI K b G H d G1 H1 acc ds F) (n : New G1 H1 G' H') : LcI K b G H d G' H' acc ds F where
  lay := ⟨L.lay.new.trans n, L.lay.nd, fun a ha => ⟨(L.lay.fresh a ha).1, by
    have e : ∃ xs : MO, H1 a = some xs.o := by
      rcases List.mem_cons.mp ha with z | z
      · rw [z]
        exact ⟨.l _, L.here⟩
      · exact owl_lst L.own a z
    obtain ⟨xs, e⟩ := e
    rw [n.quiet a (nn_of e)]
    exact (L.lay.fresh a ha).2⟩⟩
  own := owl_move (n.same L.lay.new.inn) L.own fun a ha => by
    obtain ⟨xs, e⟩ := owl_lst L.own a ha
    rw [e]
    exact n.keep a _ e
  here := n.keep _ _ L.here
theorem LcI.app {b : Bool} {d : Addr} {acc : List V} {ds : List D} {F Fe : List Addr} {y : V} {e : D} (L : LcI K b G H d G1 H1 acc ds F) (l : Lay G1 H1 Fe G' H') (o : Ow K b G' H' Fe y e) :
    LcI K b G H d G' (upd H' d (.lst (acc ++ [y]))) (acc ++ [y]) (ds ++ [e]) (F ++ Fe) := by
  have M := L.grow l.new
  have nd := List.nodup_cons.mp M.lay.nd
  have dFe : d ∉ Fe := fun z => by
    have q := (l.fresh d z).1
    rw [L.here] at q
    cases q
  have hd : H d = none := (M.lay.fresh d List.mem_cons_self).1
  have gd : G' d = none := (M.lay.fresh d List.mem_cons_self).2
  refine ⟨⟨⟨fun a o h => ?_, fun a o h => ?_, M.lay.new.quiet⟩, ?_, fun a ha => ?_⟩, ?_, upd_same⟩
  · rw [upd_ne (ne_of_none h hd)]
    exact M.lay.new.keep a o h
  · rw [upd_ne (ne_of_none h gd)]
    exact M.lay.new.inn a o h
  · refine List.nodup_cons.mpr ⟨fun z => ?_, List.nodup_append.mpr ⟨nd.2, l.nd, fun a ha b hb z => ?_⟩⟩
    · rcases List.mem_append.mp z with z | z
      · exact nd.1 z
      · exact dFe z
    · subst z
      obtain ⟨xs, e⟩ := owl_lst L.own a ha
      rw [(l.fresh a hb).1] at e
      cases e
  · rcases List.mem_cons.mp ha with z | z
    · exact M.lay.fresh a (by rw [z]; exact List.mem_cons_self)
    · rcases List.mem_append.mp z with z | z
      · exact M.lay.fresh a (List.mem_cons_of_mem _ z)
      · refine ⟨?_, (l.fresh a z).2⟩
        cases q : H a with
        | none => rfl
        | some u =>
          have q2 := L.lay.new.keep a u q
          rw [(l.fresh a z).1] at q2
          cases q2
  · have o1 := owl_move (H' := upd H' d (.lst (acc ++ [y]))) (Same.refl _) M.own fun a ha => upd_ne fun z => nd.1 (by rw [← z]; exact ha)
    have o2 := ow_move (H' := upd H' d (.lst (acc ++ [y]))) (Same.refl _) o fun a ha => upd_ne fun z => dFe (by rw [← z]; exact ha)
    have o3 := owl_app o1 (.cons o2 .nil)
    rw [List.append_nil] at o3
    exact o3
theorem sndt_yes : SndT K vs0 W tYes bYes := fun σ G H ρ F Q S p => p G H (New.refl S.same)
theorem lc_ok {body : D → Res (List D)} {ds : List D} {i : Nat} {d : D} {rest : List D} (hd : ds[i]? = some d) (h : lcGo body (ds.drop i) = .ok rest) :
    ∃ r rs, body d = .ok r ∧ lcGo body (ds.drop (i + 1)) = .ok rs ∧ rest = r ++ rs := by
  have hi : i < ds.length := (List.getElem?_eq_some_iff.mp hd).1
  have e : ds.drop i = d :: ds.drop (i + 1) := by
    rw [List.drop_eq_getElem_cons hi]
    rw [List.getElem?_eq_getElem hi] at hd
    rw [Option.some.inj hd]
  rw [e] at h
  have h' : ((body d).bind fun r => (lcGo body (ds.drop (i + 1))).bind fun rs => Res.ok (r ++ rs)) = .ok rest := h
  cases hb : body d with
  | bad => rw [hb] at h'; cases h'
  | exc c => rw [hb] at h'; cases h'
  | ok r =>
    rw [hb] at h'
    have h2 : ((lcGo body (ds.drop (i + 1))).bind fun rs => Res.ok (r ++ rs)) = .ok rest := h'
    cases hc : lcGo body (ds.drop (i + 1)) with
    | bad => rw [hc] at h2; cases h2
    | exc c => rw [hc] at h2; cases h2
    | ok rs =>
      rw [hc] at h2
      have h3 : Res.ok (r ++ rs) = Res.ok rest := h2
      injection h3 with h4
      exact ⟨r, rs, rfl, rfl, h4.symm⟩
theorem bind_ok {α β : Type} {r : Res α} {f : α → Res β} {b : β} (h : r.bind f = .ok b) : ∃ a, r = .ok a ∧ f a = .ok b := by
  cases r with
  | bad => cases h
  | exc c => cases h
  | ok a => exact ⟨a, rfl, h⟩
theorem noExc_ok {α : Type} {r : Res α} {a : α} (h : noExc r = .ok a) : r = .ok a := by
  cases r with
  | exc c => cases h
  | _ => exact h
/-- one turn of a comprehension, the element told -/
theorem lc_turn {bb : Bool} {g : TG} {pat : PF} {is vs : List Nat} {tt : TT} {ftt : BF} {te : TE} {elt : EF} (hg : SndG K vs0 g pat is) (hi : ∀ i ∈ is, i ∈ vs) (ht : SndT K vs0 W0 tt ftt) (he : SndE K vs0 W0 bb te elt)
    {d : Addr} {Ga Ha Gi Hi : Hp} {acc : List V} {accD : List D} {Fa : List Addr} (L : LcI K bb Ga Ha d Gi Hi acc accD Fa) (S : Sts K vs0 Gi Hi σ ρ F) {x : V} {z : D} (rx : Rp K Gi x z) {r : List D} (hr : lcTurn pat ftt elt (wipeR ρ vs) z = .ok r) (hb : (accD ++ r).length ≤ big)
    {Nx : Hp → Prop} (hn : ∀ G' H' acc' F', LcI K bb Ga Ha d G' H' acc' (accD ++ r) F' → But d Gi Hi G' H' → Nx H') :
    g x (L2.wipe σ vs) Hi fun σ2 H2 => L2.wipe σ2 vs = L2.wipe σ vs ∧ tt σ2 H2 fun b H3 => if b = true then te σ2 H3 fun y H4 => ∃ acc, H4 d = some (.lst acc) ∧ acc.length < sizeLine ∧ Nx (upd H4 d (.lst (acc ++ [y]))) else Nx H3 := by
  obtain ⟨Fw, Sw, _⟩ := S.wipe vs
  obtain ⟨ρ1, h1, h2⟩ := bind_ok hr
  obtain ⟨b, h3, h4⟩ := bind_ok h2
  refine hg x z _ Gi Hi _ Fw _ Sw rx ?_
  rw [h1]
  intro σ2 F2 S2 s2 l2 e2
  refine ⟨wipe_same hi (by rw [l2, wipe_length]) e2, ht σ2 Gi Hi ρ1 F2 _ S2 ?_⟩
  rw [h3]
  intro G3 H3 n3
  cases b with
  | true =>
    rw [if_pos rfl] at h4
    rw [if_pos rfl]
    obtain ⟨e, h5, h6⟩ := bind_ok h4
    injection h6 with h7
    subst h7
    refine he σ2 G3 H3 ρ1 F2 _ (S2.new n3) ?_
    rw [h5]
    intro y Fe G4 H4 l4 o4
    have L3 := L.grow n3
    have L4 := L3.grow l4.new
    refine ⟨acc, L4.here, ?_, ?_⟩
    · rw [List.length_append, List.length_singleton] at hb
      rw [owl_len L.own]
      exact big_lt (by omega)
    · exact hn _ _ _ _ (L3.app l4 o4) (But.of (n3.trans l4.new) S.same (L4.lay.fresh d List.mem_cons_self).2)
  | false =>
    rw [if_neg (by decide)] at h4
    rw [if_neg (by decide)]
    injection h4 with h7
    subst h7
    have L3 := L.grow n3
    exact hn _ _ _ _ (by rw [List.append_nil]; exact L3) (But.new n3 S.same)
theorem sndo_lc {bb : Bool} {wi : TI} {it : AF} {g : TG} {pat : PF} {is vs : List Nat} {tt : TT} {ftt : BF} {te : TE} {elt : EF} (hw : SndW K vs0 W wi it) (hg : SndG K vs0 g pat is) (ht : SndT K vs0 W0 tt ftt) (he : SndE K vs0 W0 bb te elt) (hi : ∀ i ∈ is, i ∈ vs) :
    SndO K vs0 W bb (tLc wi g tt te vs) (eLc it pat ftt elt vs) := fun σ G H ρ F Q S p =>
  hw σ G H ρ F _ S (p.bind.imp (fun ds q J G1 H1 n1 I D hD => by
    have q1 := q.bind
    cases hT : noExc (lcGo (lcTurn pat ftt elt (wipeR ρ vs)) ds) with
    | bad => rw [hT] at q1; exact q1.elim
    | exc c => cases hh : lcGo (lcTurn pat ftt elt (wipeR ρ vs)) ds <;> rw [hh] at hT <;> cases hT
    | ok T =>
      rw [hT] at q1
      obtain ⟨hz, q2⟩ := pof (show Post (if T.length ≤ big then Res.ok (PyData.list T) else .bad) _ _ from q1)
      have hgo := noExc_ok hT
      refine ⟨fun i m Hi => m = ds.length - i ∧ i ≤ ds.length ∧ ∃ Gi Fi acc accD rest, LcI K bb G1 H1 D Gi Hi acc accD Fi ∧ lcGo (lcTurn pat ftt elt (wipeR ρ vs)) (ds.drop i) = .ok rest ∧ accD ++ rest = T,
        ⟨ds.length, by simp, Nat.zero_le _, G1, [], [], [], T, LcI.start n1.inn hD, hgo, rfl⟩, ?_⟩
      rintro i m Hi ⟨rfl, hle, Gi, Fi, acc, accD, rest, L, hrest, hT2⟩
      by_cases hlt : i < ds.length
      · refine .inr ⟨I.goes i Hi Gi hlt (L.lay.new.same n1.inn) L.lay.new.inn, fun H' => ∃ Gi Fi acc accD rest, LcI K bb G1 H1 D Gi H' acc accD Fi ∧ lcGo (lcTurn pat ftt elt (wipeR ρ vs)) (ds.drop (i + 1)) = .ok rest ∧ accD ++ rest = T,
          fun H' h => ⟨ds.length - (i + 1), by omega, rfl, hlt, h⟩, fun x H' y => ?_⟩
        obtain ⟨d, G2, e1, n2, rx⟩ := I.yields i Hi Gi x H' hlt (L.lay.new.same n1.inn) L.lay.new.inn y
        obtain ⟨r, rs, hb, hrs, er⟩ := lc_ok e1 hrest
        have S2 := ((S.new n1).new L.lay.new).new n2
        refine lc_turn (ρ := ρ) (F := F) hg hi ht he (L.grow n2) S2 rx hb ?_ fun G' H'' acc' F' L' _ => ⟨G', F', acc', accD ++ r, rs, L', hrs, by rw [List.append_assoc, ← er]; exact hT2⟩
        rw [← hT2, er, ← List.append_assoc, List.length_append] at hz
        omega
      · have e : i = ds.length := by omega
        subst e
        refine .inl ⟨I.stops Hi Gi (L.lay.new.same n1.inn) L.lay.new.inn, ?_⟩
        rw [List.drop_length] at hrest
        injection hrest with hr
        subst hr
        rw [List.append_nil] at hT2
        subst hT2
        exact q2 _ (D :: Fi) Gi Hi (Lay.trans (F1 := []) (fun a h => by cases h) (.pure n1) L.lay) (.node L.here L.own)) fun c q => q)
end
end Fw

set_option Elab.async false
set_option linter.all false
set_option maxRecDepth 100000
set_option maxHeartbeats 4000000
namespace Fw
open PySem PySem.Spec PyProof.Rows L2
section
variable {K : KW} {vs0 : List V} {W : WN} {G H G' H' G1 H1 : Hp} {σ : L2.St} {ρ : Rho} {F : List Addr}
theorem sndo_lc2 {bb : Bool} {wi wi1 : TI} {it it1 : AF} {g g1 : TG} {pat pat1 : PF} {is is1 vs vs1 : List Nat} {tt tt1 : TT} {ftt ftt1 : BF} {te : TE} {elt : EF} (hw : SndW K vs0 W wi it) (hg : SndG K vs0 g pat is) (ht : SndT K vs0 W0 tt ftt)
    (hw1 : SndW K vs0 W0 wi1 it1) (hg1 : SndG K vs0 g1 pat1 is1) (ht1 : SndT K vs0 W0 tt1 ftt1) (he : SndE K vs0 W0 bb te elt) (hi : ∀ i ∈ is, i ∈ vs) (hi1 : ∀ i ∈ is1, i ∈ vs1) :
    SndO K vs0 W bb (tLc2 wi g tt wi1 g1 tt1 te vs vs1) (eLc2 it pat ftt it1 pat1 ftt1 elt vs vs1) := fun σ G H ρ F Q S p =>
  hw σ G H ρ F _ S (p.bind.imp (fun ds q J G1 H1 n1 I D hD => by
    have q1 := q.bind
    cases hT : noExc (lcGo (lcTurn2 pat ftt it1 pat1 ftt1 elt vs1 (wipeR ρ vs)) ds) with
    | bad => rw [hT] at q1; exact q1.elim
    | exc c => cases hh : lcGo (lcTurn2 pat ftt it1 pat1 ftt1 elt vs1 (wipeR ρ vs)) ds <;> rw [hh] at hT <;> cases hT
    | ok T =>
      rw [hT] at q1
      obtain ⟨hz, q2⟩ := pof (show Post (if T.length ≤ big then Res.ok (PyData.list T) else .bad) _ _ from q1)
      have hgo := noExc_ok hT
      refine ⟨fun i m Hi => m = ds.length - i ∧ i ≤ ds.length ∧ ∃ Gi Fi acc accD rest, LcI K bb G1 H1 D Gi Hi acc accD Fi ∧ lcGo (lcTurn2 pat ftt it1 pat1 ftt1 elt vs1 (wipeR ρ vs)) (ds.drop i) = .ok rest ∧ accD ++ rest = T,
        ⟨ds.length, by simp, Nat.zero_le _, G1, [], [], [], T, LcI.start n1.inn hD, hgo, rfl⟩, ?_⟩
      rintro i m Hi ⟨rfl, hle, Gi, Fi, acc, accD, rest, L, hrest, hT2⟩
      by_cases hlt : i < ds.length
      · refine .inr ⟨I.goes i Hi Gi hlt (L.lay.new.same n1.inn) L.lay.new.inn, fun H' => ∃ Gi Fi acc accD rest, LcI K bb G1 H1 D Gi H' acc accD Fi ∧ lcGo (lcTurn2 pat ftt it1 pat1 ftt1 elt vs1 (wipeR ρ vs)) (ds.drop (i + 1)) = .ok rest ∧ accD ++ rest = T,
          fun H' h => ⟨ds.length - (i + 1), by omega, rfl, hlt, h⟩, fun x H' y => ?_⟩
        obtain ⟨d, G2, e1, n2, rx⟩ := I.yields i Hi Gi x H' hlt (L.lay.new.same n1.inn) L.lay.new.inn y
        obtain ⟨r, rs, hb, hrs, er⟩ := lc_ok e1 hrest
        have S2 := ((S.new n1).new L.lay.new).new n2
        have L2' := L.grow n2
        have hlen : (accD ++ r).length ≤ big := by
          rw [← hT2, er, ← List.append_assoc, List.length_append] at hz
          omega
        obtain ⟨Fw, Sw, sw⟩ := S2.wipe vs
        obtain ⟨ρ1, h1, h2⟩ := bind_ok hb
        obtain ⟨b, h3, h4⟩ := bind_ok h2
        refine hg x d _ G2 H' _ Fw _ Sw rx ?_
        rw [h1]
        intro σ2 F2 S3 s2 l2 e2
        refine ⟨wipe_same hi (by rw [l2, wipe_length]) e2, ht σ2 G2 H' ρ1 F2 _ S3 ?_⟩
        rw [h3]
        intro G3 H3 n3
        have L3 := L2'.grow n3
        have S4 := S3.new n3
        cases b with
        | false =>
          rw [if_neg (by decide)] at h4
          rw [if_neg (by decide)]
          injection h4 with h7
          subst h7
          exact ⟨G3, Fi, acc, accD, rs, L3, hrs, by rw [← hT2, er, List.nil_append]⟩
        | true =>
          rw [if_pos rfl] at h4
          rw [if_pos rfl]
          obtain ⟨es, h5, h6⟩ := bind_ok h4
          refine hw1 σ2 G3 H3 ρ1 F2 _ S4 ?_
          rw [h5]
          intro J1 G4 H4 n4 I1
          have L4 := L3.grow n4
          have S5 := S4.new n4
          refine ⟨fun j m Hj => m = es.length - j ∧ j ≤ es.length ∧ ∃ Gj Fj acc' accD' rest', LcI K bb G1 H1 D Gj Hj acc' accD' Fj ∧ Same G4 Gj ∧ Sts K vs0 Gj Hj σ2 ρ1 F2 ∧ lcGo (lcTurn pat1 ftt1 elt (wipeR ρ1 vs1)) (es.drop j) = .ok rest' ∧ accD' ++ rest' = accD ++ r,
            ⟨es.length, by simp, Nat.zero_le _, G4, Fi, acc, accD, r, L4, Same.refl _, S5, h6, rfl⟩, ?_⟩
          rintro j m Hj ⟨rfl, hlej, Gj, Fj, acc', accD', rest', Lj, sj, Sj, hrestj, hTj⟩
          by_cases hltj : j < es.length
          · refine .inr ⟨I1.goes j Hj Gj hltj sj Lj.lay.new.inn, fun H' => ∃ Gj Fj acc' accD' rest', LcI K bb G1 H1 D Gj H' acc' accD' Fj ∧ Same G4 Gj ∧ Sts K vs0 Gj H' σ2 ρ1 F2 ∧ lcGo (lcTurn pat1 ftt1 elt (wipeR ρ1 vs1)) (es.drop (j + 1)) = .ok rest' ∧ accD' ++ rest' = accD ++ r,
              fun H' h => ⟨es.length - (j + 1), by omega, rfl, hltj, h⟩, fun x1 H5 y1 => ?_⟩
            obtain ⟨d1, G5, e5, n5, rx1⟩ := I1.yields j Hj Gj x1 H5 hltj sj Lj.lay.new.inn y1
            obtain ⟨r1, rs1, hb1, hrs1, er1⟩ := lc_ok e5 hrestj
            have hlen1 : (accD' ++ r1).length ≤ big := by
              rw [← hTj, er1, ← List.append_assoc, List.length_append] at hlen
              omega
            have S6 := Sj.new n5
            refine lc_turn (ρ := ρ1) (F := F2) hg1 hi1 ht1 he (Lj.grow n5) S6 rx1 hb1 hlen1 fun G' H'' acc'' F' L' bt => ?_
            have dF2 : D ∉ F2 := fun z => by
              obtain ⟨xs, e⟩ := (S.new n1).rel.foot D (sw.subset (s2.subset z))
              rw [hD] at e
              cases e
            exact ⟨G', F', acc'', accD' ++ r1, rs1, L', (sj.trans (n5.same Lj.lay.new.inn)).trans bt.same, S6.but bt dF2, hrs1, by rw [List.append_assoc, ← er1]; exact hTj⟩
          · have e : j = es.length := by omega
            subst e
            refine .inl ⟨I1.stops Hj Gj sj Lj.lay.new.inn, ?_⟩
            rw [List.drop_length] at hrestj
            injection hrestj with hr
            subst hr
            rw [List.append_nil] at hTj
            exact ⟨Gj, Fj, acc', accD', rs, Lj, hrs, by rw [hTj, List.append_assoc, ← er]; exact hT2⟩
      · have e : i = ds.length := by omega
        subst e
        refine .inl ⟨I.stops Hi Gi (L.lay.new.same n1.inn) L.lay.new.inn, ?_⟩
        rw [List.drop_length] at hrest
        injection hrest with hr
        subst hr
        rw [List.append_nil] at hT2
        subst hT2
        exact q2 _ (D :: Fi) Gi Hi (Lay.trans (F1 := []) (fun a h => by cases h) (.pure n1) L.lay) (.node L.here L.own)) fun c q => q)
end
end Fw

set_option Elab.async false
set_option linter.all false
set_option maxRecDepth 100000
set_option maxHeartbeats 4000000
namespace Fw
open PySem PySem.Spec PyProof.Rows L2

/-! ### statements -/
inductive Out where
  | bad
  | nx (ρ : Rho)
  | ret (s : Sl) (ρ : Rho)
  | brk (ρ : Rho)
  | ct (ρ : Rho)
  | exc (c : Nat) (ρ : Rho)
abbrev SF := Rho → Out
def rOut {α : Type} (r : Res α) (ρ : Rho) (k : α → Out) : Out := match r with
  | .bad => .bad
  | .ok a => k a
  | .exc c => .exc c ρ
def PostS (K : KW) (vs0 : List V) (W : WN) (Dn : Ends) (F : List Addr) (G H : Hp) (o : Out) : Prop := match o with
  | .bad => False
  | .nx ρ => ∀ σ' G' H' F', Sts K vs0 G' H' σ' ρ F' → Adv F G H F' G' H' → Dn.nx σ' H'
  | .ret s ρ => ∀ v σ' G' H' F', Sts K vs0 G' H' (some v :: σ') (s :: ρ) F' → Adv F G H F' G' H' → Dn.rt v H'
  | .brk ρ => ∀ σ' G' H' F', Sts K vs0 G' H' σ' ρ F' → Adv F G H F' G' H' → Dn.bk σ' H'
  | .ct ρ => ∀ σ' G' H' F', Sts K vs0 G' H' σ' ρ F' → Adv F G H F' G' H' → Dn.ct σ' H'
  | .exc c ρ => ∀ σ' G' H' F', Sts K vs0 G' H' σ' ρ F' → Adv F G H F' G' H' → W c σ' H'
def SndS (K : KW) (vs0 : List V) (W : WN) (t : TS) (f : SF) : Prop := ∀ σ G H ρ F (Dn : Ends), Sts K vs0 G H σ ρ F → PostS K vs0 W Dn F G H (f ρ) → t Dn σ H

section
variable {K : KW} {vs0 : List V} {W : WN} {G H G' H' G1 H1 : Hp} {σ : L2.St} {ρ : Rho} {F F1 : List Addr} {Dn : Ends}
theorem PostS.from {o : Out} (a : Adv F G H F1 G1 H1) (p : PostS K vs0 W Dn F G H o) : PostS K vs0 W Dn F1 G1 H1 o := by
  cases o with
  | bad => exact p
  | nx ρ => exact fun σ' G' H' F' S b => p σ' G' H' F' S (a.trans b)
  | ret s ρ => exact fun v σ' G' H' F' S b => p v σ' G' H' F' S (a.trans b)
  | brk ρ => exact fun σ' G' H' F' S b => p σ' G' H' F' S (a.trans b)
  | ct ρ => exact fun σ' G' H' F' S b => p σ' G' H' F' S (a.trans b)
  | exc c ρ => exact fun σ' G' H' F' S b => p σ' G' H' F' S (a.trans b)
theorem Adv.sub {F' : List Addr} (s : F'.Sublist F) : Adv F G H F' G H := ⟨fun _ _ h _ => h, fun _ h => .inl (s.subset h), Same.refl _, fun _ _ _ => rfl⟩
/-- an expression's outcome, at a statement -/
theorem post_out {α : Type} {r : Res α} {k : α → Out} (p : PostS K vs0 W Dn F G H (rOut r ρ k)) (S : Sts K vs0 G H σ ρ F) : Post r (fun a => PostS K vs0 W Dn F G H (k a)) (fun c => ∀ G' H', New G H G' H' → W c σ H') := by
  cases r with
  | bad => exact p
  | ok a => exact p
  | exc c => exact fun G' H' n => p σ G' H' F (S.new n) (n.adv S.same)
def sSkip : SF := fun ρ => .nx ρ
def sBrk : SF := fun ρ => .brk ρ
def sCt : SF := fun ρ => .ct ρ
theorem snds_skip : SndS K vs0 W tNext sSkip := fun σ G H ρ F Dn S p => p σ G H F S .refl
theorem snds_brk : SndS K vs0 W tBreak sBrk := fun σ G H ρ F Dn S p => p σ G H F S .refl
theorem snds_ct : SndS K vs0 W tCont sCt := fun σ G H ρ F Dn S p => p σ G H F S .refl
def sSeq (f g : SF) : SF := fun ρ => match f ρ with
  | .nx ρ' => g ρ'
  | o => o
theorem snds_seq {t u : TS} {f g : SF} (h1 : SndS K vs0 W t f) (h2 : SndS K vs0 W u g) : SndS K vs0 W (tSeq t u) (sSeq f g) := fun σ G H ρ F Dn S p => by
  refine h1 σ G H ρ F { Dn with nx := u Dn } S ?_
  unfold sSeq at p
  cases e : f ρ with
  | nx ρ1 =>
    rw [e] at p
    exact fun σ1 G1 H1 F1 S1 a => h2 σ1 G1 H1 ρ1 F1 Dn S1 (p.from a)
  | _ =>
    rw [e] at p
    exact p
def sAsg (pat : PF) (f : EF) : SF := fun ρ => rOut (f ρ) ρ fun d => match pat d ρ with
  | .ok ρ' => .nx ρ'
  | _ => .bad
theorem snds_asg {te : TE} {g : TG} {f : EF} {pat : PF} {is : List Nat} (h : Snd K vs0 W te f) (hg : SndG K vs0 g pat is) : SndS K vs0 W (tAsg te g) (sAsg pat f) := fun σ G H ρ F Dn S p =>
  h σ G H ρ F _ S ((post_out p S).imp (fun d q v G1 H1 n1 d1 => hg v d σ G1 H1 ρ F _ (S.new n1) d1 (by
    cases e : pat d ρ with
    | ok ρ' =>
      rw [e] at q
      exact fun σ' F' S' s l _ => q σ' G1 H1 F' S' ((n1.adv S.same).trans (Adv.sub s))
    | bad => rw [e] at q; exact q.elim
    | exc c => rw [e] at q; exact q.elim)) fun c q => q)
def sAsgO (b : Bool) (i : Nat) (f : EF) : SF := fun ρ => if i < ρ.length then rOut (f ρ) ρ fun d => .nx (ρ.set i (.o none b d)) else .bad
theorem lay_adv {F' A B : List Addr} (S : Sts K vs0 G H σ ρ F) (l : Lay G H F' G' H') (hs : (A ++ B).Sublist F) (hl : ∀ a ∈ F', ∃ xs : MO, H' a = some xs.o) :
    Adv F G H (A ++ (F' ++ B)) G' H' ∧ (A ++ (F' ++ B)).Nodup ∧ ∀ a ∈ A ++ (F' ++ B), G' a = none := by
  have inF : ∀ a, a ∈ A ∨ a ∈ B → a ∈ F := fun a h => hs.subset (List.mem_append.mpr h)
  have old : ∀ a, a ∈ F → H a ≠ none := fun a h => by
    obtain ⟨xs, e⟩ := S.rel.foot a h
    exact nn_of e
  refine ⟨⟨fun a o h _ => l.new.keep a o h, fun a h => ?_, l.new.same S.same, fun a h _ => l.new.quiet a h⟩, ?_, fun a h => ?_⟩
  · rcases List.mem_append.mp h with z | z
    · exact .inl (inF a (.inl z))
    · rcases List.mem_append.mp z with z | z
      · exact .inr (l.fresh a z).1
      · exact .inl (inF a (.inr z))
  · have nd := hs.nodup S.nd
    have nd' := List.nodup_append.mp nd
    refine List.nodup_append.mpr ⟨nd'.1, List.nodup_append.mpr ⟨l.nd, nd'.2.1, fun a ha b hb z => ?_⟩, fun a ha b hb z => ?_⟩
    · subst z
      exact old a (inF a (.inr hb)) (l.fresh a ha).1
    · subst z
      rcases List.mem_append.mp hb with q | q
      · exact old a (inF a (.inl ha)) (l.fresh a q).1
      · exact nd'.2.2 a ha a q rfl
  · have hold : ∀ a, a ∈ F → G' a = none := fun a h => by
      rw [l.new.quiet a (old a h)]
      exact S.out a h
    rcases List.mem_append.mp h with z | z
    · exact hold a (inF a (.inl z))
    · rcases List.mem_append.mp z with z | z
      · exact (l.fresh a z).2
      · exact hold a (inF a (.inr z))
theorem snds_asgO {b : Bool} {te : TE} {i : Nat} {f : EF} (h : SndO K vs0 W b te f) : SndS K vs0 W (tAsg te (gName i)) (sAsgO b i f) := fun σ G H ρ F Dn S p => by
  unfold sAsgO at p
  split at p
  · rename_i hi
    refine h σ G H ρ F _ S ((post_out p S).imp (fun d q v F1 G1 H1 l1 d1 => ?_) fun c q => q)
    obtain ⟨A, B, t, hs⟩ := (S.new l1.new).rel.setO i d1 hi
    obtain ⟨a, nd, out⟩ := lay_adv S l1 hs (ow_lst (on_ow d1))
    exact q _ G1 H1 _ ⟨l1.new.inn, t, nd, out⟩ a
  · exact p.elim
def sDrop (f : EF) : SF := fun ρ => rOut (f ρ) ρ fun _ => .nx ρ
theorem snds_drop {te : TE} {f : EF} (h : Snd K vs0 W te f) : SndS K vs0 W (tDrop te) (sDrop f) := fun σ G H ρ F Dn S p =>
  h σ G H ρ F _ S ((post_out p S).imp (fun d q v G1 H1 n1 d1 => q σ G1 H1 F (S.new n1) (n1.adv S.same)) fun c q => q)
def sRet (f : EF) : SF := fun ρ => rOut (f ρ) ρ fun d => .ret (.p d) ρ
theorem snds_ret {te : TE} {f : EF} (h : Snd K vs0 W te f) : SndS K vs0 W (tRet te) (sRet f) := fun σ G H ρ F Dn S p =>
  h σ G H ρ F _ S ((post_out p S).imp (fun d q v G1 H1 n1 d1 => by
    have S1 := S.new n1
    exact q v σ G1 H1 F ⟨S1.same, .p d1 S1.rel, S1.nd, S1.out⟩ (n1.adv S.same)) fun c q => q)
def sRetO (b : Bool) (f : EF) : SF := fun ρ => rOut (f ρ) ρ fun d => .ret (.o none b d) ρ
theorem snds_retO {b : Bool} {te : TE} {f : EF} (h : SndO K vs0 W b te f) : SndS K vs0 W (tRet te) (sRetO b f) := fun σ G H ρ F Dn S p =>
  h σ G H ρ F _ S ((post_out p S).imp (fun d q v F1 G1 H1 l1 d1 => by
    have S1 := S.new l1.new
    obtain ⟨a, nd, out⟩ := lay_adv (A := []) S l1 (List.Sublist.refl _) (ow_lst (on_ow d1))
    exact q v σ G1 H1 _ ⟨S1.same, .o d1 (fun _ z => by cases z) S1.rel, nd, out⟩ a) fun c q => q)
/-- a list of one's own that is given back -/
def sRetV (i : Nat) : SF := fun ρ => match ρ[i]? with
  | some (.o none b d) => .ret (.o none b d) (ρ.set i .no)
  | _ => .bad
theorem Slr.omove : ∀ {σ : L2.St} {ρ : Rho} {F : List Addr} {i : Nat} {b : Bool} {d : D}, Slr K vs0 G H σ ρ F → ρ[i]? = some (.o none b d) →
    ∃ v A F1 B, F = A ++ (F1 ++ B) ∧ σ[i]? = some (some v) ∧ On K b G H F1 v d ∧ Slr K vs0 G H σ (ρ.set i .no) (A ++ B)
  | _, _, _, _, _, _, .nil, e => by simp at e
  | _, _, _, 0, _, _, .no t, e => by simp at e
  | _, _, _, 0, _, _, .p h t, e => by
    have e' := Option.some.inj e
    cases e'
  | _, _, _, 0, _, _, .o h r t, e => by
    have e' := Option.some.inj e
    cases e'
    exact ⟨_, [], _, _, rfl, rfl, h, .no t⟩
  | _, _, _, i + 1, _, _, .no t, e => by
    obtain ⟨v, A, F1, B, eF, es, h, k⟩ := Slr.omove (i := i) t e
    exact ⟨v, A, F1, B, eF, es, h, .no k⟩
  | _, _, _, i + 1, _, _, .p h0 t, e => by
    obtain ⟨v, A, F1, B, eF, es, h, k⟩ := Slr.omove (i := i) t e
    exact ⟨v, A, F1, B, eF, es, h, .p h0 k⟩
  | _, _, _, i + 1, _, _, .o (F1 := C) h0 r0 t, e => by
    obtain ⟨v, A, F1, B, eF, es, h, k⟩ := Slr.omove (i := i) t e
    refine ⟨v, C ++ A, F1, B, by rw [eF, List.append_assoc], es, h, ?_⟩
    rw [List.append_assoc]
    exact .o h0 r0 k
theorem nodup_mid {A B C : List Addr} (h : (A ++ (B ++ C)).Nodup) : (B ++ (A ++ C)).Nodup := by
  have p : (A ++ (B ++ C)).Perm (B ++ (A ++ C)) := by
    rw [← List.append_assoc, ← List.append_assoc]
    exact List.perm_append_comm.append_right C
  exact p.nodup_iff.mp h
theorem snds_retV {i : Nat} : SndS K vs0 W (tRet (tVar i)) (sRetV i) := fun σ G H ρ F Dn S p => by
  unfold sRetV at p
  split at p
  · rename_i b d e
    obtain ⟨v, A, F1, B, eF, es, h, k⟩ := S.rel.omove e
    refine ⟨v, es, p v σ G H (F1 ++ (A ++ B)) ⟨S.same, .o h (fun _ z => by cases z) k, nodup_mid (by rw [← eF]; exact S.nd), fun a ha => S.out a ?_⟩ ⟨fun _ _ h _ => h, fun a ha => .inl ?_, Same.refl _, fun _ _ _ => rfl⟩⟩
    · rw [eF]
      simp only [List.mem_append] at ha ⊢
      rcases ha with z | z | z
      · exact .inr (.inl z)
      · exact .inl z
      · exact .inr (.inr z)
    · rw [eF]
      simp only [List.mem_append] at ha ⊢
      rcases ha with z | z | z
      · exact .inr (.inl z)
      · exact .inl z
      · exact .inr (.inr z)
  · exact p.elim
def sRetN : SF := fun ρ => .ret (.p .none) ρ
theorem snds_retN : SndS K vs0 W tRetN sRetN := fun σ G H ρ F Dn S p => p .non σ G H F ⟨S.same, .p .non S.rel, S.nd, S.out⟩ .refl
def sIf (c : BF) (f g : SF) : SF := fun ρ => rOut (c ρ) ρ fun b => if b = true then f ρ else g ρ
theorem snds_if {c : TT} {t u : TS} {fc : BF} {f g : SF} (hc : SndT K vs0 W c fc) (h1 : SndS K vs0 W t f) (h2 : SndS K vs0 W u g) : SndS K vs0 W (tIfS c t u) (sIf fc f g) := fun σ G H ρ F Dn S p =>
  hc σ G H ρ F _ S ((post_out p S).imp (fun b q G1 H1 n => by
    cases b with
    | true =>
      rw [if_pos rfl] at q
      rw [if_pos rfl]
      exact h1 σ G1 H1 ρ F Dn (S.new n) (q.from (n.adv S.same))
    | false =>
      rw [if_neg (by decide)] at q
      rw [if_neg (by decide)]
      exact h2 σ G1 H1 ρ F Dn (S.new n) (q.from (n.adv S.same))) fun c q => q)
/-- a loop's turn, and what follows it -/
def loopOut (o : Out) (k : SF) : Out := match o with
  | .nx ρ => k ρ
  | .ct ρ => k ρ
  | .brk ρ => .nx ρ
  | .bad => .bad
  | .ret s ρ => .ret s ρ
  | .exc c ρ => .exc c ρ
theorem post_loop {o : Out} {k : SF} {Nn : L2.St → Hp → Prop} (p : PostS K vs0 W Dn F G H (loopOut o k))
    (hN : ∀ ρ', PostS K vs0 W Dn F G H (k ρ') → ∀ σ' G' H' F', Sts K vs0 G' H' σ' ρ' F' → Adv F G H F' G' H' → Nn σ' H') : PostS K vs0 W { Dn with nx := Nn, ct := Nn, bk := Dn.nx } F G H o := by
  cases o with
  | nx ρ => exact hN ρ p
  | ct ρ => exact hN ρ p
  | _ => exact p
def patOut (r : Res Rho) (k : SF) : Out := match r with
  | .ok ρ => k ρ
  | _ => .bad
/-- for -/
def forGo (pat : PF) (body : SF) : List D → SF
  | [], ρ => .nx ρ
  | d :: ds, ρ => patOut (pat d ρ) fun ρ1 => loopOut (body ρ1) (forGo pat body ds)
def sFor (it : AF) (pat : PF) (body : SF) : SF := fun ρ => rOut (it ρ) ρ fun ds => forGo pat body ds ρ
theorem drop_at {α : Type} {l : List α} {i : Nat} {d : α} (h : l[i]? = some d) : l.drop i = d :: l.drop (i + 1) := by
  have hi : i < l.length := (List.getElem?_eq_some_iff.mp h).1
  rw [List.drop_eq_getElem_cons hi]
  rw [List.getElem?_eq_getElem hi] at h
  rw [Option.some.inj h]
theorem snds_for {wi : TI} {it : AF} {g : TG} {pat : PF} {is : List Nat} {tb : TS} {fb : SF} (hw : SndW K vs0 W wi it) (hg : SndG K vs0 g pat is) (hb : SndS K vs0 W tb fb) : SndS K vs0 W (tFor wi g tb) (sFor it pat fb) := fun σ G H ρ F Dn S p =>
  hw σ G H ρ F _ S ((post_out p S).imp (fun ds q J G1 H1 n1 I => by
    refine ⟨fun i m σ' H' => m = ds.length - i ∧ i ≤ ds.length ∧ ∃ Gi Fi ρi, Sts K vs0 Gi H' σ' ρi Fi ∧ Adv F G1 H1 Fi Gi H' ∧ PostS K vs0 W Dn F G1 H1 (forGo pat fb (ds.drop i) ρi),
      ⟨ds.length, by simp, Nat.zero_le _, G1, F, ρ, S.new n1, .refl, q.from (n1.adv S.same)⟩, ?_⟩
    rintro i m σ' H' ⟨rfl, hle, Gi, Fi, ρi, Si, ai, pi⟩
    have si := ai.same
    by_cases hlt : i < ds.length
    · refine .inr ⟨I.goes i H' Gi hlt si Si.same, fun σ'' H'' => ∃ Gi Fi ρi, Sts K vs0 Gi H'' σ'' ρi Fi ∧ Adv F G1 H1 Fi Gi H'' ∧ PostS K vs0 W Dn F G1 H1 (forGo pat fb (ds.drop (i + 1)) ρi), fun σ'' H'' h => ⟨ds.length - (i + 1), by omega, rfl, hlt, h⟩, fun x H2 y => ?_⟩
      obtain ⟨d, G2, e1, n2, rx⟩ := I.yields i H' Gi x H2 hlt si Si.same y
      rw [drop_at e1] at pi
      have S2 := Si.new n2
      refine hg x d σ' G2 H2 ρi Fi _ S2 rx ?_
      have pi : PostS K vs0 W Dn F G1 H1 (patOut (pat d ρi) fun ρ1 => loopOut (fb ρ1) (forGo pat fb (ds.drop (i + 1)))) := pi
      cases e2 : pat d ρi with
      | bad => rw [e2] at pi; exact pi.elim
      | exc c => rw [e2] at pi; exact pi.elim
      | ok ρ1 =>
        rw [e2] at pi
        intro σ3 F3 S3 s3 _ _
        have a3 : Adv F G1 H1 F3 G2 H2 := (ai.trans (n2.adv Si.same)).trans (Adv.sub s3)
        exact hb σ3 G2 H2 ρ1 F3 _ S3 ((post_loop pi fun ρ2 p2 σ4 G4 H4 F4 S4 a4 => ⟨G4, F4, ρ2, S4, a4, p2⟩).from a3)
    · have e : i = ds.length := by omega
      subst e
      rw [List.drop_length] at pi
      exact .inl ⟨I.stops H' Gi si Si.same, pi σ' Gi H' Fi Si ai⟩) fun c q => q)
/-- while, by fuel -/
def whGo (c : BF) (body : SF) : Nat → SF
  | 0, _ => .bad
  | n + 1, ρ => rOut (c ρ) ρ fun b => if b = true then loopOut (body ρ) (whGo c body n) else .nx ρ
def sWhile (fuel : Nat) (c : BF) (body : SF) : SF := fun ρ => whGo c body fuel ρ
theorem snds_while {fuel : Nat} {c : TT} {fc : BF} {tb : TS} {fb : SF} (hc : SndT K vs0 W c fc) (hb : SndS K vs0 W tb fb) : SndS K vs0 W (tWhile c tb) (sWhile fuel fc fb) := fun σ G H ρ F Dn S p => by
  refine ⟨fun m σ' H' => ∃ Gi Fi ρi, Sts K vs0 Gi H' σ' ρi Fi ∧ Adv F G H Fi Gi H' ∧ PostS K vs0 W Dn F G H (whGo fc fb m ρi), ⟨fuel, G, F, ρ, S, .refl, p⟩, ?_⟩
  rintro m σ' H' ⟨Gi, Fi, ρi, Si, ai, pi⟩
  cases m with
  | zero => exact pi.elim
  | succ m =>
    have pi : PostS K vs0 W Dn F G H (rOut (fc ρi) ρi fun b => if b = true then loopOut (fb ρi) (whGo fc fb m) else .nx ρi) := pi
    refine hc σ' Gi H' ρi Fi _ Si ?_
    cases e : fc ρi with
    | bad => rw [e] at pi; exact pi.elim
    | exc c =>
      rw [e] at pi
      exact fun G' H'' n => pi σ' G' H'' Fi (Si.new n) (ai.trans (n.adv Si.same))
    | ok b =>
      rw [e] at pi
      intro G1 H1 n
      have a1 := ai.trans (n.adv (F := Fi) Si.same)
      have pi : PostS K vs0 W Dn F G H (if b = true then loopOut (fb ρi) (whGo fc fb m) else .nx ρi) := pi
      cases b with
      | false =>
        rw [if_neg (by decide)] at pi
        rw [if_neg (by decide)]
        exact pi σ' G1 H1 Fi (Si.new n) a1
      | true =>
        rw [if_pos rfl] at pi
        rw [if_pos rfl]
        exact ⟨fun σ'' H'' => ∃ Gj Fj ρj, Sts K vs0 Gj H'' σ'' ρj Fj ∧ Adv F G H Fj Gj H'' ∧ PostS K vs0 W Dn F G H (whGo fc fb m ρj), fun σ'' H'' h => ⟨m, Nat.lt_succ_self _, h⟩,
          hb σ' G1 H1 ρi Fi _ (Si.new n) ((post_loop pi fun ρ2 p2 σ4 G4 H4 F4 S4 a4 => ⟨G4, F4, ρ2, S4, a4, p2⟩).from a1)⟩
end
end Fw

set_option Elab.async false
set_option linter.all false
set_option maxRecDepth 100000
set_option maxHeartbeats 4000000
namespace Fw
open PySem PySem.Spec PyProof.Rows L2
section
variable {K : KW} {vs0 : List V} {W : WN} {G H G' H' G1 H1 : Hp} {σ : L2.St} {ρ : Rho} {F F1 : List Addr} {Dn : Ends}
/-! ### places within what is one's own -/
theorem ow_on {v : V} {d : D} (h : Ow K true G H F v d) : On K true G H F v d := by
  cases h with
  | leaf r c => exact .val r (by cases d <;> first | rfl | (have := c rfl; simp [noList] at this)) c
  | node hp hl => exact .node hp hl
  | dic hp r c => exact .dic hp r c
theorem owl_split {b : Bool} : ∀ {F : List Addr} {vs : List V} {ds : List D} {j : Nat} {dj : D}, OwL K b G H F vs ds → ds[j]? = some dj → ∃ vj A B C, F = A ++ (B ++ C) ∧ vs[j]? = some vj ∧ Ow K b G H B vj dj ∧
    ∀ {G' H' : Hp} {B' : List Addr} {d' : D}, Same G G' → (∀ a ∈ A ++ C, H' a = H a) → Ow K b G' H' B' vj d' → OwL K b G' H' (A ++ (B' ++ C)) vs (ds.set j d')
  | _, _, _, _, _, .nil, e => by simp at e
  | _, _, _, 0, _, .cons h t, e => by
    have e' := Option.some.inj e
    subst e'
    exact ⟨_, [], _, _, rfl, rfl, h, fun {G' H' B' d'} s k o => (OwL.cons o (owl_move s t fun a ha => k a ha) : OwL K b G' H' (B' ++ _) _ _)⟩
  | _, _, _, j + 1, _, .cons (F1 := P) h t, e => by
    obtain ⟨vj, A, B, C, eF, ev, o, k⟩ := owl_split (j := j) t e
    refine ⟨vj, P ++ A, B, C, by rw [eF, List.append_assoc], ev, o, fun s k2 o2 => ?_⟩
    rw [List.append_assoc]
    refine .cons (ow_move s h fun a ha => k2 a ?_) (k s (fun a ha => k2 a ?_) o2)
    · simp [ha]
    · rcases List.mem_append.mp ha with z | z <;> simp [z]
/-- v1, d1 (at F1) is a part of what is one's own (F); another content there makes the slots up .. -/
structure At (K : KW) (vs0 : List V) (G H : Hp) (σ : L2.St) (F : List Addr) (b : Bool) (up : D → Rho) (F1 : List Addr) (v1 : V) (d1 : D) : Prop where
  own : On K b G H F1 v1 d1
  nd : F1.Nodup
  sub : ∀ a ∈ F1, a ∈ F
  back : ∀ {G' H' : Hp} {F1' : List Addr} {d1' : D}, Same G G' → (∀ a ∈ F, a ∉ F1 → H' a = H a) → On K b G' H' F1' v1 d1' →
    ∃ F', Slr K vs0 G' H' σ (up d1') F' ∧ (∀ a, a ∈ F' ↔ (a ∈ F ∧ a ∉ F1) ∨ a ∈ F1') ∧ (F1'.Nodup → (∀ a ∈ F1', a ∈ F → a ∈ F1) → F'.Nodup)
theorem on_lst {b : Bool} {v : V} {d : D} (h : On K b G H F v d) : ∀ a ∈ F, ∃ xs : MO, H a = some xs.o := ow_lst (on_ow h)
theorem At.new {b : Bool} {up : D → Rho} {v1 : V} {d1 : D} (A : At K vs0 G H σ F b up F1 v1 d1) (s : Same G H) (hF : ∀ a ∈ F, ∃ xs : MO, H a = some xs.o) (n : New G H G' H') : At K vs0 G' H' σ F b up F1 v1 d1 where
  own := on_move (n.same s) A.own fun a ha => by
    obtain ⟨xs, e⟩ := on_lst A.own a ha
    rw [e]
    exact n.keep a _ e
  nd := A.nd
  sub := A.sub
  back := fun s2 k o => A.back ((n.same s).trans s2) (fun a ha h1 => by
    obtain ⟨xs, e⟩ := hF a ha
    rw [k a ha h1, e]
    exact n.keep a _ e) o
theorem mid_mem {A B C : List Addr} {a : Addr} : a ∈ A ++ (B ++ C) ↔ a ∈ A ∨ a ∈ B ∨ a ∈ C := by simp [List.mem_append]
theorem nodup_swap {A B C B' : List Addr} (h : (A ++ (B ++ C)).Nodup) (h' : B'.Nodup) (d : ∀ a ∈ B', a ∈ A ++ (B ++ C) → a ∈ B) : (A ++ (B' ++ C)).Nodup := by
  have n1 := List.nodup_append.mp h
  have n2 := List.nodup_append.mp n1.2.1
  refine List.nodup_append.mpr ⟨n1.1, List.nodup_append.mpr ⟨h', n2.2.1, fun a ha b hb e => ?_⟩, fun a ha b hb e => ?_⟩
  · subst e
    exact n2.2.2 a (d a ha (mid_mem.mpr (.inr (.inr hb)))) a hb rfl
  · subst e
    rcases List.mem_append.mp hb with z | z
    · exact n1.2.2 a ha a (List.mem_append_left _ (d a z (mid_mem.mpr (.inl ha)))) rfl
    · exact n1.2.2 a ha a (List.mem_append_right _ z) rfl
theorem At.var {b : Bool} {r : Option Nat} {i : Nat} {d : D} (S : Sts K vs0 G H σ ρ F) (e : ρ[i]? = some (.o r b d)) : ∃ v F1, σ[i]? = some (some v) ∧ At K vs0 G H σ F b (fun d' => ρ.set i (.o r b d')) F1 v d := by
  obtain ⟨v, A, F1, B, eF, es, o, _, k⟩ := S.rel.oget e
  subst eF
  have n1 := List.nodup_append.mp S.nd
  have n2 := List.nodup_append.mp n1.2.1
  refine ⟨v, F1, es, o, n2.1, fun a ha => mid_mem.mpr (.inr (.inl ha)), fun {G' H' F1' d1'} s k2 o2 => ⟨A ++ (F1' ++ B), k s (fun a ha => ?_) o2, fun a => ?_, fun h' d => nodup_swap S.nd h' d⟩⟩
  · rcases List.mem_append.mp ha with z | z
    · exact k2 a (mid_mem.mpr (.inl z)) fun q => n1.2.2 a z a (List.mem_append_left _ q) rfl
    · exact k2 a (mid_mem.mpr (.inr (.inr z))) fun q => n2.2.2 a q a z rfl
  · rw [mid_mem, mid_mem]
    constructor
    · rintro (z | z | z)
      · exact .inl ⟨.inl z, fun q => n1.2.2 a z a (List.mem_append_left _ q) rfl⟩
      · exact .inr z
      · exact .inl ⟨.inr (.inr z), fun q => n2.2.2 a q a z rfl⟩
    · rintro (⟨z | z | z, q⟩ | z)
      · exact .inl z
      · exact absurd z q
      · exact .inr (.inr z)
      · exact .inr (.inl z)
theorem At.item {up : D → Rho} {p : Addr} {ds : List D} {vs : List V} {FL : List Addr} {j : Nat} {dj : D} (A : At K vs0 G H σ F true up (p :: FL) (.ref p) (.list ds)) (hp : H p = some (.lst vs)) (hl : OwL K true G H FL vs ds) (e : ds[j]? = some dj) :
    ∃ vj Fj, vs[j]? = some vj ∧ At K vs0 G H σ F true (fun d' => up (.list (ds.set j d'))) Fj vj dj := by
  obtain ⟨vj, P, B, C, eF, ev, o, k⟩ := owl_split hl e
  subst eF
  have n0 := List.nodup_cons.mp A.nd
  have n1 := List.nodup_append.mp n0.2
  have n2 := List.nodup_append.mp n1.2.1
  have pF : p ∈ F := A.sub p List.mem_cons_self
  have inF : ∀ a, a ∈ P ++ (B ++ C) → a ∈ F := fun a ha => A.sub a (List.mem_cons_of_mem _ ha)
  have outB : ∀ a, a ∈ P ∨ a ∈ C → a ∉ B := fun a h q => by
    rcases h with z | z
    · exact n1.2.2 a z a (List.mem_append_left _ q) rfl
    · exact n2.2.2 a q a z rfl
  have pB : p ∉ B := fun q => n0.1 (mid_mem.mpr (.inr (.inl q)))
  refine ⟨vj, B, ev, ow_on o, n2.1, fun a ha => inF a (mid_mem.mpr (.inr (.inl ha))), fun {G' H' B' d'} s k2 o2 => ?_⟩
  have l2 := k s (fun a ha => k2 a (inF a (mid_mem.mpr (by
    rcases List.mem_append.mp ha with z | z
    · exact .inl z
    · exact .inr (.inr z)))) (outB a (List.mem_append.mp ha))) (on_ow o2)
  obtain ⟨F', t, m, nd⟩ := A.back (H' := H') s (fun a ha h1 => k2 a ha fun q => h1 (List.mem_cons_of_mem _ (mid_mem.mpr (.inr (.inl q))))) (.node ((k2 p pF pB).trans hp) l2)
  refine ⟨F', t, fun a => ?_, fun h' d => nd (List.nodup_cons.mpr ⟨fun q => ?_, nodup_swap n0.2 h' fun a ha _ => d a ha ?_⟩) fun a ha hf => ?_⟩
  · rw [m a]
    constructor
    · rintro (⟨z, q⟩ | z)
      · exact .inl ⟨z, fun w => q (List.mem_cons_of_mem _ (mid_mem.mpr (.inr (.inl w))))⟩
      · rcases List.mem_cons.mp z with rfl | z
        · exact .inl ⟨pF, pB⟩
        · rcases mid_mem.mp z with z | z | z
          · exact .inl ⟨inF a (mid_mem.mpr (.inl z)), outB a (.inl z)⟩
          · exact .inr z
          · exact .inl ⟨inF a (mid_mem.mpr (.inr (.inr z))), outB a (.inr z)⟩
    · rintro (⟨z, q⟩ | z)
      · by_cases w : a ∈ p :: (P ++ (B ++ C))
        · rcases List.mem_cons.mp w with rfl | w
          · exact .inr List.mem_cons_self
          · rcases mid_mem.mp w with w | w | w
            · exact .inr (List.mem_cons_of_mem _ (mid_mem.mpr (.inl w)))
            · exact absurd w q
            · exact .inr (List.mem_cons_of_mem _ (mid_mem.mpr (.inr (.inr w))))
        · exact .inl ⟨z, w⟩
      · exact .inr (List.mem_cons_of_mem _ (mid_mem.mpr (.inr (.inl z))))
  · rcases mid_mem.mp q with z | z | z
    · exact n0.1 (mid_mem.mpr (.inl z))
    · exact pB (d p z pF)
    · exact n0.1 (mid_mem.mpr (.inr (.inr z)))
  · exact inF a ‹_›
  · rcases List.mem_cons.mp ha with rfl | ha
    · exact List.mem_cons_self
    · refine List.mem_cons_of_mem _ (mid_mem.mpr ?_)
      rcases mid_mem.mp ha with z | z | z
      · exact .inl z
      · exact .inr (.inl (d a z hf))
      · exact .inr (.inr z)
structure Pl where
  b : Bool
  d : D
  up : D → Rho
abbrev PlF := Rho → Res Pl
def SndP (K : KW) (vs0 : List V) (W : WN) (t : TE) (f : PlF) : Prop := ∀ σ G H ρ F (Q : VK), Sts K vs0 G H σ ρ F →
  Post (f ρ) (fun p => ∀ v1 F1 G' H', New G H G' H' → At K vs0 G' H' σ F p.b p.up F1 v1 p.d → Q v1 H') (fun c => ∀ G' H', New G H G' H' → W c σ H') → t σ H Q
def plVar (i : Nat) : PlF := fun ρ => match ρ[i]? with
  | some (.o r b d) => .ok ⟨b, d, fun d' => ρ.set i (.o r b d')⟩
  | _ => .bad
theorem sndp_var {i : Nat} : SndP K vs0 W (tVar i) (plVar i) := fun σ G H ρ F Q S p => by
  unfold plVar at p
  split at p
  · rename_i r b d e
    obtain ⟨v, F1, es, A⟩ := At.var S e
    exact ⟨v, es, p v F1 G H (New.refl S.same) A⟩
  · exact p.elim
def plAt (ds : List D) (i : Int) (up : D → Rho) : Res Pl := (ofOpt (ixN ds.length i)).bind fun j => (ofOpt ds[j]?).bind fun dj => .ok ⟨true, dj, fun d' => up (.list (ds.set j d'))⟩
def plStep (p : Pl) (k : D) : Res Pl := match p.d, k with
  | .list ds, .int i => if p.b = true then plAt ds i p.up else .bad
  | _, _ => .bad
def plIx (pl : PlF) (f : EF) : PlF := fun ρ => (pl ρ).bind fun p => (f ρ).bind fun k => plStep p k
theorem sndp_ix {tp te : TE} {pl : PlF} {f : EF} (hp : SndP K vs0 W tp pl) (he : Snd K vs0 W te f) : SndP K vs0 W (tOp (rIx K) tp te) (plIx pl f) := fun σ G H ρ F Q S q =>
  hp σ G H ρ F _ S (q.bind.imp (fun p q1 v1 F1 G1 H1 n1 A => he σ G1 H1 ρ F _ (S.new n1) (q1.bind.imp (fun k q2 u G2 H2 n2 rk => by
    have S2 := (S.new n1).new n2
    have A2 := A.new n1.inn (S.new n1).rel.foot n2
    obtain ⟨b, d, up⟩ := p
    cases d with
    | list ds =>
      cases k with
      | int i =>
        cases rk
        have q3 : Post (if b = true then plAt ds i up else .bad) _ _ := q2
        cases b with
        | false => exact q3.elim
        | true =>
          rw [if_pos rfl] at q3
          obtain ⟨j, ej, q4⟩ := pom q3
          obtain ⟨dj, ed, q5⟩ := pom q4
          cases A2.own with
          | val _ z _ => cases z
          | node hl ol =>
            obtain ⟨vj, Fj, ev, Aj⟩ := At.item A2 hl ol ed
            refine .inl ⟨_, _, i, vj, rfl, rfl, SqL.of hl, ?_, q5 vj Fj G2 H2 (n1.trans n2) Aj⟩
            unfold atI
            rw [owl_len ol, ej]
            exact ev
      | _ => exact q2.elim
    | _ => cases k <;> exact q2.elim) fun c q2 G2 H2 n2 => q2 G2 H2 (n1.trans n2))) fun c q => q)
/-- a list of one's own gets another content: what is new there is Fe -/
theorem At.put {b : Bool} {up : D → Rho} {p : Addr} {vs' : List V} {ds ds' : List D} {FL FL' : List Addr} {Ga Ha : Hp} (S : Sts K vs0 G H σ ρ F) (A : At K vs0 G H σ F b up (p :: FL) (.ref p) (.list ds)) (av : Adv F Ga Ha F G H) (o : OwL K b G H FL' vs' ds')
    (nd : FL'.Nodup) (fr : ∀ a ∈ FL', a ∈ FL ∨ (Ha a = none ∧ G a = none ∧ a ∉ F)) : ∃ F', Sts K vs0 G (upd H p (.lst vs')) σ (up (.list ds')) F' ∧ Adv F Ga Ha F' G (upd H p (.lst vs')) := by
  have pF : p ∈ F := A.sub p List.mem_cons_self
  have n0 := List.nodup_cons.mp A.nd
  have pL : p ∉ FL' := fun z => by
    rcases fr p z with q | ⟨_, _, q⟩
    · exact n0.1 q
    · exact q pF
  have o2 := owl_move (H' := upd H p (.lst vs')) (Same.refl G) o fun a ha => upd_ne fun z => pL (by rw [← z]; exact ha)
  obtain ⟨F', t, m, ndF⟩ := A.back (H' := upd H p (.lst vs')) (Same.refl G) (fun a ha h1 => upd_ne fun z => h1 (by rw [z]; exact List.mem_cons_self)) (.node upd_same o2)
  have mem : ∀ a ∈ F', a ∈ F ∨ (Ha a = none ∧ G a = none) := fun a ha => by
    rcases (m a).mp ha with z | z
    · exact .inl z.1
    · rcases List.mem_cons.mp z with rfl | z
      · exact .inl pF
      · rcases fr a z with q | ⟨q1, q2, _⟩
        · exact .inl (A.sub a (List.mem_cons_of_mem _ q))
        · exact .inr ⟨q1, q2⟩
  refine ⟨F', ⟨fun a u e => ?_, t, ndF (List.nodup_cons.mpr ⟨pL, nd⟩) fun a ha hf => ?_, fun a ha => ?_⟩, ⟨fun a u e hf => ?_, fun a ha => ?_, av.same, av.quiet⟩⟩
  · have ne : a ≠ p := fun z => by
      rw [z, S.out p pF] at e
      cases e
    rw [upd_ne ne]
    exact S.same a u e
  · rcases List.mem_cons.mp ha with rfl | z
    · exact List.mem_cons_self
    · rcases fr a z with q | ⟨_, _, q⟩
      · exact List.mem_cons_of_mem _ q
      · exact absurd hf q
  · rcases mem a ha with z | z
    · exact S.out a z
    · exact z.2
  · rw [upd_ne fun z => hf (by rw [z]; exact pF)]
    exact av.keep a u e hf
  · rcases mem a ha with z | z
    · exact .inl z
    · exact .inr z.1
/-- place.append(e) -/
def sAppK (p : Pl) (b : Bool) (r : Res D) (ρ : Rho) : Out := match p.d with
  | .list ds => if p.b = b then rOut r ρ fun e => if ds.length < big then .nx (p.up (.list (ds ++ [e]))) else .bad else .bad
  | _ => .bad
def sApp (b : Bool) (pl : PlF) (f : EF) : SF := fun ρ => rOut (pl ρ) ρ fun p => sAppK p b (f ρ) ρ
theorem snds_app {b : Bool} {tp te : TE} {pl : PlF} {f : EF} (hp : SndP K vs0 W tp pl) (he : SndE K vs0 W b te f) : SndS K vs0 W (tDrop (tBM K "list" rAppend tp (tCons te tNil))) (sApp b pl f) := fun σ G H ρ F Dn S q =>
  hp σ G H ρ F _ S ((post_out q S).imp (fun p q1 v1 F1 G1 H1 n1 A => by
    obtain ⟨b', d, up⟩ := p
    cases d with
    | list ds =>
      have q2 : PostS K vs0 W Dn F G H (if b' = b then rOut (f ρ) ρ fun e => if ds.length < big then .nx (up (.list (ds ++ [e]))) else .bad else .bad) := q1
      by_cases eb : b' = b
      · subst eb
        rw [if_pos rfl] at q2
        have S1 := S.new n1
        cases A.own with
        | val _ z _ => cases z
        | @node l vs _ FL hl ol =>
          refine ⟨.inl ⟨rfl, _, SqL.of hl⟩, he σ G1 H1 ρ F _ S1 ((post_out (q2.from (n1.adv S.same)) S1).imp (fun e q3 y Fe G2 H2 l2 o2 => ?_) fun c q3 => q3)⟩
          by_cases hz : ds.length < big
          · rw [if_pos hz] at q3
            have A2 := A.new n1.inn S1.rel.foot l2.new
            have S2 := S1.new l2.new
            have hl2 := l2.new.keep _ _ hl
            have ol2 : OwL K b' G2 H2 FL vs ds := owl_move (l2.new.same n1.inn) ol fun a ha => by
              obtain ⟨xs, ex⟩ := owl_lst ol a ha
              rw [ex]
              exact l2.new.keep a _ ex
            have o3 := owl_app ol2 (.cons o2 .nil)
            rw [List.append_nil] at o3
            have fe : ∀ a ∈ Fe, a ∉ F := fun a ha hf => by
              obtain ⟨xs, ex⟩ := S1.rel.foot a hf
              rw [(l2.fresh a ha).1] at ex
              cases ex
            obtain ⟨F', S3, a3⟩ := At.put S2 A2 (l2.new.adv n1.inn) o3 (by
              refine List.nodup_append.mpr ⟨(List.nodup_cons.mp A.nd).2, l2.nd, fun a ha c hc z => ?_⟩
              subst z
              exact fe a hc (A.sub a (List.mem_cons_of_mem _ ha))) fun a ha => by
                rcases List.mem_append.mp ha with z | z
                · exact .inl z
                · exact .inr ⟨(l2.fresh a z).1, (l2.fresh a z).2, fe a z⟩
            exact ⟨_, vs, y, rfl, rfl, hl2, big_lt (by rw [owl_len ol]; exact hz), q3 σ G2 _ F' S3 a3⟩
          · rw [if_neg hz] at q3
            exact q3.elim
      · rw [if_neg eb] at q2
        exact q2.elim
    | _ => exact q1.elim) fun c q => q)
end
end Fw

set_option Elab.async false
set_option linter.all false
set_option maxRecDepth 100000
set_option maxHeartbeats 4000000
namespace Fw
open PySem PySem.Spec PyProof.Rows L2
section
variable {K : KW} {vs0 : List V} {W : WN} {G H G' H' G1 H1 : Hp} {σ : L2.St} {ρ : Rho} {F F1 : List Addr} {Dn : Ends}
/-! ### let go, lent -/
def frz (i : Nat) (ρ : Rho) : Rho := match ρ[i]? with
  | some (.o _ _ d) => ρ.set i (.p d)
  | _ => ρ
theorem Sts.frz (S : Sts K vs0 G H σ ρ F) (i : Nat) : ∃ (Ga : Hp) (Fa Fb : List Addr), Sts K vs0 Ga H σ (Fw.frz i ρ) Fa ∧ Adv F G H Fa Ga H ∧ (∀ a ∈ Fb, a ∈ F ∧ ∃ xs : MO, Ga a = some xs.o) ∧ (∀ a, a ∉ Fb → Ga a = G a) := by
  unfold Fw.frz
  split
  · rename_i r b d e
    obtain ⟨v, A, F1, B, eF, o, k⟩ := S.rel.frz e
    subst eF
    have n1 := List.nodup_append.mp S.nd
    have n2 := List.nodup_append.mp n1.2.1
    have hl := on_lst o
    have s2 : Same G (fun a => if a ∈ F1 then H a else G a) := fun a u ea => by
      have na : a ∉ F1 := fun z => by
        rw [S.out a (mid_mem.mpr (.inr (.inl z)))] at ea
        cases ea
      show (if a ∈ F1 then H a else G a) = some u
      rw [if_neg na]
      exact ea
    refine ⟨fun a => if a ∈ F1 then H a else G a, A ++ B, F1, ⟨fun a u ea => ?_, k s2 (ow_rp s2 (on_ow o) fun a ha => if_pos ha), ?_, fun a ha => ?_⟩, ⟨fun a u h _ => h, fun a ha => .inl ?_, s2, fun a _ hf => ?_⟩, fun a ha => ⟨mid_mem.mpr (.inr (.inl ha)), ?_⟩, fun a ha => if_neg ha⟩
    · by_cases h : a ∈ F1
      · rw [if_pos h] at ea
        exact ea
      · rw [if_neg h] at ea
        exact S.same a u ea
    · exact List.nodup_append.mpr ⟨n1.1, n2.2.1, fun a ha c hc z => n1.2.2 a ha c (List.mem_append_right _ hc) z⟩
    · have na : a ∉ F1 := fun z => by
        rcases List.mem_append.mp ha with q | q
        · exact n1.2.2 a q a (List.mem_append_left _ z) rfl
        · exact n2.2.2 a z a q rfl
      show (if a ∈ F1 then H a else G a) = none
      rw [if_neg na]
      refine S.out a (mid_mem.mpr ?_)
      rcases List.mem_append.mp ha with q | q
      · exact .inl q
      · exact .inr (.inr q)
    · refine mid_mem.mpr ?_
      rcases List.mem_append.mp ha with q | q
      · exact .inl q
      · exact .inr (.inr q)
    · have na : a ∉ F1 := fun z => hf (mid_mem.mpr (.inr (.inl z)))
      exact if_neg na
    · obtain ⟨xs, ex⟩ := hl a ha
      exact ⟨xs, by show (if a ∈ F1 then H a else G a) = _; rw [if_pos ha]; exact ex⟩
  · exact ⟨G, F, [], S, .refl, (fun a h => by cases h), fun a _ => rfl⟩
/-- from here on the i-th is quiet -/
def sFrz (i : Nat) (f : SF) : SF := fun ρ => f (frz i ρ)
theorem snds_frz {i : Nat} {t : TS} {f : SF} (h : SndS K vs0 W t f) : SndS K vs0 W t (sFrz i f) := fun σ G H ρ F Dn S p => by
  obtain ⟨Ga, Fa, Fb, S2, a, _, _⟩ := S.frz i
  exact h σ Ga H _ Fa Dn S2 (p.from a)
/-- the quiet part without what was lent -/
def cutH (Fb : List Addr) (G : Hp) : Hp := fun a => if a ∈ Fb then none else G a
theorem lent_new {Ga Gb : Hp} {Fb : List Addr} (S : Sts K vs0 G H σ ρ F) (hb : ∀ a ∈ Fb, a ∈ F ∧ ∃ xs : MO, Ga a = some xs.o) (hg : ∀ a, a ∉ Fb → Ga a = G a) (n : New Ga H Gb H') : New G H (cutH Fb Gb) H' ∧ ∀ a xs, Gb a = some (.tup xs) ∨ (∃ o, Gb a = some (.frz o (.tup xs))) → cutH Fb Gb a = Gb a := by
  have old : ∀ a ∈ Fb, Gb a = Ga a := fun a ha => by
    obtain ⟨xs, e⟩ := S.rel.foot a (hb a ha).1
    exact n.quiet a (nn_of e)
  refine ⟨⟨n.keep, fun a u e => ?_, fun a h => ?_⟩, fun a xs e => ?_⟩
  · unfold cutH at e
    split at e
    · cases e
    · exact n.inn a u e
  · unfold cutH
    split
    · rename_i ha
      exact (S.out a (hb a ha).1).symm
    · rename_i ha
      rw [n.quiet a h, hg a ha]
  · unfold cutH
    split
    · rename_i ha
      obtain ⟨_, ys, ey⟩ := hb a ha
      rw [old a ha, ey] at e
      rcases e with e | ⟨o, e⟩
      · exact absurd (Option.some.inj e) (ys.nt xs).1
      · exact absurd (Option.some.inj e) ((ys.nt xs).2 o)
    · rfl
mutual
theorem rp_lent {Ga Gb : Hp} (k : ∀ a xs, Ga a = some (.tup xs) ∨ (∃ o, Ga a = some (.frz o (.tup xs))) → Gb a = Ga a) : ∀ {v : V} {d : D}, Rp K Ga v d → noList d = true → Rp K Gb v d
  | _, _, .non, _ => .non
  | _, _, .bl b, _ => .bl b
  | _, _, .int i, _ => .int i
  | _, _, .str x, _ => .str x
  | _, _, .lst h t, c => by simp [noList] at c
  | _, _, .tup (ds := ds) h t, c => by
    have c' : noListAll ds = true := by simpa only [noList] using c
    refine .tup ?_ (rpl_lent k t c')
    rcases h with (h | ⟨o, h⟩) | h
    · exact .inl (.inl ((k _ _ (.inl h)).trans h))
    · exact .inl (.inr ⟨o, (k _ _ (.inr ⟨o, h⟩)).trans h⟩)
    · exact .inr h
  | _, _, .scr h, c => by simp [noList, scr] at c
  | _, _, .fn h, c => by simp [noList, fnD] at c
  | _, _, .dk h, c => by simp [noList, dkD] at c
  | _, _, .dic .., c => by simp [noList] at c
theorem rpl_lent {Ga Gb : Hp} (k : ∀ a xs, Ga a = some (.tup xs) ∨ (∃ o, Ga a = some (.frz o (.tup xs))) → Gb a = Ga a) : ∀ {vs : List V} {ds : List D}, RpL K Ga vs ds → noListAll ds = true → RpL K Gb vs ds
  | _, _, .nil, _ => .nil
  | _, _, .cons h t, c => by
    have c' := (Bool.and_eq_true _ _).mp (show (noList _ && noListAll _) = true from c)
    exact .cons (rp_lent k h c'.1) (rpl_lent k t c'.2)
end
/-- an expression that reads the i-th: its answer holds no list -/
def eBor (i : Nat) (f : EF) : EF := fun ρ => (f (frz i ρ)).bind fun d => if noList d = true then .ok d else .bad
theorem snd_bor {i : Nat} {t : TE} {f : EF} (h : Snd K vs0 W t f) : Snd K vs0 W t (eBor i f) := fun σ G H ρ F Q S p => by
  obtain ⟨Ga, Fa, Fb, S2, a, hb, hg⟩ := S.frz i
  refine h σ Ga H _ Fa Q S2 (p.bind.imp (fun d q v Gb H' n r => ?_) fun c q Gb H' n => ?_)
  · obtain ⟨n2, k⟩ := lent_new S hb hg n
    by_cases e : noList d = true
    · rw [if_pos e] at q
      exact q v _ H' n2 (rp_lent k r e)
    · rw [if_neg e] at q
      exact q.elim
  · exact q _ H' (lent_new S hb hg n).1
def bBor (i : Nat) (f : BF) : BF := fun ρ => f (frz i ρ)
theorem sndt_bor {i : Nat} {t : TT} {f : BF} (h : SndT K vs0 W t f) : SndT K vs0 W t (bBor i f) := fun σ G H ρ F Q S p => by
  obtain ⟨Ga, Fa, Fb, S2, a, hb, hg⟩ := S.frz i
  exact h σ Ga H _ Fa Q S2 (p.imp (fun d q Gb H' n => q _ H' (lent_new S hb hg n).1) fun c q Gb H' n => q _ H' (lent_new S hb hg n).1)

mutual
theorem nk_noList : ∀ {d : D} {k : NK}, nk d = some k → noList d = true
  | .none, _, _ => rfl
  | .bool _, _, _ => rfl
  | .int _, _, _ => rfl
  | .str _, _, _ => rfl
  | .tuple ds, _, e => by
    obtain ⟨ks, e1, _⟩ := Option.map_eq_some_iff.mp (show (nks ds).map NestedKey.tup = some _ from e)
    exact nks_noList e1
  | .list _, _, e => by cases e
  | .dict _, _, e => by cases e
theorem nks_noList : ∀ {ds : List D} {ks : List NK}, nks ds = some ks → noListAll ds = true
  | [], _, _ => rfl
  | d :: ds, _, e => by
    obtain ⟨k, e1, e2⟩ := Option.bind_eq_some_iff.mp (show (nk d).bind _ = some _ from e)
    obtain ⟨ks, e3, _⟩ := Option.map_eq_some_iff.mp e2
    show (noList d && noListAll ds) = true
    rw [nk_noList e1, nks_noList e3]
    rfl
end
theorem drel_lent {Ga Gb : Hp} (k : ∀ a xs, Ga a = some (.tup xs) ∨ (∃ o, Ga a = some (.frz o (.tup xs))) → Gb a = Ga a) : ∀ {xs : Ents} {kvs : List (D × D)}, DRel K Ga xs kvs → noListAll (kvs.map (·.2)) = true → DRel K Gb xs kvs
  | _, _, .nil, _ => .nil
  | _, _, .cons a b c r q t, h => by
    have h' := (Bool.and_eq_true _ _).mp (show (noList _ && noListAll _) = true from h)
    exact .cons (rp_lent k a (nk_noList b)) b c r (rp_lent k q h'.1) (drel_lent k t h'.2)
mutual
theorem ow_lent {Ga Gb : Hp} (k : ∀ a xs, Ga a = some (.tup xs) ∨ (∃ o, Ga a = some (.frz o (.tup xs))) → Gb a = Ga a) : ∀ {F : List Addr} {v : V} {d : D}, Ow K true Ga H F v d → Ow K true Gb H F v d
  | _, _, _, .leaf r c => .leaf (rp_lent k r (c rfl)) c
  | _, _, _, .node hp hl => .node hp (owl_lent k hl)
  | _, _, _, .dic hp r c => .dic hp (drel_lent k r (c rfl)) c
theorem owl_lent {Ga Gb : Hp} (k : ∀ a xs, Ga a = some (.tup xs) ∨ (∃ o, Ga a = some (.frz o (.tup xs))) → Gb a = Ga a) : ∀ {F : List Addr} {vs : List V} {ds : List D}, OwL K true Ga H F vs ds → OwL K true Gb H F vs ds
  | _, _, _, .nil => .nil
  | _, _, _, .cons h t => .cons (ow_lent k h) (owl_lent k t)
end
/-- what is made anew of it, all of it new -/
def eBorO (i : Nat) (f : EF) : EF := fun ρ => f (frz i ρ)
theorem sndo_bor {i : Nat} {t : TE} {f : EF} (h : SndO K vs0 W true t f) : SndO K vs0 W true t (eBorO i f) := fun σ G H ρ F Q S p => by
  obtain ⟨Ga, Fa, Fb, S2, a, hb, hg⟩ := S.frz i
  refine h σ Ga H _ Fa Q S2 (p.imp (fun d q v F' Gb H' l o => ?_) fun c q Gb H' n => q _ H' (lent_new S hb hg n).1)
  obtain ⟨n2, k⟩ := lent_new S hb hg l.new
  have nb : ∀ x ∈ F', x ∉ Fb := fun x hx hy => by
    obtain ⟨xs, e⟩ := S.rel.foot x (hb x hy).1
    rw [(l.fresh x hx).1] at e
    cases e
  refine q v F' (cutH Fb Gb) H' ⟨n2, l.nd, fun x hx => ⟨(l.fresh x hx).1, ?_⟩⟩ ?_
  · unfold cutH
    rw [if_neg (nb x hx)]
    exact (l.fresh x hx).2
  · cases o with
    | val r i c => exact .val (rp_lent k r (c rfl)) i c
    | node hp hl => exact .node hp (owl_lent k hl)
    | dic hp r c => exact .dic hp (drel_lent k r (c rfl)) c

/-! ### place[i] = e, x = place.pop(i) -/
def sSetI (b : Bool) (pl : PlF) (k : EF) (f : EF) : SF := fun ρ => rOut (f ρ) ρ fun e => rOut (pl ρ) ρ fun p => rOut (k ρ) ρ fun i => match p.d, i with
  | .list ds, .int i => if p.b = b ∧ noList e = true then (match ixN ds.length i with
    | some j => .nx (p.up (.list (ds.set j e)))
    | none => .bad) else .bad
  | _, _ => .bad
theorem owl_set {b : Bool} {v : V} {e : D} (hv : Ow K b G H [] v e) : ∀ {F : List Addr} {vs : List V} {ds : List D} (j : Nat), OwL K b G H F vs ds → ∃ F', OwL K b G H F' (vs.set j v) (ds.set j e) ∧ F'.Sublist F
  | _, _, _, _, .nil => ⟨[], .nil, .slnil⟩
  | _, _, _, 0, .cons (F1 := A) (F2 := B) h t => ⟨[] ++ B, .cons hv t, List.sublist_append_right _ _⟩
  | _, _, _, j + 1, .cons (F1 := A) h t => let ⟨F', t', s⟩ := owl_set hv j t; ⟨_, .cons h t', List.Sublist.append_left s _⟩
theorem snds_setI {b : Bool} {te tp tk : TE} {f k : EF} {pl : PlF} (he : Snd K vs0 W te f) (hp : SndP K vs0 W tp pl) (hk : Snd K vs0 W tk k) : SndS K vs0 W (tAsg te (gSub tp tk rSetL)) (sSetI b pl k f) := fun σ G H ρ F Dn S q =>
  he σ G H ρ F _ S ((post_out q S).imp (fun e q1 v G1 H1 n1 r1 => by
    have S1 := S.new n1
    have a1 := n1.adv (F := F) S.same
    refine hp σ G1 H1 ρ F _ S1 ((post_out (q1.from a1) S1).imp (fun p q2 v1 F1 G2 H2 n2 A => ?_) fun c z => z)
    have S2 := S1.new n2
    have a2 := n2.adv (F := F) n1.inn
    refine hk σ G2 H2 ρ F _ S2 ((post_out (q2.from a2) S2).imp (fun i q3 u G3 H3 n3 ri => ?_) fun c z => z)
    have S3 := S2.new n3
    have A3 := A.new n2.inn S2.rel.foot n3
    obtain ⟨b', d, up⟩ := p
    cases d with
    | list ds =>
      cases ri with
      | int i =>
        have q4 : PostS K vs0 W Dn F G2 H2 (if b' = b ∧ noList e = true then (match ixN ds.length i with | some j => .nx (up (.list (ds.set j e))) | none => .bad) else .bad) := q3
        by_cases eb : b' = b ∧ noList e = true
        · rw [if_pos eb] at q4
          obtain ⟨rfl, ne⟩ := eb
          cases ej : ixN ds.length i with
          | none => rw [ej] at q4; exact q4.elim
          | some j =>
            rw [ej] at q4
            cases A3.own with
            | val _ z _ => cases z
            | @node l vs _ FL hl ol =>
              have rv := rp_lift ((n2.trans n3).same n1.inn) r1
              obtain ⟨F', o2, sl⟩ := owl_set (.leaf rv fun _ => ne) j ol
              have nd := (List.nodup_cons.mp A3.nd).2
              obtain ⟨Fx, Sx, ax⟩ := At.put S3 A3 (n3.adv n2.inn) o2 (sl.nodup nd) fun a ha => .inl (sl.subset ha)
              exact ⟨l, vs, i, j, rfl, rfl, hl, by rw [owl_len ol]; exact ej, q4 σ G3 _ Fx Sx ax⟩
        · rw [if_neg eb] at q4
          exact q4.elim
      | _ => exact q3.elim
    | _ => cases i <;> exact q3.elim) fun c q => q)
/-- x = place.pop(i), i written; what is taken holds no list -/
def sPopK (p : Pl) (i : Int) (x : Nat) : Out := match p.d with
  | .list ds => if p.b = true ∧ -1000 ≤ i ∧ i ≤ 1000 then (match ixN ds.length i with
    | some j => (match ds[j]? with
      | some e => if noList e = true then .nx ((p.up (.list (ds.eraseIdx j))).set x (.p e)) else .bad
      | none => .bad)
    | none => .bad) else .bad
  | _ => .bad
def sPopI (pl : PlF) (i : Int) (x : Nat) : SF := fun ρ => rOut (pl ρ) ρ fun p => sPopK p i x
theorem owl_erase {b : Bool} : ∀ {F : List Addr} {vs : List V} {ds : List D} (j : Nat), OwL K b G H F vs ds → ∃ F', OwL K b G H F' (vs.eraseIdx j) (ds.eraseIdx j) ∧ F'.Sublist F
  | _, _, _, _, .nil => ⟨[], .nil, .slnil⟩
  | _, _, _, 0, .cons (F1 := A) (F2 := B) h t => ⟨B, t, List.sublist_append_right _ _⟩
  | _, _, _, j + 1, .cons (F1 := A) h t => let ⟨F', t', s⟩ := owl_erase j t; ⟨_, .cons h t', List.Sublist.append_left s _⟩
theorem snds_popI {i : Int} {x : Nat} {tp : TE} {pl : PlF} (hp : SndP K vs0 W tp pl) : SndS K vs0 W (tAsg (tBM K "list" rPopAt tp (tCons (tC (.int i)) tNil)) (gName x)) (sPopI pl i x) := fun σ G H ρ F Dn S q =>
  hp σ G H ρ F _ S ((post_out q S).imp (fun p q1 v1 F1 G1 H1 n1 A => by
    have S1 := S.new n1
    obtain ⟨b', d, up⟩ := p
    cases d with
    | list ds =>
      have q4 : PostS K vs0 W Dn F G H (if b' = true ∧ -1000 ≤ i ∧ i ≤ 1000 then (match ixN ds.length i with
    | some j => (match ds[j]? with
      | some e => if noList e = true then .nx ((up (.list (ds.eraseIdx j))).set x (.p e)) else .bad
      | none => .bad)
    | none => .bad) else .bad) := q1
      by_cases eb : b' = true ∧ -1000 ≤ i ∧ i ≤ 1000
      · rw [if_pos eb] at q4
        obtain ⟨rfl, i1, i2⟩ := eb
        cases ej : ixN ds.length i with
        | none => rw [ej] at q4; exact q4.elim
        | some j =>
          rw [ej] at q4
          have q5 : PostS K vs0 W Dn F G H (match ds[j]? with | some e => if noList e = true then .nx ((up (.list (ds.eraseIdx j))).set x (.p e)) else .bad | none => .bad) := q4
          cases ed : ds[j]? with
          | none => rw [ed] at q5; exact q5.elim
          | some e =>
            rw [ed] at q5
            have q6 : PostS K vs0 W Dn F G H (if noList e = true then .nx ((up (.list (ds.eraseIdx j))).set x (.p e)) else .bad) := q5
            by_cases ne : noList e = true
            · rw [if_pos ne] at q6
              cases A.own with
              | val _ z _ => cases z
              | @node l vs _ FL hl ol =>
                obtain ⟨vj, B1, B2, B3, eF, ev, ow, _⟩ := owl_split ol ed
                have rv : Rp K G1 vj e := by
                  cases ow with
                  | leaf r _ => exact r
                  | node _ _ => simp [noList] at ne
                  | dic _ _ _ => simp [noList] at ne
                obtain ⟨F', o2, sl⟩ := owl_erase j ol
                have nd := (List.nodup_cons.mp A.nd).2
                obtain ⟨Fx, Sx, ax⟩ := At.put S1 A (n1.adv S.same) o2 (sl.nodup nd) fun a ha => .inl (sl.subset ha)
                obtain ⟨Fy, ty, sy⟩ := Sx.rel.set x rv
                refine ⟨.inl ⟨rfl, _, SqL.of hl⟩, l, vs, i, j, vj, rfl, rfl, hl, by omega, by omega, ?_, ev, q6 _ G1 _ Fy (Sx.sub ty sy) (ax.trans (Adv.sub sy))⟩
                rw [owl_len ol]
                exact (ixN_seq ej).1
            · rw [if_neg ne] at q6
              exact q6.elim
      · rw [if_neg eb] at q4
        exact q4.elim
    | _ => exact q1.elim) fun c q => q)
end
end Fw

set_option Elab.async false
set_option linter.all false
set_option maxRecDepth 100000
set_option maxHeartbeats 4000000
namespace Fw
open PySem PySem.Spec PyProof.Rows L2
/-! ### what a def promises: a function of data -/
def spP (K : KW) (C : Nat → Addr) (f : List D → Res D) : Sp := fun vs H Q E => ∃ G ds, Same G H ∧ RpL K G vs ds ∧
  Post (f ds) (fun d => ∀ v G' H', New G H G' H' → Rp K G' v d → Q v H') (fun c => ∀ G' H', New G H G' H' → E (.ref (C c)) none H')
def spO (K : KW) (C : Nat → Addr) (b : Bool) (f : List D → Res D) : Sp := fun vs H Q E => ∃ G ds, Same G H ∧ RpL K G vs ds ∧
  Post (f ds) (fun d => ∀ v F' G' H', Lay G H F' G' H' → On K b G' H' F' v d → Q v H') (fun c => ∀ G' H', New G H G' H' → E (.ref (C c)) none H')
/-- the wish by numbers -/
def wn (C : Nat → Addr) (W : WX) : WN := fun c σ H => W (.ref (C c)) none σ H
def xW (E : XK) : WX := fun cls d _ H => E cls d H
def eCall0 (f : List D → Res D) (a : AF) : EF := fun ρ => (a ρ).bind fun ds => noExc (f ds)
def eCall (f : List D → Res D) (a : AF) : EF := fun ρ => (a ρ).bind f
def retP (o : Out) : Res D := match o with
  | .ret (.p d) _ => .ok d
  | .ret (.o none _ d) _ => .ok d
  | .nx _ => .ok .none
  | .exc c _ => .exc c
  | _ => .bad
def retO (b : Bool) (o : Out) : Res D := match o with
  | .ret (.o none b' d) _ => if b' = b then .ok d else .bad
  | .exc c _ => .exc c
  | _ => .bad
def ins (N : Nat) (ds : List D) : Rho := ds.map .p ++ List.replicate (N - ds.length) .no
def fnP (b : SF) (N n : Nat) (ds : List D) : Res D := if ds.length = n then retP (b (ins N ds)) else .bad
def fnO (b : SF) (k : Bool) (N n : Nat) (ds : List D) : Res D := if ds.length = n then retO k (b (ins N ds)) else .bad
section
variable {K : KW} {vs0 : List V} {W : WN} {G H G' H' G1 H1 : Hp} {σ : L2.St} {ρ : Rho} {F F1 : List Addr} {Dn : Ends} {C : Nat → Addr}
theorem post_noExc {r : Res D} {k : D → Prop} {e : Nat → Prop} (p : Post (noExc r) k e) : Post r k fun _ => False := by
  cases r with
  | bad => exact p
  | ok a => exact p
  | exc c => exact p
theorem snd_call0 {f : List D → Res D} {ta : TA} {a : AF} (h : SndA K vs0 W ta a) : Snd K vs0 W (tCall (spP K C f) [] E0 ta) (eCall0 f a) := fun σ G H ρ F Q S p =>
  h σ G H ρ F _ S (p.bind.imp (fun ds q vs G1 H1 n1 o => ⟨G1, ds, n1.inn, by rw [List.append_nil]; exact o, (post_noExc q).imp (fun d q v G2 H2 n2 r => q v G2 H2 (n1.trans n2) r) fun c q => q.elim⟩) fun c q => q)
theorem sndo_call0 {b : Bool} {f : List D → Res D} {ta : TA} {a : AF} (h : SndA K vs0 W ta a) : SndO K vs0 W b (tCall (spO K C b f) [] E0 ta) (eCall0 f a) := fun σ G H ρ F Q S p =>
  h σ G H ρ F _ S (p.bind.imp (fun ds q vs G1 H1 n1 o => ⟨G1, ds, n1.inn, by rw [List.append_nil]; exact o, (post_noExc q).imp (fun d q v F2 G2 H2 l2 r => q v F2 G2 H2 (Lay.trans (F1 := []) (fun a h => by cases h) (.pure n1) l2) r) fun c q => q.elim⟩) fun c q => q)
theorem snd_call {f : List D → Res D} {W' : WX} {ta : TA} {a : AF} (h : SndA K vs0 (wn C W') ta a) : Snd K vs0 (wn C W') (tCallS (spP K C f) (WE W') ta) (eCall f a) := fun σ G H ρ F Q S p =>
  h σ G H ρ F _ S (p.bind.imp (fun ds q vs G1 H1 n1 o => ⟨G1, ds, n1.inn, o, q.imp (fun d q v G2 H2 n2 r => q v G2 H2 (n1.trans n2) r) fun c q G2 H2 n2 => q G2 H2 (n1.trans n2)⟩) fun c q => q)
theorem sndo_call {b : Bool} {f : List D → Res D} {W' : WX} {ta : TA} {a : AF} (h : SndA K vs0 (wn C W') ta a) : SndO K vs0 (wn C W') b (tCallS (spO K C b f) (WE W') ta) (eCall f a) := fun σ G H ρ F Q S p =>
  h σ G H ρ F _ S (p.bind.imp (fun ds q vs G1 H1 n1 o => ⟨G1, ds, n1.inn, o, q.imp (fun d q v F2 G2 H2 l2 r => q v F2 G2 H2 (Lay.trans (F1 := []) (fun a h => by cases h) (.pure n1) l2) r) fun c q G2 H2 n2 => q G2 H2 (n1.trans n2)⟩) fun c q => q)
def sRaise (c : Nat) : SF := fun ρ => .exc c ρ
theorem snds_raise {c : Nat} {W' : WX} : SndS K vs0 (wn C W') (fun _ σ H => (fun (_ : L2.St) (H : Hp) (Q : XK) => Q (.ref (C c)) none H) σ H fun cls d H' => W' cls d σ H') (sRaise c) := fun σ G H ρ F Dn S p => p σ G H F S .refl

theorem slr_ins : ∀ {vs : List V} {ds : List D} (m : Nat), RpL K G vs ds → Slr K vs0 G H (vs.map some ++ List.replicate m none) (ds.map .p ++ List.replicate m .no) []
  | _, _, 0, .nil => .nil
  | _, _, m + 1, .nil => .no (slr_ins m .nil)
  | _, _, m, .cons h t => .p h (slr_ins m t)
theorem start_ins {N : List Str} {vs : List V} {ds : List D} (s : Same G H) (h : RpL K G vs ds) : Sts K vs0 G H (L2.start N vs) (ins N.length ds) [] := by
  refine ⟨s, ?_, .nil, fun a h => by cases h⟩
  unfold L2.start ins
  rw [rpl_len h]
  exact slr_ins _ h
theorem adv_new (s : Same G H) {F' : List Addr} (a : Adv [] G H F' G' H') (i : Same G' H') : New G H G' H' := ⟨fun b o e => a.keep b o e (by simp), i, fun b h => a.quiet b h (by simp)⟩
/-- the end of a body, told as the promise asks -/
theorem ret_P {E : XK} {Q : VK} {o : Out} (s : Same G H) (p : Post (retP o) (fun d => ∀ v G' H', New G H G' H' → Rp K G' v d → Q v H') (fun c => ∀ G' H', New G H G' H' → E (.ref (C c)) none H')) :
    PostS K vs0 (wn C (xW E)) { nx := fun _ H' => Q .non H', rt := Q } [] G H o := by
  cases o with
  | bad => exact p
  | nx ρ => exact fun σ' G' H' F' S a => p .non G' H' (adv_new s a S.same) .non
  | brk ρ => exact p.elim
  | ct ρ => exact p.elim
  | exc c ρ => exact fun σ' G' H' F' S a => p G' H' (adv_new s a S.same)
  | ret x ρ =>
    cases x with
    | no => exact p.elim
    | p d =>
      intro v σ' G' H' F' S a
      have r := S.rel
      cases r with
      | p r _ => exact p v G' H' (adv_new s a S.same) r
    | o r b d =>
      cases r with
      | some j => exact p.elim
      | none =>
        intro v σ' G' H' F' S a
        have r := S.rel
        cases r with
        | @o _ _ _ _ _ _ F1 F2 o _ t =>
          have nd := List.nodup_append.mp S.nd
          have l : Lay G H F1 G' H' := ⟨adv_new s a S.same, nd.1, fun x hx => ⟨(a.foot x (List.mem_append_left _ hx)).elim (fun z => by cases z) id, S.out x (List.mem_append_left _ hx)⟩⟩
          obtain ⟨G2, n, r2⟩ := l.dp s (on_ow o)
          exact p v G2 H' n r2
theorem ret_O {b : Bool} {E : XK} {Q : VK} {o : Out} (s : Same G H) (p : Post (retO b o) (fun d => ∀ v F' G' H', Lay G H F' G' H' → On K b G' H' F' v d → Q v H') (fun c => ∀ G' H', New G H G' H' → E (.ref (C c)) none H')) :
    PostS K vs0 (wn C (xW E)) { nx := fun _ H' => Q .non H', rt := Q } [] G H o := by
  cases o with
  | bad => exact p
  | nx ρ => exact p.elim
  | brk ρ => exact p.elim
  | ct ρ => exact p.elim
  | exc c ρ => exact fun σ' G' H' F' S a => p G' H' (adv_new s a S.same)
  | ret x ρ =>
    cases x with
    | no => exact p.elim
    | p d => exact p.elim
    | o r b' d =>
      cases r with
      | some j => exact p.elim
      | none =>
        have p' : Post (if b' = b then Res.ok d else .bad) _ _ := p
        obtain ⟨rfl, q⟩ := pof p'
        intro v σ' G' H' F' S a
        have r := S.rel
        cases r with
        | @o _ _ _ _ _ _ F1 F2 o _ t =>
          have nd := List.nodup_append.mp S.nd
          exact q v F1 G' H' ⟨adv_new s a S.same, nd.1, fun x hx => ⟨(a.foot x (List.mem_append_left _ hx)).elim (fun z => by cases z) id, S.out x (List.mem_append_left _ hx)⟩⟩ o
end
section
variable {P : Program} {w : World} {K : KW} {mg : Str → Option Value} {base : Heap} {x qual : Str} {st : Stmt} {f : Addr} {fd : FuncData} {N ps : List Str} {k : Nat} {C : Nat → Addr} {b : SF} {kb : Bool}
theorem fnP_ne {ds : List D} {n : Nat} {kk : D → Prop} {e : Nat → Prop} (p : Post (fnP b N.length n ds) kk e) : ds.length = n ∧ Post (retP (b (ins N.length ds))) kk e := by
  unfold fnP at p
  split at p
  · rename_i h
    exact ⟨h, p⟩
  · exact p.elim
theorem fnO_ne {ds : List D} {n : Nat} {kk : D → Prop} {e : Nat → Prop} (p : Post (fnO b kb N.length n ds) kk e) : ds.length = n ∧ Post (retO kb (b (ins N.length ds))) kk e := by
  unfold fnO at p
  split at p
  · rename_i h
    exact ⟨h, p⟩
  · exact p.elim
/-- a def that lets nothing out -/
theorem fn_P (F : Fun K x qual st f fd) (S : FnScope N ps (defScope st)) {t : TS}
    (pe : ∀ (cdv : Value) (A : Around) (outer : List Env) (s : Shared) (H : Hp) (E : XK), Room k (A.deeper (envOfC qual (defScope st) s.heap.objs.size f cdv)) → PSs (cxOf CX0 P w K mg base N qual (defScope st) f cdv A outer s H E).nox (defBody st) t)
    (sn : ∀ vs, SndS K vs W0 t b) : FnOk P w K mg base CX0 (k + 1) f fd ps (spP K C fun ds => noExc (fnP b N.length ps.length ds)) := by
  refine F.ok S (fun vs H Q E h => ?_) fun cdv A outer s H vs Q E hr h => ⟨t, pe cdv A outer s H E hr, ?_⟩
  · obtain ⟨G, ds, sm, r, p⟩ := h
    rw [rpl_len r]
    exact (fnP_ne (N := N) (post_noExc p)).1
  · obtain ⟨G, ds, sm, r, p⟩ := h
    have q := ret_P (C := C) (vs0 := vs) (E := fun _ _ _ => False) sm ((fnP_ne (N := N) (post_noExc p)).2.imp (fun _ z => z) fun _ z => z.elim)
    exact sn vs _ G H _ [] _ (start_ins sm r) q
theorem fn_O (F : Fun K x qual st f fd) (S : FnScope N ps (defScope st)) {t : TS}
    (pe : ∀ (cdv : Value) (A : Around) (outer : List Env) (s : Shared) (H : Hp) (E : XK), Room k (A.deeper (envOfC qual (defScope st) s.heap.objs.size f cdv)) → PSs (cxOf CX0 P w K mg base N qual (defScope st) f cdv A outer s H E).nox (defBody st) t)
    (sn : ∀ vs, SndS K vs W0 t b) : FnOk P w K mg base CX0 (k + 1) f fd ps (spO K C kb fun ds => noExc (fnO b kb N.length ps.length ds)) := by
  refine F.ok S (fun vs H Q E h => ?_) fun cdv A outer s H vs Q E hr h => ⟨t, pe cdv A outer s H E hr, ?_⟩
  · obtain ⟨G, ds, sm, r, p⟩ := h
    rw [rpl_len r]
    exact (fnO_ne (N := N) (post_noExc p)).1
  · obtain ⟨G, ds, sm, r, p⟩ := h
    have q := ret_O (C := C) (vs0 := vs) (E := fun _ _ _ => False) sm ((fnO_ne (N := N) (post_noExc p)).2.imp (fun _ z => z) fun _ z => z.elim)
    exact sn vs _ G H _ [] _ (start_ins sm r) q
/-- a def that may raise -/
theorem fn_PX (F : Fun K x qual st f fd) (S : FnScope N ps (defScope st)) {t : XK → TS}
    (pe : ∀ (cdv : Value) (A : Around) (outer : List Env) (s : Shared) (H : Hp) (E : XK), Room k (A.deeper (envOfC qual (defScope st) s.heap.objs.size f cdv)) → PSs (cxOf (L2.CX P w) P w K mg base N qual (defScope st) f cdv A outer s H E) (defBody st) (t E))
    (sn : ∀ vs E, SndS K vs (wn C (xW E)) (t E) b) : FnOk P w K mg base (L2.CX P w) (k + 1) f fd ps (spP K C (fnP b N.length ps.length)) := by
  refine F.okX S (fun vs H Q E h => ?_) fun cdv A outer s H vs Q E hr h => ⟨t E, pe cdv A outer s H E hr, ?_⟩
  · obtain ⟨G, ds, sm, r, p⟩ := h
    rw [rpl_len r]
    exact (fnP_ne (N := N) p).1
  · obtain ⟨G, ds, sm, r, p⟩ := h
    exact sn vs E _ G H _ [] _ (start_ins sm r) (ret_P (C := C) (vs0 := vs) sm (fnP_ne (N := N) p).2)
theorem fn_OX (F : Fun K x qual st f fd) (S : FnScope N ps (defScope st)) {t : XK → TS}
    (pe : ∀ (cdv : Value) (A : Around) (outer : List Env) (s : Shared) (H : Hp) (E : XK), Room k (A.deeper (envOfC qual (defScope st) s.heap.objs.size f cdv)) → PSs (cxOf (L2.CX P w) P w K mg base N qual (defScope st) f cdv A outer s H E) (defBody st) (t E))
    (sn : ∀ vs E, SndS K vs (wn C (xW E)) (t E) b) : FnOk P w K mg base (L2.CX P w) (k + 1) f fd ps (spO K C kb (fnO b kb N.length ps.length)) := by
  refine F.okX S (fun vs H Q E h => ?_) fun cdv A outer s H vs Q E hr h => ⟨t E, pe cdv A outer s H E hr, ?_⟩
  · obtain ⟨G, ds, sm, r, p⟩ := h
    rw [rpl_len r]
    exact (fnO_ne (N := N) p).1
  · obtain ⟨G, ds, sm, r, p⟩ := h
    exact sn vs E _ G H _ [] _ (start_ins sm r) (ret_O (C := C) (vs0 := vs) sm (fnO_ne (N := N) p).2)
end
end Fw

set_option Elab.async false
set_option linter.all false
set_option maxRecDepth 100000
set_option maxHeartbeats 4000000
namespace Fw
open PySem PySem.Spec PyProof.Rows L2
/-! ### a call that changes one of its arguments, a list of one's own -/
structure Mid where
  pre : List D
  i : Nat
  post : List D
abbrev MF := Rho → Res Mid
def SndAM (K : KW) (vs0 : List V) (W : WN) (t : TA) (f : MF) : Prop := ∀ σ G H ρ F (Q : List V → Hp → Prop), Sts K vs0 G H σ ρ F →
  Post (f ρ) (fun m => ∀ vs1 vi vs2 G' H', New G H G' H' → RpL K G' vs1 m.pre → σ[m.i]? = some (some vi) → RpL K G' vs2 m.post → Q (vs1 ++ vi :: vs2) H') (fun c => ∀ G' H', New G H G' H' → W c σ H') → t σ H Q
def amHere (i : Nat) (g : AF) : MF := fun ρ => match ρ[i]? with
  | some (.o _ _ _) => (g ρ).bind fun ds => .ok ⟨[], i, ds⟩
  | _ => .bad
def amCons (f : EF) (g : MF) : MF := fun ρ => (f ρ).bind fun d => (g ρ).bind fun m => .ok { m with pre := d :: m.pre }
def spM (K : KW) (f : List D → Bool → D → List D → Res (D × D)) : Sp := fun vs H Q _ => ∃ vs1 vi vs2 G F ds1 b d ds2, vs = vs1 ++ vi :: vs2 ∧ Same G H ∧ RpL K G vs1 ds1 ∧ RpL K G vs2 ds2 ∧ On K b G H F vi d ∧ F.Nodup ∧ (∀ a ∈ F, G a = none) ∧
  Post (f ds1 b d ds2) (fun r => ∀ v G' H' F', Adv F G H F' G' H' → Same G' H' → Rp K G' v r.1 → On K b G' H' F' vi r.2 → F'.Nodup → (∀ a ∈ F', G' a = none) → Q v H') (fun _ => False)
def backM (j : Nat) (b : Bool) (r : D) (ρ : Rho) : Res (D × D) := match ρ[j]? with
  | some (.o (some j') b' d') => if j' = j ∧ b' = b then .ok (r, d') else .bad
  | _ => .bad
def retM (j : Nat) (b : Bool) (o : Out) : Res (D × D) := match o with
  | .ret (.p r) ρ => backM j b r ρ
  | .nx ρ => backM j b .none ρ
  | _ => .bad
def insM (N : Nat) (ds1 : List D) (b : Bool) (d : D) (ds2 : List D) : Rho := ds1.map .p ++ (.o (some ds1.length) b d :: (ds2.map .p ++ List.replicate (N - (ds1.length + 1 + ds2.length)) .no))
def fnM (s : SF) (N n : Nat) (ds1 : List D) (b : Bool) (d : D) (ds2 : List D) : Res (D × D) := if ds1.length + 1 + ds2.length = n then retM ds1.length b (s (insM N ds1 b d ds2)) else .bad
def sCallM (f : List D → Bool → D → List D → Res (D × D)) (g : MF) : SF := fun ρ => rOut (g ρ) ρ fun m => match ρ[m.i]? with
  | some (.o r b d) => (match f m.pre b d m.post with
    | .ok x => .nx (ρ.set m.i (.o r b x.2))
    | _ => .bad)
  | _ => .bad
section
variable {K : KW} {vs0 : List V} {W : WN} {G H G' H' G1 H1 : Hp} {σ : L2.St} {ρ : Rho} {F F1 : List Addr} {Dn : Ends} {C : Nat → Addr}
theorem sndam_here {i : Nat} {tr : TA} {g : AF} (h : SndA K vs0 W tr g) : SndAM K vs0 W (tCons (tVar i) tr) (amHere i g) := fun σ G H ρ F Q S p => by
  unfold amHere at p
  split at p
  · rename_i r b d e
    obtain ⟨v, A, Fi, B, eF, es, o, _, _⟩ := S.rel.oget e
    exact ⟨v, es, h σ G H ρ F _ S (p.bind.imp (fun ds q vs G1 H1 n1 r1 => q [] v vs G1 H1 n1 .nil es r1) fun c q => q)⟩
  · exact p.elim
theorem sndam_cons {ta : TE} {tr : TA} {f : EF} {g : MF} (h1 : Snd K vs0 W ta f) (h2 : SndAM K vs0 W tr g) : SndAM K vs0 W (tCons ta tr) (amCons f g) := fun σ G H ρ F Q S p =>
  h1 σ G H ρ F _ S (p.bind.imp (fun d q v G1 H1 n1 d1 => h2 σ G1 H1 ρ F _ (S.new n1) (q.bind.imp (fun m q2 vs1 vi vs2 G2 H2 n2 r1 e r2 =>
    q2 (v :: vs1) vi vs2 G2 H2 (n1.trans n2) (.cons (rp_lift (n2.same n1.inn) d1) r1) e r2) fun c q2 G2 H2 n2 => q2 G2 H2 (n1.trans n2))) fun c q => q)
theorem slr_insM : ∀ {vs1 vs2 : List V} {ds1 ds2 : List D} {vi : V} {b : Bool} {d : D} {r : Option Nat} (m : Nat), RpL K G vs1 ds1 → On K b G H F vi d → (∀ j, r = some j → vs0[j]? = some vi) → RpL K G vs2 ds2 →
    Slr K vs0 G H (vs1.map some ++ (some vi :: (vs2.map some ++ List.replicate m none))) (ds1.map .p ++ (.o r b d :: (ds2.map .p ++ List.replicate m .no))) F
  | _, _, _, _, _, _, _, _, m, .nil, o, hr, t2 => by
    have z := Slr.o (r := _) o hr (slr_ins (vs0 := vs0) (H := H) m t2)
    rw [List.append_nil] at z
    exact z
  | _, _, _, _, _, _, _, _, m, .cons h t, o, hr, t2 => .p h (slr_insM m t o hr t2)
theorem snds_callM {f : List D → Bool → D → List D → Res (D × D)} {ta : TA} {g : MF} (h : SndAM K vs0 W ta g) : SndS K vs0 W (tDrop (tCall (spM K f) [] E0 ta)) (sCallM f g) := fun σ G H ρ F Dn S p =>
  h σ G H ρ F _ S ((post_out p S).imp (fun m q vs1 vi vs2 G1 H1 n1 r1 hi r2 => by
    obtain ⟨ds1, i, ds2⟩ := m
    have S1 := S.new n1
    have q0 : PostS K vs0 W Dn F G H (match ρ[i]? with | some (.o r b d) => (match f ds1 b d ds2 with | .ok x => .nx (ρ.set i (.o r b x.2)) | _ => .bad) | _ => .bad) := q
    cases e : ρ[i]? with
    | none => rw [e] at q0; exact q0.elim
    | some sl =>
      rw [e] at q0
      cases sl with
      | no => exact q0.elim
      | p d => exact q0.elim
      | o r b d =>
        have q1 : PostS K vs0 W Dn F G H (match f ds1 b d ds2 with | .ok x => .nx (ρ.set i (.o r b x.2)) | _ => .bad) := q0
        obtain ⟨v, A, Fi, B, eF, es, o, _, k⟩ := S1.rel.oget e
        have ev : v = vi := by
          rw [hi] at es
          exact (Option.some.inj (Option.some.inj es)).symm
        subst ev
        subst eF
        have nd1 := List.nodup_append.mp S1.nd
        have nd2 := List.nodup_append.mp nd1.2.1
        refine ⟨vs1, v, vs2, G1, Fi, ds1, b, d, ds2, by rw [List.append_nil], n1.inn, r1, r2, o, nd2.1, fun a ha => S1.out a (mid_mem.mpr (.inr (.inl ha))), ?_⟩
        cases ef : f ds1 b d ds2 with
        | bad => rw [ef] at q1; exact q1.elim
        | exc c => rw [ef] at q1; exact q1.elim
        | ok x =>
          rw [ef] at q1
          intro u G2 H2 F2 a2 s2 ru o2 ndF2 out2
          have AB : ∀ a, a ∈ A ∨ a ∈ B → a ∉ Fi ∧ ∃ xs : MO, H1 a = some xs.o := fun a h => by
            refine ⟨fun z => ?_, S1.rel.foot a (mid_mem.mpr (h.elim .inl fun z => .inr (.inr z)))⟩
            rcases h with y | y
            · exact nd1.2.2 a y a (List.mem_append_left _ z) rfl
            · exact nd2.2.2 a z a y rfl
          have S2 := k (G' := G2) (H' := H2) a2.same (fun a ha => by
            obtain ⟨y1, xs, y2⟩ := AB a (List.mem_append.mp ha)
            rw [y2]
            exact a2.keep a _ y2 y1) o2
          have disj : ∀ a ∈ F2, a ∈ A ++ (Fi ++ B) → a ∈ Fi := fun a ha hm => by
            rcases a2.foot a ha with z | z
            · exact z
            · rcases mid_mem.mp hm with y | y | y
              · obtain ⟨_, xs, y2⟩ := AB a (.inl y)
                rw [z] at y2
                cases y2
              · exact y
              · obtain ⟨_, xs, y2⟩ := AB a (.inr y)
                rw [z] at y2
                cases y2
          refine q1 σ G2 H2 (A ++ (F2 ++ B)) ⟨s2, S2, nodup_swap S1.nd ndF2 disj, fun a ha => ?_⟩ ((n1.adv S.same).trans ⟨fun a oo ho hf => a2.keep a oo ho fun z => hf (mid_mem.mpr (.inr (.inl z))), fun a ha => ?_, a2.same, fun a ho hf => a2.quiet a ho fun z => hf (mid_mem.mpr (.inr (.inl z)))⟩)
          · have old : ∀ a, a ∈ A ∨ a ∈ B → G2 a = none := fun a hab => by
              obtain ⟨y1, xs, y2⟩ := AB a hab
              rw [a2.quiet a (nn_of y2) y1]
              exact S1.out a (mid_mem.mpr (hab.elim .inl fun z => .inr (.inr z)))
            rcases mid_mem.mp ha with z | z | z
            · exact old a (.inl z)
            · exact out2 a z
            · exact old a (.inr z)
          · rcases mid_mem.mp ha with z | z | z
            · exact .inl (mid_mem.mpr (.inl z))
            · rcases a2.foot a z with y | y
              · exact .inl (mid_mem.mpr (.inr (.inl y)))
              · exact .inr y
            · exact .inl (mid_mem.mpr (.inr (.inr z)))) fun c q => q)
end
section
variable {P : Program} {w : World} {K : KW} {mg : Str → Option Value} {base : Heap} {x qual : Str} {st : Stmt} {f : Addr} {fd : FuncData} {N ps : List Str} {k : Nat} {b : SF}
theorem back_ok {j : Nat} {bb : Bool} {r : D} {ρ : Rho} {kk : D × D → Prop} {e : Nat → Prop} (p : Post (backM j bb r ρ) kk e) : ∃ d', ρ[j]? = some (.o (some j) bb d') ∧ kk (r, d') := by
  unfold backM at p
  split at p
  · rename_i j' b' d' e
    obtain ⟨⟨rfl, rfl⟩, q⟩ := pof p
    exact ⟨d', e, q⟩
  · exact p.elim
theorem get_mid {α : Type} (xs : List α) (y : α) (zs : List α) : (xs ++ y :: zs)[xs.length]? = some y := by simp
theorem fn_M (F : Fun K x qual st f fd) (S : FnScope N ps (defScope st)) {t : TS}
    (pe : ∀ (cdv : Value) (A : Around) (outer : List Env) (s : Shared) (H : Hp) (E : XK), Room k (A.deeper (envOfC qual (defScope st) s.heap.objs.size f cdv)) → PSs (cxOf CX0 P w K mg base N qual (defScope st) f cdv A outer s H E).nox (defBody st) t)
    (sn : ∀ vs, SndS K vs W0 t b) : FnOk P w K mg base CX0 (k + 1) f fd ps (spM K (fnM b N.length ps.length)) := by
  have ne : ∀ {ds1 ds2 : List D} {bb : Bool} {d : D} {kk : D × D → Prop} {e : Nat → Prop}, Post (fnM b N.length ps.length ds1 bb d ds2) kk e → ds1.length + 1 + ds2.length = ps.length ∧ Post (retM ds1.length bb (b (insM N.length ds1 bb d ds2))) kk e := fun p => by
    unfold fnM at p
    split at p
    · exact ⟨‹_›, p⟩
    · exact p.elim
  refine F.ok S (fun vs H Q E h => ?_) fun cdv A outer s H vs Q E hr h => ⟨t, pe cdv A outer s H E hr, ?_⟩
  · obtain ⟨vs1, vi, vs2, G, F, ds1, bb, d, ds2, rfl, sm, r1, r2, o, nd, out, p⟩ := h
    have q := (ne p).1
    rw [List.length_append, List.length_cons, rpl_len r1, rpl_len r2]
    omega
  · obtain ⟨vs1, vi, vs2, G, F, ds1, bb, d, ds2, rfl, sm, r1, r2, o, nd, out, p⟩ := h
    obtain ⟨hl, p⟩ := ne p
    have S0 : Sts K (vs1 ++ vi :: vs2) G H (L2.start N (vs1 ++ vi :: vs2)) (insM N.length ds1 bb d ds2) F := by
      refine ⟨sm, ?_, nd, out⟩
      have z := slr_insM (vs0 := vs1 ++ vi :: vs2) (r := some ds1.length) (N.length - (ds1.length + 1 + ds2.length)) r1 o (fun j e => by
        have e' := Option.some.inj e
        subst e'
        rw [← rpl_len r1]
        exact get_mid _ _ _) r2
      unfold L2.start insM
      rw [List.map_append, List.map_cons, List.length_append, List.length_cons, rpl_len r1, rpl_len r2, List.append_assoc, List.cons_append, show ds1.length + (ds2.length + 1) = ds1.length + 1 + ds2.length by omega]
      exact z
    refine sn (vs1 ++ vi :: vs2) _ G H _ F _ S0 ?_
    have fin : ∀ {ρ : Rho} {r : D} {v : V} {σ' : L2.St} {G' H' : Hp} {F' : List Addr}, Post (backM ds1.length bb r ρ) (fun r => ∀ v G' H' F', Adv F G H F' G' H' → Same G' H' → Rp K G' v r.1 → On K bb G' H' F' vi r.2 → F'.Nodup → (∀ a ∈ F', G' a = none) → Q v H') (fun _ => False) →
        Sts K (vs1 ++ vi :: vs2) G' H' σ' ρ F' → Adv F G H F' G' H' → Rp K G' v r → Q v H' := fun {ρ r v σ' G' H' F'} p S a rv => by
      obtain ⟨d', e, q⟩ := back_ok p
      obtain ⟨u, A, F1, B, eF, es, o, hj, _⟩ := S.rel.oget e
      have hv := hj _ rfl
      rw [← rpl_len r1, get_mid] at hv
      have hv' := Option.some.inj hv
      subst hv'
      subst eF
      have n1 := List.nodup_append.mp S.nd
      have n2 := List.nodup_append.mp n1.2.1
      exact q v G' H' F1 ⟨a.keep, fun x hx => a.foot x (mid_mem.mpr (.inr (.inl hx))), a.same, a.quiet⟩ S.same rv o n2.1 fun x hx => S.out x (mid_mem.mpr (.inr (.inl hx)))
    revert p
    cases b (insM N.length ds1 bb d ds2) with
    | bad => exact fun p => p
    | brk ρ => exact fun p => p.elim
    | ct ρ => exact fun p => p.elim
    | exc c ρ => exact fun p => p.elim
    | nx ρ => exact fun p σ' G' H' F' S a => fin p S a .non
    | ret x ρ =>
      cases x with
      | no => exact fun p => p.elim
      | o _ _ _ => exact fun p => p.elim
      | p r =>
        intro p v σ' G' H' F' S a
        have q := S.rel
        cases q with
        | p rv t => exact fin (σ' := σ') p ⟨S.same, t, S.nd, S.out⟩ a rv
end
end Fw

set_option Elab.async false
set_option linter.all false
set_option maxRecDepth 100000
set_option maxHeartbeats 4000000
namespace Fw
open PySem PySem.Spec PyProof.Rows L2
section
variable {X : Cx}
theorem op_inS : OpR X (compareOp .In) (rInS false) := by
  intro pins s σ H x y v u Q I rx ry h
  obtain ⟨c, z, h1, h2, q⟩ := h
  exact op_in_sign pins s σ H x y v u Q I rx ry ⟨c, z, h1, h2, by rw [Bool.bne_false] at q; exact q⟩
theorem op_notInS : OpR X (compareOp .NotIn) (rInS true) := by
  intro pins s σ H x y v u Q I rx ry h
  obtain ⟨c, z, h1, h2, q⟩ := h
  exact op_notIn_sign pins s σ H x y v u Q I rx ry ⟨c, z, h1, h2, by rw [Bool.bne_true] at q; exact q⟩
theorem op_inU {fa : Str → Addr} (hu : X.A.units + 65 < cLine) : OpR X (compareOp .In) (rInU ⟨X.K, X.w, fa⟩) := (op_inD hu).or (op_in_seq.or (OpR.or (op_inN (Nat.lt_of_le_of_lt (Nat.add_le_add_left (by decide) _) hu)) op_inS))
theorem op_notInU {fa : Str → Addr} (hu : X.A.units + 65 < cLine) : OpR X (compareOp .NotIn) (rNotInU ⟨X.K, X.w, fa⟩) := (op_notInD hu).or (op_notIn_seq.or (OpR.or (op_notInN (Nat.lt_of_le_of_lt (Nat.add_le_add_left (by decide) _) hu)) op_notInS))
theorem hu65 {A : Around} {k : Nat} (hr : Room k A) : A.units + 65 < cLine := by
  have := hr.un
  omega
end
section
variable {K : KW} {vs0 : List V} {W : WN} {G H G' H' G1 H1 : Hp} {σ : L2.St} {ρ : Rho} {F F1 : List Addr} {Dn : Ends} {C : Nat → Addr}
/-- a < b < c -/
def eChain (g g' : D → D → Res D) (f1 f2 f3 : EF) : EF := fun ρ => (f1 ρ).bind fun x => (f2 ρ).bind fun y => (g x y).bind fun z => match z with
  | .bool true => (f3 ρ).bind fun w => g' y w
  | .bool false => .ok (.bool false)
  | _ => .bad
theorem snd_chain {ta tb tc : TE} {f1 f2 f3 : EF} {r r' : R2} {g g' : D → D → Res D} (hr : RD K r g) (hq : Quiet2 g) (hr' : RD K r' g') (hq' : Quiet2 g') (h1 : Snd K vs0 W ta f1) (h2 : Snd K vs0 W tb f2) (h3 : Snd K vs0 W tc f3) :
    Snd K vs0 W (tChain r r' ta tb tc) (eChain g g' f1 f2 f3) := fun σ G H ρ F Q S p =>
  h1 σ G H ρ F _ S (p.bind.imp (fun d q v G1 H1 n1 d1 => h2 σ G1 H1 ρ F _ (S.new n1) (q.bind.imp (fun e q2 u G2 H2 n2 d2 => by
    have n12 := n1.trans n2
    refine hr G2 H2 v u d e _ n2.inn (rp_lift (n2.same n1.inn) d1) d2 ?_
    cases eg : g d e with
    | bad => rw [eg] at q2; exact q2.elim
    | exc c => exact absurd eg (hq d e c)
    | ok z =>
      rw [eg] at q2
      intro w G3 H3 n3 d3
      cases z with
      | bool b =>
        cases d3
        refine ⟨b, rfl, ?_⟩
        cases b with
        | false =>
          rw [if_neg (by decide)]
          exact q2 _ G3 H3 (n12.trans n3) (.bl false)
        | true =>
          rw [if_pos rfl]
          have q3 : Post ((f3 ρ).bind fun w => g' e w) _ _ := q2
          exact h3 σ G3 H3 ρ F _ ((S.new n12).new n3) (q3.bind.imp (fun e3 q4 u3 G4 H4 n4 d4 => hr' G4 H4 u u3 e e3 Q n4.inn (rp_lift ((n3.trans n4).same n2.inn) d2) d4
            ((post_w (hq' e e3) q4).imp (fun z q5 x G5 H5 n5 d5 => q5 x G5 H5 ((n12.trans n3).trans (n4.trans n5)) d5) fun _ z => z)) fun c q4 G4 H4 n4 => q4 G4 H4 ((n12.trans n3).trans n4))
      | _ => exact q2.elim) fun c q2 G2 H2 n2 => q2 G2 H2 (n1.trans n2))) fun c q => q)
/-- a constant of the module: data that stand in the written part -/
theorem snd_glob {v : V} {d : D} (h : ∀ G, Rp K G v d) : Snd K vs0 W (tC v) (eC d) := snd_c h

/-! ### try: a call; except .. as e: is it just this one? -/
def sTry (n : Nat) (f : SF) (q : Nat → Bool) : SF := fun ρ => match f ρ with
  | .exc c ρ' => if c < 5 ∧ n ≤ ρ'.length then .ret (.p (.bool (q c))) ρ' else .bad
  | .nx ρ' => .nx ρ'
  | _ => .bad
def tTryAs (K : KW) (c : Value) (i : Nat) (tb : WX → TS) (ts : Addr → Value → Option Addr → TS) (Wout : WX) : TS := fun D σ H => tb (wAs K c i ts Wout D) D σ H
theorem snds_try {i n : Nat} {cw : Value} {tb : WX → TS} {fb : SF} {ts : Addr → Value → Option Addr → TS} {Wout : WX} {q : Nat → Bool} (hb : ∀ W : WX, SndS K vs0 (wn C W) (tb W) fb) (hx : ∀ c, c < 5 → PySem.W.exmOne K (.ref (C c)) cw = some true)
    (hts : ∀ c, c < 5 → ∀ (a : Addr) (Dn : Ends) (σ : L2.St) (H : Hp), n ≤ σ.length → σ[i]? = some (some (.ref a)) → Dn.rt (.bl (q c)) H → ts a (.ref (C c)) none Dn σ H) (hi : i < n) :
    SndS K vs0 W (fun D σ H => tb (wAs K cw i ts Wout D) D σ H) (sTry n fb q) := fun σ G H ρ F Dn S p => by
  refine hb _ σ G H ρ F Dn S ?_
  unfold sTry at p
  cases e : fb ρ with
  | nx ρ' => rw [e] at p; exact p
  | exc c ρ' =>
    rw [e] at p
    have p' : PostS K vs0 W Dn F G H (if c < 5 ∧ n ≤ ρ'.length then .ret (.p (.bool (q c))) ρ' else .bad) := p
    by_cases hc : c < 5 ∧ n ≤ ρ'.length
    · rw [if_pos hc] at p'
      intro σ' G' H' F' S' a
      refine ⟨true, hx c hc.1, fun _ x hx => ?_, fun z => by cases z⟩
      have hl : n ≤ σ'.length := by
        rw [S'.rel.len]
        exact hc.2
      refine hts c hc.1 x _ _ _ (by rw [List.length_set]; exact hl) (by rw [List.getElem?_set_self (by omega)]) (p' (.bl (q c)) σ' G' H' F' ⟨S'.same, .p (.bl _) S'.rel, S'.nd, S'.out⟩ a)
    · rw [if_neg hc] at p'
      exact p'.elim
  | _ => rw [e] at p; exact p.elim
/-- isinstance(e, C) for the caught one -/
abbrev tIsE (K : KW) (D a : Addr) (i : Nat) (c : V) : TE := tCB (rIsE K D a) (tCons (tVar i) (tCons (tC c) tNil))
theorem isE {D a : Addr} {i : Nat} {c : V} {cv : Value} {b : Bool} {Q : VK} (hs : σ[i]? = some (some (.ref a))) (hc : ∀ u, RelV c u → u = cv) (k : PySem.W.kitOne K (.ref D) cv = some b) (q : Q (.bl b) H) : tIsE K D a i c σ H Q := ⟨_, hs, c, cv, b, rfl, hc, k, q⟩
theorem orV {ta tb : TE} {a b : Bool} {Q : VK} (ha : ∀ Q : VK, Q (.bl a) H → ta σ H Q) (hb : ∀ Q : VK, Q (.bl b) H → tb σ H Q) (q : Q (.bl (a || b)) H) : tOrV ta tb σ H Q := by
  refine ha _ ⟨a, rfl, ?_⟩
  cases a with
  | true => exact q
  | false =>
    rw [if_neg (by decide)]
    exact hb Q q
theorem andV {ta tb : TE} {a b : Bool} {Q : VK} (ha : ∀ Q : VK, Q (.bl a) H → ta σ H Q) (hb : ∀ Q : VK, Q (.bl b) H → tb σ H Q) (q : Q (.bl (a && b)) H) : tAndV ta tb σ H Q := by
  refine ha _ ⟨a, rfl, ?_⟩
  cases a with
  | false => exact q
  | true =>
    rw [if_pos rfl]
    exact hb Q q
/-- other = isinstance(e, A) or isinstance(e, B); other = other or isinstance(e, C) or isinstance(e, D); return isinstance(e, X) and isinstance(e, ValueError) and not other -/
abbrev tSuite (K : KW) (D a : Addr) (i j : Nat) (cA cB cC cD cX cV : V) : TS :=
  tSeq (tAsg (tOrV (tIsE K D a i cA) (tIsE K D a i cB)) (gName j)) (tSeq (tAsg (tOrV (tVar j) (tOrV (tIsE K D a i cC) (tIsE K D a i cD))) (gName j)) (tRet (tAndV (tIsE K D a i cX) (tAndV (tIsE K D a i cV) (tNotV (tVar j))))))
theorem suite_is {D a : Addr} {i j : Nat} {cA cB cC cD cX cV : V} {vA vB vC vD vX vV : Value} {bA bB bC bD bX bV : Bool} (hij : i ≠ j) (hs : σ[i]? = some (some (.ref a))) (hj : j < σ.length)
    (hA : ∀ u, RelV cA u → u = vA) (hB : ∀ u, RelV cB u → u = vB) (hC : ∀ u, RelV cC u → u = vC) (hD : ∀ u, RelV cD u → u = vD) (hX : ∀ u, RelV cX u → u = vX) (hV : ∀ u, RelV cV u → u = vV)
    (kA : PySem.W.kitOne K (.ref D) vA = some bA) (kB : PySem.W.kitOne K (.ref D) vB = some bB) (kC : PySem.W.kitOne K (.ref D) vC = some bC) (kD : PySem.W.kitOne K (.ref D) vD = some bD) (kX : PySem.W.kitOne K (.ref D) vX = some bX) (kV : PySem.W.kitOne K (.ref D) vV = some bV)
    (q : Dn.rt (.bl (bX && (bV && !((bA || bB) || (bC || bD))))) H) : tSuite K D a i j cA cB cC cD cX cV Dn σ H := by
  refine orV (fun Q q => isE hs hA kA q) (fun Q q => isE hs hB kB q) ?_
  have s1 : ∀ {x : Option V}, (σ.set j x)[i]? = some (some (.ref a)) := fun {x} => by
    rw [List.getElem?_set_ne (fun e => hij e.symm)]
    exact hs
  have l1 : j < (σ.set j (some (.bl (bA || bB)))).length := by rw [List.length_set]; exact hj
  change tOrV (tVar j) _ (σ.set j _) H _
  refine orV (b := bC || bD) (fun Q q => ⟨.bl (bA || bB), List.getElem?_set_self hj, q⟩) (fun Q q => orV (fun Q q => isE s1 hC kC q) (fun Q q => isE s1 hD kD q) q) ?_
  have s2 : ∀ {x y : Option V}, ((σ.set j x).set j y)[i]? = some (some (.ref a)) := fun {x y} => by
    rw [List.getElem?_set_ne (fun e => hij e.symm)]
    exact s1
  show (tAndV (tIsE K D a i cX) (tAndV (tIsE K D a i cV) (tNotV (tVar j)))) ((σ.set j (some (V.bl (bA || bB)))).set j (some (V.bl (bA || bB || (bC || bD))))) H Dn.rt
  exact andV (fun Q q => isE s2 hX kX q) (fun Q q => andV (b := !((bA || bB) || (bC || bD))) (fun Q q => isE s2 hV kV q) (fun Q q => ⟨_, List.getElem?_set_self l1, _, rfl, q⟩) q) q
end
end Fw

set_option Elab.async false
set_option linter.all false
set_option maxRecDepth 100000
set_option maxHeartbeats 4000000
namespace Fw
open PySem PySem.Spec PyProof.Rows L2
/-! ### the head's facts: those of the layer, and a Bool more -/
abbrev AlF : Type := Bool × List He.FnV
def obsF (fa : List He.Fa) (fn : List He.FnD) (ex : PySem.W.Frag → Bool) (K : PySem.W.Frag) : AlF := ((ex K && fa.all fun f => f.ok K) && fn.all fun d => (He.Fa.code d.at_ d.qual).ok K, fn.map fun d => He.fnObs K d.at_)
def valF (fn : List He.FnD) : AlF := (true, fn.map He.FnD.val)
def SaysF (fa : List He.Fa) (fn : List He.FnD) (ex : PySem.W.Frag → Bool) (K : PySem.W.Frag) : Prop := obsF fa fn ex K = valF fn
def obsFG (n : Nat) (fa : List He.Fa) (fn : List He.FnD) (ex : PySem.W.Frag → Bool) (g : Addr → Option Obj) : AlF := obsF fa fn ex (He.frG g (He.asG g n))
def hookF (n : Nat) (fa : List He.Fa) (fn : List He.FnD) (ex : PySem.W.Frag → Bool) : PySem.W.Hook where
  α := AlF
  obs := fun s => obsFG n fa fn ex s.heap.get?
  val := fun _ => valF fn
  says := fun _ h => ∃ K : PySem.W.Frag, K.In h ∧ SaysF fa fn ex K
  of := fun _ _ e => ⟨_, He.frG_in, e⟩
  keeps := fun _ _ _ ⟨K, hK, c⟩ k => ⟨K, PySem.W.Frag.In.keeps hK k, c⟩
theorem obsFG_eq {n : Nat} {fa : List He.Fa} {fn : List He.FnD} {ex : PySem.W.Frag → Bool} {g : Addr → Option Obj} {s : Shared} (h : ∀ a, g a = s.heap.get? a) : obsFG n fa fn ex g = (hookF n fa fn ex).obs s := by
  have e : g = s.heap.get? := funext h
  rw [e] <;> rfl
section
variable {fa : List He.Fa} {fn : List He.FnD} {ex : PySem.W.Frag → Bool} {K : PySem.W.Frag}
theorem SaysF.three (c : SaysF fa fn ex K) : (ex K = true ∧ (fa.all fun f => f.ok K) = true) ∧ (fn.all fun d => (He.Fa.code d.at_ d.qual).ok K) = true := by
  have c1 : ((ex K && fa.all fun f => f.ok K) && fn.all fun d => (He.Fa.code d.at_ d.qual).ok K) = true := congrArg (fun z : AlF => z.1) c
  have c2 := He.ba c1
  exact ⟨He.ba c2.1, c2.2⟩
theorem SaysF.more (c : SaysF fa fn ex K) : ex K = true := c.three.1.1
theorem SaysF.fact (c : SaysF fa fn ex K) (i : Nat) {f : He.Fa} (h : fa[i]? = some f := by rfl) : f.ok K = true := List.all_eq_true.mp c.three.1.2 f (List.mem_of_getElem? h)
theorem SaysF.def_ (c : SaysF fa fn ex K) (i : Nat) {st : Stmt} {x : Str} (h : fn[i]? = some ⟨(x, none), x, x, defArgs st, defBody st, defScope st⟩) (k : PySem.W.keepIn K (.ref (He.ga K x)) = true) : ∃ fd, Fun K x x st (He.ga K x) fd := by
  have e : fn.map (fun d => He.fnObs K d.at_) = fn.map He.FnD.val := congrArg (fun z : AlF => z.2) c
  have e2 : (fn.map fun d => He.fnObs K d.at_)[i]? = (fn.map He.FnD.val)[i]? := by rw [e]
  rw [List.getElem?_map, List.getElem?_map, h] at e2
  obtain ⟨oc, od, osl, kV, doc, pm, an, cdv, ct, l, cd⟩ := He.fn_ok (Option.some.inj e2) (List.all_eq_true.mp c.three.2 _ (List.mem_of_getElem? h))
  exact ⟨_, fun_mk (st := st) l cd k⟩
end
/-! ### what the classes say -/
def excB (K : PySem.W.Frag) (D : Addr) : Bool :=
  decide (PySem.W.findIn K (.ref D) "__getattribute__" = some (some (.builtin "BaseException.__getattribute__"))) && (decide (PySem.W.findIn K (.ref D) "__getattr__" = some none) && (decide (PySem.W.subIn K (.ref D) (.type "BaseException") = some true) && (PySem.W.hasDictIn K D &&
  (decide (PySem.W.findIn K (.ref D) "__class__" = some (some (.builtin "object.__class__"))) && (decide (PySem.W.specialIn K (.builtin "object.__class__") "__get__" = some (some (.builtin "getset_descriptor.__get__"))) && (decide (PySem.W.takesIn K (.builtin "object.__class__") = some true) &&
  decide (PySem.W.mroIn K D (.type "object") = some true)))))))
theorem excB_ok {K : PySem.W.Frag} {D : Addr} (h : excB K D = true) : ExcC K D := by
  unfold excB at h
  simp only [Bool.and_eq_true, decide_eq_true_eq] at h
  obtain ⟨h1, h2, h3, h4, h5, h6, h7, h8⟩ := h
  exact ⟨h1, h2, h3, h4, h5, h6, h7, h8⟩
def eNm : Nat → Str
  | 0 => "BadWeb"
  | 1 => "NoMove"
  | 2 => "NotOver"
  | 3 => "NoPlace"
  | _ => "NoText"
def eC5 (K : PySem.W.Frag) (c : Nat) : Addr := He.ga K (eNm c)
def kitB1 (K : PySem.W.Frag) (c x : Nat) : Bool := decide (PySem.W.kitOne K (.ref (eC5 K c)) (.ref (eC5 K x)) = some (c == x))
def clsB (K : PySem.W.Frag) (c : Nat) : Bool := excB K (eC5 K c) && (((List.range 5).all fun x => kitB1 K c x) && (decide (PySem.W.kitOne K (.ref (eC5 K c)) (.type "ValueError") = some true) && decide (PySem.W.exmOne K (.ref (eC5 K c)) (.ref (He.ga K "WebError")) = some true)))
def allB (K : PySem.W.Frag) : Bool := (List.range 5).all fun c => clsB K c
structure ErrT (K : PySem.W.Frag) : Prop where
  ec : ∀ c, c < 5 → ExcC K (eC5 K c)
  kit : ∀ c, c < 5 → ∀ x, x < 5 → PySem.W.kitOne K (.ref (eC5 K c)) (.ref (eC5 K x)) = some (c == x)
  kitV : ∀ c, c < 5 → PySem.W.kitOne K (.ref (eC5 K c)) (.type "ValueError") = some true
  exm : ∀ c, c < 5 → PySem.W.exmOne K (.ref (eC5 K c)) (.ref (He.ga K "WebError")) = some true
theorem allB_ok {K : PySem.W.Frag} (h : allB K = true) : ErrT K := by
  have one : ∀ c, c < 5 → clsB K c = true := fun c hc => List.all_eq_true.mp h c (List.mem_range.mpr hc)
  refine ⟨fun c hc => ?_, fun c hc x hx => ?_, fun c hc => ?_, fun c hc => ?_⟩
  · exact excB_ok (He.ba (one c hc)).1
  · exact of_decide_eq_true (List.all_eq_true.mp (He.ba (He.ba (one c hc)).2).1 x (List.mem_range.mpr hx))
  · exact of_decide_eq_true (He.ba (He.ba (He.ba (one c hc)).2).2).1
  · exact of_decide_eq_true (He.ba (He.ba (He.ba (one c hc)).2).2).2
/-- what is needed to raise the class c -/
structure RaiseT (K : PySem.W.Frag) (c : Nat) : Prop where
  x : PySem.W.excIn K (eC5 K c) He.veBase "ValueError.__new__" = true
  k : PySem.W.keepIn K (.ref (eC5 K c)) = true
  b : PySem.W.subIn K (.ref (eC5 K c)) (.type "BaseException") = some true
  t : PySem.W.typeIn K (.ref (eC5 K c)) = some (.type "type")
/-- a module's name that stands for a tuple of texts and ints -/
def tupB (K : PySem.W.Frag) (x : Str) (vs : List V) : Bool := (match PySem.W.nsIn K mainGlobals x with
  | some (some (.ref a)) => (match K.lookup a with
    | some ⟨.type "tuple", _, .seq its _, _⟩ => decide (its.size ≤ 1000) && relB5 vs its.toList
    | _ => false)
  | _ => false)
where
  relB5 : List V → List Value → Bool
    | [], [] => true
    | .str x :: vs, .str y _ :: us => decide (x = y) && relB5 vs us
    | .int x :: vs, .int y _ :: us => decide (x = y) && relB5 vs us
    | _, _ => false
theorem relB5_ok : ∀ {vs : List V} {us : List Value}, tupB.relB5 vs us = true → Vals vs us
  | [], [], _ => .nil
  | .str x :: vs, .str y t :: us, h => by
    obtain ⟨h1, h2⟩ := He.ba (show (decide (x = y) && tupB.relB5 vs us) = true from h)
    exact .cons ⟨t, by rw [of_decide_eq_true h1]⟩ (relB5_ok h2)
  | .int x :: vs, .int y t :: us, h => by
    obtain ⟨h1, h2⟩ := He.ba (show (decide (x = y) && tupB.relB5 vs us) = true from h)
    exact .cons ⟨t, by rw [of_decide_eq_true h1]⟩ (relB5_ok h2)
theorem tupB_ok {K : PySem.W.Frag} {h : Heap} {mg : Str → Option Value} (X : K.In h) (G : h.Ns mainGlobals mg) {x : Str} {vs : List V} (c : tupB K x vs = true) : mg x = some (.ref (He.ga K x)) ∧ ∀ G : Hp, SqT K G (He.ga K x) vs := by
  unfold tupB at c
  split at c
  · rename_i a e
    have eg : He.ga K x = a := by
      unfold He.ga
      rw [e]
    split at c
    · rename_i dd its n sl hl
      obtain ⟨c1, c2⟩ := He.ba c
      refine ⟨by rw [eg]; exact PySem.W.mg_of X G e, fun G => .inr ⟨_, its, n, by rw [eg]; exact hl, rfl, rfl, Nat.le_trans (of_decide_eq_true c1) (by decide), relB5_ok c2⟩⟩
    · cases c
  · cases c
/-! ### try .. except WebError as e -/
section
variable {X : Cx}
theorem pss_ex {α : Type} {st : List Stmt} {P : α → Prop} {t : α → TS} (h : ∀ d, P d → PSs X st (t d)) : PSs X st (fun Dn σ H => ∃ d, P d ∧ t d Dn σ H) := ⟨fun pins s σ H Dn I ⟨d, hp, q⟩ => (h d hp).run pins s σ H Dn I q⟩
end
/-- the suite's reading, whatever was caught -/
def tSu (K : KW) (i j : Nat) (cA cB cC cD cX cV : V) : Addr → Value → Option Addr → TS := fun a cls d Dn σ H => ∃ D : Addr, (cls = .ref D ∧ d = none ∧ ∃ c, c < 5 ∧ D = eC5 K c) ∧ tSuite K D a i j cA cB cC cD cX cV Dn σ H
/-! ### the end, the script's bits told, K by the head's facts -/
theorem walk_ofEB {l : PySem.W.OpenLaw} {n k : Nat} {q : Program} {loose : List Str} {XP : (Str → Option Value) → Heap → Prop} {YP : World → Heap → Prop} {d : DefRec} {CX : World → CXT} {x : Str}
    (hn : l.most = some n) (hn2 : n ≤ sizeLine) (hdf : d.params.defaults = []) (hr : Room k callerA)
    (F : ∀ (w : World) (mg : Str → Option Value) (fa : Addr) (h : Heap), YP w h → h.Ns mainGlobals mg → mg d.name = some (.ref fa) →
      ∃ (K : PySem.W.Frag) (fd : FuncData) (sp : Sp), K.In h ∧ (∀ (s : Shared) (u : Value), BindsTo s fd ⟨[u], []⟩ [(x, u)]) ∧
        (∀ (H : Hp) (a : Addr) (ns : List Int), ns.length ≤ n → (∀ z ∈ ns, Builtin.Int.intBits z ≤ 1048576) → SqL K H a (ns.map V.int) → sp [.ref a] H (fun v _ => v = .bl true) fun _ _ _ => False) ∧
        ∀ base : Heap, K.In base → base.Ns mainGlobals mg → FnOk l.prog w K mg base (CX w) k fa fd [x] sp)
    (hCX : ∀ (w : World) (H : Hp) (s : Shared) (e : Value) (s' : Shared), CX w [] H s (fun _ _ _ => False) e s' → False) :
    PySem.W.WalkO q loose XP YP l.row.toRowW d [] (fun f vs => PySem.call f vs) := by
  refine Att.attach_callB hn hdf fun w s₀ s₁ mg mb fa o pm cd doc a vs ns G Y ho hd hcd hmg hobj hints hlen hbits hg => ?_
  obtain ⟨K, fd, sp, KX, hb, hsp, hF⟩ := F w mg fa _ Y G.T.g hmg
  exact law_call KX G.T.g G.T.b G.T.builtins G.T.nolimit hg hobj hints (Nat.le_trans hlen hn2) hr hF hb (fun H _ hS => hsp H a ns hlen hbits hS) fun H e s' => hCX w H s₁ e s'
theorem spP_of_spO {K : KW} {C : Nat → Addr} {b : Bool} {f : List D → Res D} (vs : List V) (H : Hp) (Q : VK) (E : XK) (h : spP K C f vs H Q E) : spO K C b f vs H Q E := by
  obtain ⟨G, ds, s, r, p⟩ := h
  exact ⟨G, ds, s, r, p.imp (fun d q v F' G' H' l o => let ⟨G2, n, r2⟩ := l.dp s (on_ow o); q v G2 H' n r2) fun _ q => q⟩
end Fw

set_option Elab.async false
set_option linter.all false
set_option maxRecDepth 100000
set_option maxHeartbeats 4000000
namespace Fw
open PySem PySem.Spec PyProof.Rows L2
section
variable {P : Program} {K : KW} {mg : Str → Option Value} {base : Heap} {x qual : Str} {st : Stmt} {f : Addr} {fd : FuncData} {N ps : List Str} {k NN nn : Nat} {C : Nat → Addr} {b : SF} {kb : Bool}
/-- a def's body: its rules, and what it reckons -/
def BodyN (P : Program) (w : World) (K : KW) (mg : Str → Option Value) (base : Heap) (N : List Str) (qual : Str) (st : Stmt) (f : Addr) (k : Nat) (b : SF) : Prop :=
  ∃ t : TS, (∀ (cdv : Value) (A : Around) (outer : List Env) (s : Shared) (H : Hp) (E : XK), Room k (A.deeper (envOfC qual (defScope st) s.heap.objs.size f cdv)) → PSs (cxOf CX0 P w K mg base N qual (defScope st) f cdv A outer s H E).nox (defBody st) t) ∧
    ∀ vs, SndS K vs W0 t b
def BodyX (P : Program) (w : World) (K : KW) (mg : Str → Option Value) (base : Heap) (C : Nat → Addr) (N : List Str) (qual : Str) (st : Stmt) (f : Addr) (k : Nat) (b : SF) : Prop :=
  ∃ t : XK → TS, (∀ (cdv : Value) (A : Around) (outer : List Env) (s : Shared) (H : Hp) (E : XK), Room k (A.deeper (envOfC qual (defScope st) s.heap.objs.size f cdv)) → Takes (cxOf (L2.CX P w) P w K mg base N qual (defScope st) f cdv A outer s H E) (xW E) →
      PSs (cxOf (L2.CX P w) P w K mg base N qual (defScope st) f cdv A outer s H E) (defBody st) (t E)) ∧
    ∀ vs E, SndS K vs (wn C (xW E)) (t E) b
theorem mk_P {F : List D → Res D} (Fu : Fun K x qual st f fd) (S : FnScope N ps (defScope st)) (hN : N.length = NN) (hn : ps.length = nn) (h : BodyN P K.w K mg base N qual st f k b) (hF : F = fun ds => noExc (fnP b NN nn ds)) : FnOk P K.w K mg base CX0 (k + 1) f fd ps (spP K C F) := by
  obtain ⟨t, h1, h2⟩ := h
  subst hN hn hF
  exact fn_P Fu S h1 h2
theorem mk_O {F : List D → Res D} (Fu : Fun K x qual st f fd) (S : FnScope N ps (defScope st)) (hN : N.length = NN) (hn : ps.length = nn) (h : BodyN P K.w K mg base N qual st f k b) (hF : F = fun ds => noExc (fnO b kb NN nn ds)) : FnOk P K.w K mg base CX0 (k + 1) f fd ps (spO K C kb F) := by
  obtain ⟨t, h1, h2⟩ := h
  subst hN hn hF
  exact fn_O Fu S h1 h2
theorem mk_M {F : List D → Bool → D → List D → Res (D × D)} (Fu : Fun K x qual st f fd) (S : FnScope N ps (defScope st)) (hN : N.length = NN) (hn : ps.length = nn) (h : BodyN P K.w K mg base N qual st f k b) (hF : F = fnM b NN nn) : FnOk P K.w K mg base CX0 (k + 1) f fd ps (spM K F) := by
  obtain ⟨t, h1, h2⟩ := h
  subst hN hn hF
  exact fn_M Fu S h1 h2
theorem takesX {N : List Str} {qual : Str} {sc : Scope} {f : Addr} {cdv : Value} {A : Around} {outer : List Env} {s : Shared} {H : Hp} {E : XK} : Takes (cxOf (L2.CX P K.w) P K.w K mg base N qual sc f cdv A outer s H E) (xW E) := takes_of rfl rfl rfl rfl
theorem mk_PX {F : List D → Res D} (Fu : Fun K x qual st f fd) (S : FnScope N ps (defScope st)) (hN : N.length = NN) (hn : ps.length = nn) (h : BodyX P K.w K mg base C N qual st f k b) (hF : F = fnP b NN nn) : FnOk P K.w K mg base (L2.CX P K.w) (k + 1) f fd ps (spP K C F) := by
  obtain ⟨t, h1, h2⟩ := h
  subst hN hn hF
  exact fn_PX Fu S (fun cdv A outer s H E hr => h1 cdv A outer s H E hr takesX) h2
theorem mk_OX {F : List D → Res D} (Fu : Fun K x qual st f fd) (S : FnScope N ps (defScope st)) (hN : N.length = NN) (hn : ps.length = nn) (h : BodyX P K.w K mg base C N qual st f k b) (hF : F = fnO b kb NN nn) : FnOk P K.w K mg base (L2.CX P K.w) (k + 1) f fd ps (spO K C kb F) := by
  obtain ⟨t, h1, h2⟩ := h
  subst hN hn hF
  exact fn_OX Fu S (fun cdv A outer s H E hr => h1 cdv A outer s H E hr takesX) h2
end
end Fw

set_option Elab.async false
set_option linter.all false
set_option maxRecDepth 100000
set_option maxHeartbeats 4000000
namespace Fw
open PySem PySem.Spec PyProof.Rows L2
theorem kb_NoneType_int : kitB "NoneType" "int" = some false := by decide +kernel
theorem kb_NoneType_bool : kitB "NoneType" "bool" = some false := by decide +kernel
theorem kb_NoneType_str : kitB "NoneType" "str" = some false := by decide +kernel
theorem kb_NoneType_list : kitB "NoneType" "list" = some false := by decide +kernel
theorem kb_NoneType_tuple : kitB "NoneType" "tuple" = some false := by decide +kernel
theorem kb_bool_int : kitB "bool" "int" = some true := by decide +kernel
theorem kb_bool_bool : kitB "bool" "bool" = some true := by decide +kernel
theorem kb_bool_str : kitB "bool" "str" = some false := by decide +kernel
theorem kb_bool_list : kitB "bool" "list" = some false := by decide +kernel
theorem kb_bool_tuple : kitB "bool" "tuple" = some false := by decide +kernel
theorem kb_int_int : kitB "int" "int" = some true := by decide +kernel
theorem kb_int_bool : kitB "int" "bool" = some false := by decide +kernel
theorem kb_int_str : kitB "int" "str" = some false := by decide +kernel
theorem kb_int_list : kitB "int" "list" = some false := by decide +kernel
theorem kb_int_tuple : kitB "int" "tuple" = some false := by decide +kernel
theorem kb_str_int : kitB "str" "int" = some false := by decide +kernel
theorem kb_str_bool : kitB "str" "bool" = some false := by decide +kernel
theorem kb_str_str : kitB "str" "str" = some true := by decide +kernel
theorem kb_str_list : kitB "str" "list" = some false := by decide +kernel
theorem kb_str_tuple : kitB "str" "tuple" = some false := by decide +kernel
theorem kb_list_int : kitB "list" "int" = some false := by decide +kernel
theorem kb_list_bool : kitB "list" "bool" = some false := by decide +kernel
theorem kb_list_str : kitB "list" "str" = some false := by decide +kernel
theorem kb_list_list : kitB "list" "list" = some true := by decide +kernel
theorem kb_list_tuple : kitB "list" "tuple" = some false := by decide +kernel
theorem kb_tuple_int : kitB "tuple" "int" = some false := by decide +kernel
theorem kb_tuple_bool : kitB "tuple" "bool" = some false := by decide +kernel
theorem kb_tuple_str : kitB "tuple" "str" = some false := by decide +kernel
theorem kb_tuple_list : kitB "tuple" "list" = some false := by decide +kernel
theorem kb_tuple_tuple : kitB "tuple" "tuple" = some true := by decide +kernel
theorem kb_dict_int : kitB "dict" "int" = some false := by decide +kernel
theorem kb_dict_bool : kitB "dict" "bool" = some false := by decide +kernel
theorem kb_dict_str : kitB "dict" "str" = some false := by decide +kernel
theorem kb_dict_list : kitB "dict" "list" = some false := by decide +kernel
theorem kb_dict_tuple : kitB "dict" "tuple" = some false := by decide +kernel
theorem ok_bind {α β : Type} (a : α) (f : α → Res β) : (Res.ok a).bind f = f a := rfl
theorem bad_bind {α β : Type} (f : α → Res β) : (Res.bad : Res α).bind f = .bad := rfl
theorem exc_bind {α β : Type} (c : Nat) (f : α → Res β) : (Res.exc c : Res α).bind f = .exc c := rfl
theorem rOut_ok {α : Type} (a : α) (ρ : Rho) (k : α → Out) : rOut (.ok a) ρ k = k a := rfl
theorem rOut_exc {α : Type} (c : Nat) (ρ : Rho) (k : α → Out) : rOut (.exc c) ρ k = .exc c ρ := rfl
theorem noExc_ok1 {α : Type} (a : α) : noExc (.ok a) = .ok a := rfl
theorem ofOpt_some {α : Type} (a : α) : ofOpt (some a) = .ok a := rfl
end Fw

set_option Elab.async false
set_option linter.all false
set_option maxRecDepth 100000
set_option maxHeartbeats 4000000
namespace Fw
open PySem PySem.Spec PyProof.Rows L2
/-! ### {k: v for ..}, told by any object that each turn lays a pair into -/
section
variable {X : Cx}
/-- what a kind of dict asks: it begins empty, and a turn's pair goes in -/
structure Lays (X : Cx) where
  nil : Addr → HO
  empty : ∀ (H : Hp) (h : Heap), sysModules < h.objs.size → ObjOk X.prog X.w H (h.push { cls := .type "dict", data := .dict #[] }) h.objs.size (nil h.objs.size)
  put : Addr → V → V → Hp → (Hp → Prop) → Prop
  goes : ∀ {Y : Cx} {pins : List (Addr × Obj)} {σ : L2.St} {H : Hp} {s : Shared} {E : Value → Shared → Prop} {D : Addr} {y z : V} {u r : Value} {Nx : Hp → Prop} {Q : Unit → Shared → Prop}, Y.prog = X.prog → Y.w = X.w → Y.K = X.K → Y.A = X.A →
    Inv Y pins σ H s → put D y z H Nx → RelV y u → RelV z r → (∀ H' s', Inv Y pins σ H' s' → Nx H' → Q () s') → wpAny (model Y.prog Y.w) Y.A (dictSet D u r) Q E s
def tDcL (L : Lays X) (wi : TI) (g : TG) (tt : TT) (tk tv : TE) (vs : List Nat) : TE := fun σ H Q => wi σ H fun J H1 => ∀ D, H1 D = none → ∃ W : Nat → Nat → Hp → Prop, (∃ m, W 0 m (upd H1 D (L.nil D))) ∧ ∀ i m H, W i m H →
  (J.stop i H ∧ Q (.ref D) H) ∨ (J.go i H ∧ ∃ Nx : Hp → Prop, (∀ H', Nx H' → ∃ m', m' < m ∧ W (i + 1) m' H') ∧ ∀ x H', J.yld i H x H' → g x (wipe σ vs) H' fun σ2 H2 => wipe σ2 vs = wipe σ vs ∧ tt σ2 H2 fun b H3 =>
    if b = true then tk σ2 H3 fun y H4 => tv σ2 H4 fun z H5 => L.put D y z H5 Nx else Nx H3)
/-- a block's own context, whatever it begins with -/
abbrev Blk (X : Cx) (P : Cx → Prop) (scope : Scope) : Prop := ∀ (s : Shared) (H : Hp) (C : Addr) (cl : List (Str × Addr)) (fp : List Addr), P (X.blk s H scope (compEnvC scope cl C X.env) fp)
theorem dcL_core (L : Lays X) {kx vx tg iter : Expr} {ifs : List Expr} {scope : Scope} {own : List (Str × Nat)} {pos pos' : Pos} {wi : TI} {g : TG} {tt : TT} {tk tv : TE} {pins : List (Addr × Obj)} {s0 : Shared} {σ : L2.St} {H0 : Hp} {Q : VK} {use : Option (Value → Sem Unit)} {Qf : Value → Shared → Prop}
    (calm : X.calm = true) (nd : X.N.Nodup) (I0 : Inv X pins σ H0 s0) (hi : PI X tg iter wi) (blk : BlkOk X.N X.env.scope scope own)
    (hg : Blk X (fun Y => PG Y tg g) scope) (ht : Blk X (fun Y => PTs Y ifs tt) scope) (hk : Blk X (fun Y => PE Y kx tk) scope) (he : Blk X (fun Y => PE Y vx tv) scope) (hs : ∀ x, foldedSetIterable iter X.env x = pure x)
    (want : tDcL L wi g tt tk tv (own.map (·.2)) σ H0 Q)
    (told : ∀ D C z m G, Inv X pins σ G z → Q (.ref D) G → z.heap.Ns C m → FpOk X pins G C → compPost (model X.prog X.w) X.A X.xe use Qf (.ref D) C (.ok .next) z) :
    wpAny (model X.prog X.w) X.A (comprehension (.DictComp kx vx [⟨tg, iter, ifs, 0⟩] scope pos) scope X.env pos' newDict false (eval iter X.env) use) Qf X.xe s0 := by
  have open_ : ∀ y ∈ scope.names, y.2 = .free → ∃ c, X.env.cells.lookup y.1 = some c := fun y hy e => (blk.free y hy e).elim (fun k => I0.ok.has _ (.inl k)) fun k => I0.ok.has _ (.inr k)
  refine wpAny_comprehension_free (use := use) rfl hs (closure_ok open_) blk.kind (fun y hy e => by rw [blk.uniq y hy, e]) (thn (hi.run pins s0 σ H0 _ I0 want) fun src sa ha => thn ha fun walker sb hb => ?_)
  obtain ⟨it, fp, tn, J, Hb, rfl, Ib, T, stb, fb, turns⟩ := hb
  refine wpAny_newObj_type (newEnv_comp ?_)
  -- the dict, laid
  generalize hD : sb.heap.objs.size = D
  obtain ⟨W, ⟨m0, w0⟩, turn⟩ := turns D (Ib.hok.fresh (Nat.le_of_eq hD))
  generalize hsc : ({ sb with heap := sb.heap.push { cls := .type "dict", data := .dict #[] } } : Shared) = sc
  have hc : sc.heap = sb.heap.push { cls := .type "dict", data := .dict #[] } := by rw [← hsc]
  have Ic : Inv X pins σ (upd Hb D (L.nil D)) sc := by
    rw [← hsc, ← hD]
    exact Ib.laid (t' := sb.toks) (fun _ _ e => Heap.get?_push_of_some _ e) (Nat.le_refl _) (L.empty _ sb.heap Ib.big)
  have away : ∀ b ∈ fp, FpOk X pins (upd Hb D (L.nil D)) b ∧ b < sc.heap.objs.size := fun b hb => by
    obtain ⟨o, e, _⟩ := T.obj _ _ stb b hb
    have lt := Heap.lt_size e
    refine ⟨⟨?_, (fb b hb).2⟩, by rw [hc, Heap.size_push]; exact Nat.lt_succ_of_lt lt⟩
    rw [upd_ne (Nat.ne_of_lt (by rw [← hD]; exact lt))]
    exact (fb b hb).1
  have stc : tn 0 sc.heap := T.keep _ _ _ stb fun b _ o e => by rw [hc]; exact Heap.get?_push_of_some _ e
  have Id := block_start Ic blk nd away
  generalize hHc : upd Hb D (L.nil D) = Hc at Ic Id away w0
  have pg := hg sc Hc sc.heap.objs.size (cellsFrom (sc.heap.objs.size + 1) scope.names (cloFrom X.env.cells scope.names [])) fp
  have pt := ht sc Hc sc.heap.objs.size (cellsFrom (sc.heap.objs.size + 1) scope.names (cloFrom X.env.cells scope.names [])) fp
  have pk := hk sc Hc sc.heap.objs.size (cellsFrom (sc.heap.objs.size + 1) scope.names (cloFrom X.env.cells scope.names [])) fp
  have pv := he sc Hc sc.heap.objs.size (cellsFrom (sc.heap.objs.size + 1) scope.names (cloFrom X.env.cells scope.names [])) fp
  show codeAny _ _ (.compStart (.DictComp kx vx [⟨tg, iter, ifs, 0⟩] scope pos) 0 (.ref it) (.ref D) (compEnvC scope (cellsFrom (sc.heap.objs.size + 1) scope.names (cloFrom X.env.cells scope.names [])) sc.heap.objs.size X.env)) (compPost (model X.prog X.w) X.A X.xe use Qf (.ref D) sc.heap.objs.size) _
  generalize hce : compEnvC scope (cellsFrom (sc.heap.objs.size + 1) scope.names (cloFrom X.env.cells scope.names [])) sc.heap.objs.size X.env = ce at Id pg pt pk pv ⊢
  have cl : ce.locals = sc.heap.objs.size := by rw [← hce]; rfl
  generalize hsd : ({ sc with heap := pushCells (sc.heap.push { cls := .type "dict", data := .dict #[] }) scope.names } : Shared) = sd at Id ⊢
  have std : tn 0 sd.heap := T.keep _ _ _ stc fun b _ o e => by rw [← hsd]; exact pushCells_keeps _ _ _ _ (Heap.get?_push_of_some _ e)
  have out0 : ∀ b ∈ fp, Hc b = none := fun b hb => (away b hb).1.1
  have held : ∀ {τ : L2.St} {G : Hp} {z : Shared}, Inv (X.blk sc Hc scope ce fp) [] τ G z → (∀ b ∈ fp, G b = none) → ∀ b ∈ fp, FpOk (X.blk sc Hc scope ce fp) [] G b := fun {τ G z} J' n b hb =>
    ⟨n b hb, (J'.ok.exf b hb).1, J'.ok.exfs b hb, .inl hb, fun x c e => (J'.ok.exf b hb).2 x c e, fun p hp => absurd (show p ∈ ([] : List (Addr × Obj)) ++ [] from hp) (by simp)⟩
  suffices walk : codeAny (model X.prog X.w) X.A (.compLoop (.DictComp kx vx [⟨tg, iter, ifs, 0⟩] scope pos) 0 (.ref it) (.ref D) ce) (compPost (model X.prog X.w) X.A X.xe use Qf (.ref D) sc.heap.objs.size) sd from
    codeAny_compStart_dict walk (T.self X.A 0 _ _ _ std walk)
  refine compLoop_anyD (fun n z => ∃ i G, Inv (X.blk sc Hc scope ce fp) [] (wipe σ (own.map (·.2))) G z ∧ tn i z.heap ∧ (∀ b ∈ fp, G b = none) ∧ W i n G) ?_ m0 ⟨0, Hc, Id, std, out0, w0⟩
  rintro n z ⟨i, G, Iz, stz, oz, wz⟩
  rcases turn i n G wz with ⟨stop, q⟩ | ⟨go, Nx, down, step⟩
  · refine thnF (T.done (X.blk sc Hc scope ce fp) rfl rfl rfl calm i [] z _ G (fun _ _ => False) Iz (held Iz oz) stz stop) fun r z1 ⟨hr, I1⟩ => ?_
    subst hr
    have I2 : Inv X pins σ G z1 := Ic.call' (ch := fp) I1.os I1.base I1.hok I1.bare fun b hb => by
      obtain ⟨⟨_, h2, h3, h4, h5⟩, _⟩ := away b hb
      exact ⟨h4, h2, h5⟩
    have nC : G sc.heap.objs.size = none := by
      have v : G ce.locals = none := I1.free
      rwa [cl] at v
    obtain ⟨m, hn, _⟩ := I1.loc
    have hn' : z1.heap.Ns sc.heap.objs.size m := by
      rw [← cl]
      exact hn
    exact told D sc.heap.objs.size z1 m G I2 q hn' (Ic.fpOk (H' := G) (Nat.le_refl _) nC)
  · refine thnF (T.item (X.blk sc Hc scope ce fp) rfl rfl rfl calm i [] z _ G (fun _ _ => False) Iz (held Iz oz) stz go) fun r z1 ⟨u, hr, more⟩ => ?_
    subst hr
    refine thnF more fun _ z2 ⟨x, G2, I2, rx, yx, st2, o2⟩ => ?_
    have Ip := I2.pinned (held I2 o2) (T.obj _ _ st2)
    refine thnF (pg.run _ z2 _ G2 x u _ Ip rx (step x G2 yx)) fun _ z3 ⟨τ, G3, I3, same, q3⟩ => ?_
    refine thnF (pt.run _ z3 τ G3 _ I3 q3) fun b z4 ⟨G4, I4, q4⟩ => ?_
    -- behind the turn
    have behind : ∀ {z' : Shared} {G' : Hp}, Inv (X.blk sc Hc scope ce fp) ([] ++ pinsAt fp z2.heap) τ G' z' → Nx G' → ∃ m, m < n ∧ ∃ i G, Inv (X.blk sc Hc scope ce fp) [] (wipe σ (own.map (·.2))) G z' ∧ tn i z'.heap ∧ (∀ b ∈ fp, G b = none) ∧ W i m G := fun {z' G'} J' nx => by
      obtain ⟨m', lt, w'⟩ := down G' nx
      have kept : ∀ b ∈ fp, ∀ o, z2.heap.get? b = some o → z'.heap.get? b = some o ∧ G' b = none := fun b hb o e => by
        have p := J'.pin (b, o) (List.mem_append_right _ (List.mem_append_right _ (mem_pinsAt hb e)))
        exact ⟨p.1, p.2.1⟩
      have len : (wipe σ (own.map (·.2))).length = τ.length := by rw [← same, wipe_length]
      refine ⟨m', lt, i + 1, G', (J'.unpinned (pins := [])).weak len (fun j v e => ?_), T.keep _ _ _ st2 fun b hb o e => (kept b hb o e).1, fun b hb => ?_, w'⟩
      · rw [← same] at e
        exact (wipe_some e).1
      · obtain ⟨o, e, _⟩ := T.obj _ _ st2 b hb
        exact (kept b hb o e).2
    cases b with
    | false =>
      rw [if_neg (by decide)] at q4
      show (if false = true then _ else _)
      rw [if_neg (by decide)]
      exact behind I4 q4
    | true =>
      rw [if_pos rfl] at q4
      show (if true = true then _ else _)
      rw [if_pos rfl]
      refine thnF (pk.run _ z4 τ G4 _ I4 q4) fun v z5 ⟨y, G5, I5, ry, q5⟩ => ?_
      refine thnF (pv.run _ z5 τ G5 _ I5 q5) fun v2 z6 ⟨y2, G6, I6, ry2, q6⟩ => ?_
      exact L.goes (Y := X.blk sc Hc scope ce fp) rfl rfl rfl rfl I6 q6 ry ry2 fun G7 z7 I7 nx => behind I7 nx
theorem pe_dcL (L : Lays X) {kx vx tg iter : Expr} {ifs : List Expr} {scope : Scope} {own : List (Str × Nat)} {pos : Pos} {wi : TI} {g : TG} {tt : TT} {tk tv : TE} (calm : X.calm = true) (nd : X.N.Nodup) (hi : PI X tg iter wi) (blk : BlkOk X.N X.env.scope scope own)
    (hg : Blk X (fun Y => PG Y tg g) scope) (ht : Blk X (fun Y => PTs Y ifs tt) scope) (hk : Blk X (fun Y => PE Y kx tk) scope) (he : Blk X (fun Y => PE Y vx tv) scope) (hs : ∀ x, foldedSetIterable iter X.env x = pure x := by intro _; rfl) :
    PE X (.DictComp kx vx [⟨tg, iter, ifs, 0⟩] scope pos) (tDcL L wi g tt tk tv (own.map (·.2))) := ⟨fun pins s0 σ H0 Q I0 want => by
  rw [arm_eval_DictComp]
  refine dcL_core L calm nd I0 hi blk hg ht hk he hs want fun D C z m G I2 q hn f => ⟨m, hn, fun h2 but => ?_⟩
  obtain ⟨f0, f1, _, f3, f4, f5⟩ := f
  exact ⟨.ref D, G, I2.turned (t' := z.toks) (fun b o hb e => (but.2 b hb).trans e) f0 f1 f3 f4 f5, rfl, q⟩⟩
end
end Fw

set_option Elab.async false
set_option linter.all false
set_option maxRecDepth 100000
set_option maxHeartbeats 4000000
namespace Fw
open PySem PySem.Spec PyProof.Rows L2
/-! ### a dict comprehension lays into a dict by keys of any depth -/
def layN (K : KW) (D : Addr) (y z : V) (H : Hp) (Nx : Hp → Prop) : Prop := ∃ ep xs k b, y = .ref b ∧ H D = some (dN K.w D ep xs) ∧ Kys K.F H xs ∧ Ky K.F H k (.ref b) ∧ k.depth ≤ 8 ∧ xs.length < sizeLine ∧ ∀ r ep', RelV z r → Nx (upd H D (dN K.w D ep' (storedH xs k b r)))
def laysN (X : Cx) (hu : X.A.units + 8 < cLine) (fa : Str → Addr) : Lays X where
  nil := fun D => dN X.w D 0 []
  empty := fun H h hb => dn_nil (P := X.prog) h hb
  put := layN ⟨X.K, X.w, fa⟩
  goes := fun {Y pins σ H s E D y z u r Nx Q} hp hw hK hA I l ry rz h => by
    obtain ⟨ep, xs, k, b, rfl, e, ks, hk, h8, hz, nx⟩ := l
    cases (show u = Value.ref b from ry)
    have e' : H D = some (dN Y.w D ep xs) := by rw [hw]; exact e
    have ks' : Kys Y.K H xs := by rw [hK]; exact ks
    have hk' : Ky Y.K H k (.ref b) := by rw [hK]; exact hk
    refine dn_lay (by rw [hA]; exact hu) I e' ks' hk' h8 hz fun s' ep' I' => h _ s' I' ?_
    rw [hw]
    exact nx r ep' rz
end Fw

set_option Elab.async false
set_option linter.all false
set_option maxRecDepth 100000
set_option maxHeartbeats 4000000
namespace Fw
open PySem PySem.Spec PyProof.Rows L2
theorem hu8 {A : Around} {k : Nat} (hr : Room k A) : A.units + 8 < cLine := by
  have := hr.un
  omega
/-! ### dicts, entry by entry -/
def dPutK (kvs : List (D × D)) (kd v : D) : List (D × D) := if (kvs.any fun kv => decide (nk kv.1 = nk kd)) = true then kvs.map (fun kv => if nk kv.1 = nk kd then (kv.1, v) else kv) else kvs ++ [(kd, v)]
def dcTurn (pat : PF) (tt : BF) (ek ev : EF) (ρ : Rho) (kvs : List (D × D)) (d : D) : Res (List (D × D)) := (pat d ρ).bind fun ρ' => (tt ρ').bind fun b => if b = true then (ek ρ').bind fun kd => (ev ρ').bind fun v => if keyOk kd = true ∧ kvs.length < big then .ok (dPutK kvs kd v) else .bad else .ok kvs
def dcGo (turn : List (D × D) → D → Res (List (D × D))) : List D → List (D × D) → Res (List (D × D))
  | [], kvs => .ok kvs
  | d :: ds, kvs => (turn kvs d).bind fun kvs' => dcGo turn ds kvs'
def eDc (it : AF) (pat : PF) (tt : BF) (ek ev : EF) (vs : List Nat) : EF := fun ρ => (it ρ).bind fun ds => (noExc (dcGo (dcTurn pat tt ek ev (wipeR ρ vs)) ds [])).bind fun kvs => .ok (.dict kvs)
section
variable {K : KW} {G G' H : Hp}
theorem DRel.len : ∀ {xs : Ents} {kvs : List (D × D)}, DRel K G xs kvs → kvs.length = xs.length
  | _, _, .nil => rfl
  | _, _, .cons _ _ _ _ _ t => congrArg Nat.succ (DRel.len t)
theorem DRel.kys (s : Same G H) : ∀ {xs : Ents} {kvs : List (D × D)}, DRel K G xs kvs → Kys K.F H xs
  | _, _, .nil => fun x hx => absurd hx List.not_mem_nil
  | _, _, .cons a b c _ _ t => fun y hy => by
    rcases List.mem_cons.mp hy with z | z
    · subst z
      exact ⟨ky_of s a b, c⟩
    · exact DRel.kys s t y z
theorem DRel.any {k : NK} {kd : D} (e : nk kd = some k) : ∀ {xs : Ents} {kvs : List (D × D)}, DRel K G xs kvs → (kvs.any fun kv => decide (nk kv.1 = nk kd)) = (atKey xs k).isSome
  | _, _, .nil => rfl
  | _, _, .cons (x := x) a b _ _ _ t => by
    have ih := DRel.any e t
    rw [List.any_cons, ih, b, e]
    unfold atKey
    rw [List.find?_cons]
    by_cases z : x.1 = k
    · rw [decide_eq_true z, decide_eq_true (show some x.1 = some k by rw [z])]
      rfl
    · rw [decide_eq_false z, decide_eq_false (fun y => z (Option.some.inj y)), Bool.false_or]
theorem DRel.repl {k : NK} {kd d : D} {v : V} {u : Value} (e : nk kd = some k) (r : RelV v u) (q : Rp K G v d) : ∀ {xs : Ents} {kvs : List (D × D)}, DRel K G xs kvs → DRel K G (xs.map (putAt k u)) (kvs.map fun kv => if nk kv.1 = nk kd then (kv.1, d) else kv)
  | _, _, .nil => .nil
  | _, _, .cons (x := x) (kd := kd2) (d := d2) a b c r2 q2 t => by
    have ih := DRel.repl e r q t
    rw [List.map_cons, List.map_cons]
    by_cases z : x.1 = k
    · have z2 : nk (kd2, d2).1 = nk kd := by rw [e, ← z]; exact b
      rw [if_pos z2]
      have z3 : putAt k u x = (x.1, x.2.1, u) := by unfold putAt; rw [if_pos z]
      rw [z3]
      exact .cons (x := (x.1, x.2.1, u)) a b c r q ih
    · have z2 : ¬ nk (kd2, d2).1 = nk kd := fun y => z (Option.some.inj (b.symm.trans (y.trans e)))
      rw [if_neg z2]
      have z3 : putAt k u x = x := by unfold putAt; rw [if_neg z]
      rw [z3]
      exact .cons a b c r2 q2 ih
theorem DRel.snoc {x : NK × Addr × Value} {kd d : D} {v : V} (a : Rp K G (.ref x.2.1) kd) (b : nk kd = some x.1) (c : x.1.depth ≤ 8) (r : RelV v x.2.2) (q : Rp K G v d) : ∀ {xs : Ents} {kvs : List (D × D)}, DRel K G xs kvs → DRel K G (xs ++ [x]) (kvs ++ [(kd, d)])
  | _, _, .nil => .cons a b c r q .nil
  | _, _, .cons a2 b2 c2 r2 q2 t => .cons a2 b2 c2 r2 q2 (DRel.snoc a b c r q t)
theorem DRel.put {xs : Ents} {kvs : List (D × D)} {k : NK} {b : Addr} {kd d : D} {v : V} {u : Value} (t : DRel K G xs kvs) (a : Rp K G (.ref b) kd) (e : nk kd = some k) (c : k.depth ≤ 8) (r : RelV v u) (q : Rp K G v d) : DRel K G (storedH xs k b u) (dPutK kvs kd d) := by
  unfold storedH dPutK
  rw [t.any e]
  by_cases h : (atKey xs k).isSome = true
  · rw [if_pos h, if_pos h]
    exact t.repl e r q
  · rw [if_neg h, if_neg h]
    exact t.snoc (x := (k, b, u)) a e c r q
/-! ### the comprehension -/
def tDcN (K : KW) (wi : TI) (g : TG) (tt : TT) (tk tv : TE) (vs : List Nat) : TE := fun σ H Q => wi σ H fun J H1 => ∀ D, H1 D = none → ∃ W : Nat → Nat → Hp → Prop, (∃ m, W 0 m (upd H1 D (dN K.w D 0 []))) ∧ ∀ i m H, W i m H →
  (J.stop i H ∧ Q (.ref D) H) ∨ (J.go i H ∧ ∃ Nx : Hp → Prop, (∀ H', Nx H' → ∃ m', m' < m ∧ W (i + 1) m' H') ∧ ∀ x H', J.yld i H x H' → g x (wipe σ vs) H' fun σ2 H2 => wipe σ2 vs = wipe σ vs ∧ tt σ2 H2 fun b H3 =>
    if b = true then tk σ2 H3 fun y H4 => tv σ2 H4 fun z H5 => layN K D y z H5 Nx else Nx H3)
theorem pe_dcN {X : Cx} {fa : Str → Addr} (hu : X.A.units + 8 < cLine) {kx vx tg iter : Expr} {ifs : List Expr} {scope : Scope} {own : List (Str × Nat)} {pos : Pos} {wi : TI} {g : TG} {tt : TT} {tk tv : TE} (calm : X.calm = true) (nd : X.N.Nodup) (hi : PI X tg iter wi) (blk : BlkOk X.N X.env.scope scope own)
    (hg : Blk X (fun Y => PG Y tg g) scope) (ht : Blk X (fun Y => PTs Y ifs tt) scope) (hk : Blk X (fun Y => PE Y kx tk) scope) (he : Blk X (fun Y => PE Y vx tv) scope) (hs : ∀ x, foldedSetIterable iter X.env x = pure x := by intro _; rfl) :
    PE X (.DictComp kx vx [⟨tg, iter, ifs, 0⟩] scope pos) (tDcN ⟨X.K, X.w, fa⟩ wi g tt tk tv (own.map (·.2))) := pe_dcL (laysN X hu fa) calm nd hi blk hg ht hk he hs
structure DcI (K : KW) (G H : Hp) (d : Addr) (G' H' : Hp) (xs : Ents) (kvs : List (D × D)) : Prop where
  new : New G H G' H'
  hd : H d = none
  gd : G' d = none
  here : ∃ ep, H' d = some (dN K.w d ep xs)
  rel : DRel K G' xs kvs
section
variable {K : KW} {vs0 : List V} {W : WN} {G H G' H' G1 H1 : Hp} {σ : L2.St} {ρ : Rho} {F : List Addr}
theorem DcI.start {d : Addr} (s : Same G H) (hd : H d = none) : DcI K G H d G (upd H d (dN K.w d 0 [])) [] [] where
  new := ⟨fun a o e => by rw [upd_ne (ne_of_none e hd)]; exact e, fun a o e => by rw [upd_ne (ne_of_none (s a o e) hd)]; exact s a o e, fun a e => rfl⟩
  hd := hd
  gd := by
    cases q : G d with
    | none => rfl
    | some u => rw [s d u q] at hd; cases hd
  here := ⟨_, upd_same⟩
  rel := .nil
theorem DcI.grow {d : Addr} {xs : Ents} {kvs : List (D × D)} (L : DcI K G H d G1 H1 xs kvs) (n : New G1 H1 G' H') : DcI K G H d G' H' xs kvs where
  new := L.new.trans n
  hd := L.hd
  gd := by obtain ⟨ep, e⟩ := L.here; rw [n.quiet d (nn_of e)]; exact L.gd
  here := by obtain ⟨ep, e⟩ := L.here; exact ⟨ep, n.keep _ _ e⟩
  rel := L.rel.lift (n.same L.new.inn)
theorem DcI.put {d : Addr} {xs : Ents} {kvs : List (D × D)} (L : DcI K G H d G1 H1 xs kvs) {k : NK} {b : Addr} {kd z : D} {v : V} {u : Value} (ep : Nat) (a : Rp K G1 (.ref b) kd) (e : nk kd = some k) (c : k.depth ≤ 8) (r : RelV v u) (q : Rp K G1 v z) :
    DcI K G H d G1 (upd H1 d (dN K.w d ep (storedH xs k b u))) (storedH xs k b u) (dPutK kvs kd z) where
  new := ⟨fun a o x => by rw [upd_ne (ne_of_none x L.hd)]; exact L.new.keep a o x, fun a o x => by rw [upd_ne (ne_of_none x L.gd)]; exact L.new.inn a o x, L.new.quiet⟩
  hd := L.hd
  gd := L.gd
  here := ⟨_, upd_same⟩
  rel := L.rel.put a e c r q
end
theorem tup_ref {y : V} {d : D} (r : Rp K G y d) (h : isTup d = true) : ∃ b, y = .ref b := by
  cases r with
  | tup _ _ => exact ⟨_, rfl⟩
  | _ => cases h
theorem keyOk_of {d : D} (h : keyOk d = true) : isTup d = true ∧ ∃ k, nk d = some k ∧ k.depth ≤ 8 := by
  unfold keyOk at h
  obtain ⟨h1, h2⟩ := (Bool.and_eq_true _ _).mp h
  refine ⟨h1, ?_⟩
  cases e : nk d with
  | none => rw [e] at h2; cases h2
  | some k => rw [e] at h2; exact ⟨k, rfl, of_decide_eq_true h2⟩
theorem dc_turn {g : TG} {pat : PF} {is vs : List Nat} {tt : TT} {ftt : BF} {tk tv : TE} {ek ev : EF} (hg : SndG K vs0 g pat is) (hi : ∀ i ∈ is, i ∈ vs) (ht : SndT K vs0 W0 tt ftt) (hk : Snd K vs0 W0 tk ek) (hv : Snd K vs0 W0 tv ev)
    {d : Addr} {Ga Ha Gi Hi : Hp} {xs : Ents} {kvs kvs' : List (D × D)} (L : DcI K Ga Ha d Gi Hi xs kvs) (S : Sts K vs0 Gi Hi σ ρ F) {x : V} {z : D} (rx : Rp K Gi x z) (hr : dcTurn pat ftt ek ev (wipeR ρ vs) kvs z = .ok kvs')
    {Nx : Hp → Prop} (hn : ∀ G' H' xs', DcI K Ga Ha d G' H' xs' kvs' → Nx H') :
    g x (L2.wipe σ vs) Hi fun σ2 H2 => L2.wipe σ2 vs = L2.wipe σ vs ∧ tt σ2 H2 fun b H3 => if b = true then tk σ2 H3 fun y H4 => tv σ2 H4 fun z H5 => layN K d y z H5 Nx else Nx H3 := by
  obtain ⟨Fw, Sw, _⟩ := S.wipe vs
  obtain ⟨ρ1, h1, h2⟩ := bind_ok hr
  obtain ⟨b, h3, h4⟩ := bind_ok h2
  refine hg x z _ Gi Hi _ Fw _ Sw rx ?_
  rw [h1]
  intro σ2 F2 S2 s2 l2 e2
  refine ⟨wipe_same hi (by rw [l2, wipe_length]) e2, ht σ2 Gi Hi ρ1 F2 _ S2 ?_⟩
  rw [h3]
  intro G3 H3 n3
  cases b with
  | true =>
    rw [if_pos rfl] at h4
    rw [if_pos rfl]
    obtain ⟨kd, h5, h6⟩ := bind_ok h4
    obtain ⟨dv, h7, h8⟩ := bind_ok h6
    by_cases hz : keyOk kd = true ∧ kvs.length < big
    case neg => rw [if_neg hz] at h8; cases h8
    rw [if_pos hz] at h8
    injection h8 with h9
    subst h9
    obtain ⟨hz1, hz2⟩ := hz
    obtain ⟨it, k, ek1, k8⟩ := keyOk_of hz1
    refine hk σ2 G3 H3 ρ1 F2 _ (S2.new n3) ?_
    rw [h5]
    intro y G4 H4 n4 ry
    refine hv σ2 G4 H4 ρ1 F2 _ ((S2.new n3).new n4) ?_
    rw [h7]
    intro v G5 H5 n5 rv
    have L5 := (L.grow n3).grow (n4.trans n5)
    obtain ⟨b, rfl⟩ := tup_ref ry it
    have ry5 := rp_lift (n5.same n4.inn) ry
    obtain ⟨ep5, e5⟩ := L5.here
    refine ⟨ep5, xs, k, b, rfl, e5, L5.rel.kys L5.new.inn, ky_of L5.new.inn ry5 ek1, k8, ?_, fun r ep' rr => hn _ _ _ (L5.put ep' ry5 ek1 k8 rr rv)⟩
    have := L.rel.len
    exact big_lt (by omega)
  | false =>
    rw [if_neg (by decide)] at h4
    rw [if_neg (by decide)]
    injection h4 with h7
    subst h7
    exact hn _ _ _ (L.grow n3)
theorem dc_ok {turn : List (D × D) → D → Res (List (D × D))} {ds : List D} {i : Nat} {d : D} {kvs T : List (D × D)} (hd : ds[i]? = some d) (h : dcGo turn (ds.drop i) kvs = .ok T) : ∃ kvs', turn kvs d = .ok kvs' ∧ dcGo turn (ds.drop (i + 1)) kvs' = .ok T := by
  rw [drop_at hd] at h
  exact bind_ok (show (turn kvs d).bind _ = .ok T from h)
theorem snd_dc {wi : TI} {it : AF} {g : TG} {pat : PF} {is vs : List Nat} {tt : TT} {ftt : BF} {tk tv : TE} {ek ev : EF} (hw : SndW K vs0 W wi it) (hg : SndG K vs0 g pat is) (ht : SndT K vs0 W0 tt ftt) (hk : Snd K vs0 W0 tk ek) (hv : Snd K vs0 W0 tv ev) (hi : ∀ i ∈ is, i ∈ vs) :
    Snd K vs0 W (tDcN K wi g tt tk tv vs) (eDc it pat ftt ek ev vs) := fun σ G H ρ F Q S p =>
  hw σ G H ρ F _ S (p.bind.imp (fun ds q J G1 H1 n1 I D hD => by
    have q1 := q.bind
    cases hT : noExc (dcGo (dcTurn pat ftt ek ev (wipeR ρ vs)) ds []) with
    | bad => rw [hT] at q1; exact q1.elim
    | exc c => cases hh : dcGo (dcTurn pat ftt ek ev (wipeR ρ vs)) ds [] <;> rw [hh] at hT <;> cases hT
    | ok T =>
      rw [hT] at q1
      have q2 : ∀ v G' H', New G1 H1 G' H' → Rp K G' v (.dict T) → Q v H' := fun v G' H' n r => q1 v G' H' (n1.trans n) r
      have hgo := noExc_ok hT
      refine ⟨fun i m Hi => m = ds.length - i ∧ i ≤ ds.length ∧ ∃ Gi xs kvs, DcI K G1 H1 D Gi Hi xs kvs ∧ dcGo (dcTurn pat ftt ek ev (wipeR ρ vs)) (ds.drop i) kvs = .ok T,
        ⟨ds.length, by simp, Nat.zero_le _, G1, [], [], DcI.start n1.inn hD, hgo⟩, ?_⟩
      rintro i m Hi ⟨rfl, hle, Gi, xs, kvs, L, hrest⟩
      by_cases hlt : i < ds.length
      · refine .inr ⟨I.goes i Hi Gi hlt (L.new.same n1.inn) L.new.inn, fun H' => ∃ Gi xs kvs, DcI K G1 H1 D Gi H' xs kvs ∧ dcGo (dcTurn pat ftt ek ev (wipeR ρ vs)) (ds.drop (i + 1)) kvs = .ok T,
          fun H' h => ⟨ds.length - (i + 1), by omega, rfl, hlt, h⟩, fun x H' y => ?_⟩
        obtain ⟨d, G2, e1, n2, rx⟩ := I.yields i Hi Gi x H' hlt (L.new.same n1.inn) L.new.inn y
        obtain ⟨kvs', hb, hrs⟩ := dc_ok e1 hrest
        have S2 := ((S.new n1).new L.new).new n2
        exact dc_turn (ρ := ρ) (F := F) hg hi ht hk hv (L.grow n2) S2 rx hb fun G' H'' xs' L' => ⟨G', xs', kvs', L', hrs⟩
      · have e : i = ds.length := by omega
        subst e
        refine .inl ⟨I.stops Hi Gi (L.new.same n1.inn) L.new.inn, ?_⟩
        rw [List.drop_length] at hrest
        injection hrest with hr
        subst hr
        obtain ⟨eD, hD⟩ := L.here
        have same2 : Same Gi (upd Gi D (dN K.w D eD xs)) := same_upd L.gd
        refine q2 _ (upd Gi D (dN K.w D eD xs)) Hi ⟨L.new.keep, fun a o x => ?_, fun a x => ?_⟩ ((L.rel.lift same2).rp upd_same)
        · by_cases z : a = D
          · subst z
            rw [upd_same] at x
            cases x
            exact hD
          · rw [upd_ne z] at x
            exact L.new.inn a o x
        · rw [upd_ne (fun z => x (by rw [z]; exact L.hd))]
          exact L.new.quiet a x) fun c q => q)
end
end Fw

set_option Elab.async false
set_option linter.all false
set_option maxRecDepth 100000
set_option maxHeartbeats 4000000
namespace Fw
open PySem PySem.Spec PyProof.Rows L2
section
variable {X : Cx}
/-- name = {k: v for ..}, on one line, the name a local -/
theorem ps_setDcN {fa : Str → Addr} (hu : X.A.units + 8 < cLine) {i : Nat} {y : Str} {py : Pos} {kx vx tg iter : Expr} {ifs : List Expr} {scope : Scope} {own : List (Str × Nat)} {pos spos : Pos} {wi : TI} {g : TG} {tt : TT} {tk tv : TE} (calm : X.calm = true) (nd : X.N.Nodup) (at_ : X.N[i]? = some y) (loc : X.env.scope.names.lookup y = some .local)
    (sw : swapsWith (.DictComp kx vx [⟨tg, iter, ifs, 0⟩] scope pos) (some (.Name y py)) spos.line X.env = pure true) (hi : PI X tg iter wi) (blk : BlkOk X.N X.env.scope scope own)
    (hg : Blk X (fun Y => PG Y tg g) scope) (ht : Blk X (fun Y => PTs Y ifs tt) scope) (hk : Blk X (fun Y => PE Y kx tk) scope) (he : Blk X (fun Y => PE Y vx tv) scope) (hs : ∀ x, foldedSetIterable iter X.env x = pure x := by intro _; rfl) :
    PS X (.Assign [.Name y py] (.DictComp kx vx [⟨tg, iter, ifs, 0⟩] scope pos) spos) (tAsg (tDcN ⟨X.K, X.w, fa⟩ wi g tt tk tv (own.map (·.2))) (gName i)) := ⟨fun pins s σ H Dn I want => by
  rw [exec_Assign_Name_used _ _ _ _ sw]
  refine wpAny_bind (wpAny_standAt (wpAny_bind ?_))
  show wpAny _ X.A (do let _ ← comprehension (.DictComp kx vx [⟨tg, iter, ifs, 0⟩] scope pos) scope X.env (firstIterPos [⟨tg, iter, ifs, 0⟩] pos) newDict false (eval iter X.env) (some (assign (.Name y py) X.env))) _ _ s
  have want' : tDcL (laysN X hu fa) wi g tt tk tv (own.map (·.2)) σ H (fun x H1 => gName i x σ H1 Dn.nx) := want
  refine wpAny_bind (thn (dcL_core (laysN X hu fa) (Qf := fun _ s' => SP X pins Dn .next s') calm nd I hi blk hg ht hk he hs want' fun D C z m G Iz q hn f => ?_) fun _ s' hq => wpAny_pure (wpAny_pure hq))
  show wpAny _ _ (assign (.Name y py) X.env (.ref D)) _ _ _
  refine wpAny_assign_Name (store_ok2 (v := V.ref D) Iz nd at_ (.inl loc) rfl (fun s2 I2 ⟨a, sb, ha⟩ => ?_) (.inr loc))
  obtain ⟨f0, f1, _, f3, f4, f5⟩ := f
  have ne : C ≠ a := ha.elim (fun z => by rw [z]; exact f1) fun z e => f4 y a z e.symm
  exact ⟨m, hn.sameBut sb ne, fun h3 but => ⟨_, G, I2.turned (t' := s2.toks) (fun b o hb e => (but.2 b hb).trans e) f0 f1 f3 f4 f5, q⟩⟩⟩
theorem sw_dict {kx vx : Expr} {gs : List Comprehension} {scope : Scope} {pos py : Pos} {y : Str} {l : Nat} {env : Env} (hk : env.scope.kind = .function) (hy : env.scope.names.lookup y = some .local) (hl : (py.line == pos.line) = true)
    (ha : (scope.names.any fun (n, k) => n == y && (k == .local || k == .cell)) = false) : swapsWith (.DictComp kx vx gs scope pos) (some (.Name y py)) l env = pure true := by
  have q : env.kindOf y = some .local := hy
  have f : env.blockKind = .function := by
    unfold Env.blockKind
    rw [hk]
    rfl
  unfold swapsWith
  simp only [f, q, ha, Expr.pos, hl]
  rfl
end
end Fw

set_option Elab.async false
set_option linter.all false
set_option maxRecDepth 100000
set_option maxHeartbeats 4000000
namespace Fw
open PySem PySem.Spec PyProof.Rows L2
/-! ### dicts of one's own: {}, {k: v} -/
def tDNewN (K : KW) : TE := fun _ H Q => ∀ p, H p = none → Q (.ref p) (upd H p (dN K.w p 0 []))
def tDisp1N (K : KW) (tk tv : TE) : TE := fun σ H Q => ∀ p, H p = none → tk σ (upd H p (dN K.w p 0 [])) fun x H1 => tv σ H1 fun y H2 => ∃ k b, x = .ref b ∧ H2 p = some (dN K.w p 0 []) ∧ Ky K.F H2 k (.ref b) ∧ k.depth ≤ 8 ∧
  ∀ r ep, RelV y r → Q (.ref p) (upd H2 p (dN K.w p ep [(k, b, r)]))
section
variable {X : Cx} {pos : Pos} {fa : Str → Addr}
theorem pe_dnewN : PE X (.Dict [] [] pos) (tDNewN ⟨X.K, X.w, fa⟩) := ⟨fun pins s σ H Q I h =>
  wpAny_Dict_empty ⟨.ref s.heap.objs.size, _, I.laid (a := s.heap.objs.size) (o := dN X.w s.heap.objs.size 0 []) (t' := s.toks) (fun _ _ q => Heap.get?_push_of_some _ q) (Nat.le_refl _) (dn_nil s.heap I.big), rfl, h _ (I.hok.fresh (Nat.le_refl _))⟩⟩
theorem pe_disp1N (hu : X.A.units + 8 < cLine) {k v : Expr} {tk tv : TE} (hk : PE X k tk) (hv : PE X v tv) : PE X (.Dict [some k] [v] pos) (tDisp1N ⟨X.K, X.w, fa⟩ tk tv) := ⟨fun pins s σ H Q I q => by
  have hn := I.hok.fresh (Nat.le_refl s.heap.objs.size)
  have I1 := I.laid (a := s.heap.objs.size) (o := dN X.w s.heap.objs.size 0 []) (h' := s.heap.push { cls := .type "dict", data := .dict #[] }) (t' := s.toks) (fun _ _ q => Heap.get?_push_of_some _ q) (Nat.le_refl _) (dn_nil s.heap I.big)
  have zs : (evalEachOpt [some k] X.env).zip ((evalEach [v] X.env).map fun v => do let x ← v; standAt pos; pure x) = (pairTrees [some k] [v] X.env pos).map fun p => (some p.1, p.2) := zip_pairTrees _ _ _ _ rfl rfl
  rw [arm_eval_Dict, zs, dictDisplay_pairs _ (by intro z; cases z) (by show 1 < 17; decide)]
  refine wpAny_bind (wpAny_standAt (wpAny_bind (wpAny_subDictH (knd := kN X.prog X.w) (Q := fun d s' => wpAny (model X.prog X.w) X.A (pure (Value.ref d)) _ X.xe s') hu (by show 1 ≤ 15; decide) ?_)))
  refine pairTrees_cons_walk (thn (hk.run pins _ σ _ _ I1 (q _ hn)) fun u s1 ⟨x, H1, I1, rx, q1⟩ => thn (hv.run pins s1 σ H1 _ I1 q1) fun w2 s2 ⟨y, H2, I2, ry, kk, b, ex, e, ky, k8, q2⟩ => pairTrees_nil_walk ?_)
  subst ex
  cases (show u = Value.ref b from rx)
  obtain ⟨z, hd, dd⟩ := dn_of I2 e (fun x hx => absurd hx List.not_mem_nil)
  refine ⟨[(kk, b, w2)], ⟨rfl, rfl, ⟨ky_is I2 ky rfl, k8⟩, trivial⟩, dd, fun h' tk' d' hs => ?_⟩
  obtain ⟨ep', d2⟩ := dn_new (H' := upd H2 s.heap.objs.size (dN X.w s.heap.objs.size 0 [])) (xs := storedAllH [] [(kk, b, w2)]) (show 1 ≤ sizeLine by decide) hd d'
  exact wpAny_pure ⟨.ref s.heap.objs.size, _, d_write (t' := tk') I2 (by rw [e]; trivial) hs (by obtain ⟨o, _, _, q, _⟩ := d'; exact ⟨o, q⟩) d2, rfl, q2 w2 ep' ry⟩⟩
end
section
variable {K : KW} {vs0 : List V} {W : WN} {G H G' H' G1 H1 : Hp} {σ : L2.St} {ρ : Rho} {F : List Addr}
theorem Lay.dic {b : Bool} {p : Addr} {ep : Nat} {xs : Ents} {kvs : List (D × D)} (s : Same G H) (hp : H p = none) (r : DRel K G xs kvs) (c : b = true → noListAll (kvs.map (·.2)) = true) : Lay G H [p] G (upd H p (dN K.w p ep xs)) ∧ On K b G (upd H p (dN K.w p ep xs)) [p] (.ref p) (.dict kvs) := by
  have hG : G p = none := by
    cases e : G p with
    | none => rfl
    | some u => rw [s p u e] at hp; cases hp
  refine ⟨⟨New.lay s hp, List.nodup_cons.mpr ⟨List.not_mem_nil, .nil⟩, fun x hx => ?_⟩, .dic upd_same r c⟩
  rw [List.mem_singleton.mp hx]
  exact ⟨hp, hG⟩
theorem sndo_dnew {b : Bool} : SndO K vs0 W b (tDNewN K) (eC (.dict [])) := fun σ G H ρ F Q S p => fun q hq => by
  obtain ⟨l, o⟩ := Lay.dic (K := K) (b := b) (ep := 0) (kvs := []) S.same hq .nil (fun _ => rfl)
  exact p _ _ _ _ l o
def eDisp1 (b : Bool) (fk fv : EF) : EF := fun ρ => (fk ρ).bind fun k => (fv ρ).bind fun v => if keyOk k = true ∧ (b = true → noList v = true) then .ok (.dict [(k, v)]) else .bad
theorem Sts.lay {p : Addr} {o : HO} (S : Sts K vs0 G H σ ρ F) (hp : H p = none) : Sts K vs0 G (upd H p o) σ ρ F := S.new (New.lay S.same hp)
theorem sndo_disp1 {b : Bool} {tk tv : TE} {fk fv : EF} (hk : Snd K vs0 W tk fk) (hv : Snd K vs0 W tv fv) : SndO K vs0 W b (tDisp1N K tk tv) (eDisp1 b fk fv) := fun σ G H ρ F Q S p => fun q hq => by
  have n0 := New.lay (o := dN K.w q 0 []) S.same hq
  have S0 := S.new n0
  have gq : G q = none := by
    cases e : G q with
    | none => rfl
    | some u => rw [S.same q u e] at hq; cases hq
  refine hk σ G _ ρ F _ S0 (p.bind.imp (fun kd q1 x G1 H1 n1 r1 => ?_) fun c z G' H' n => z G' H' (n0.trans n))
  refine hv σ G1 H1 ρ F _ (S0.new n1) (q1.bind.imp (fun vd q2 y G2 H2 n2 r2 => ?_) fun c z G' H' n => z G' H' (n0.trans (n1.trans n)))
  obtain ⟨⟨ko, nl⟩, q3⟩ := pof q2
  obtain ⟨it, k, ek, k8⟩ := keyOk_of ko
  have rk := rp_lift (n2.same n1.inn) r1
  obtain ⟨b', rfl⟩ := tup_ref rk it
  have n12 := n1.trans n2
  have hq2 : H2 q = some (dN K.w q 0 []) := n12.keep _ _ upd_same
  have gq2 : G2 q = none := by rw [n12.quiet q (by rw [upd_same]; simp)]; exact gq
  refine ⟨k, b', rfl, hq2, ky_of n2.inn rk ek, k8, fun r ep rr => ?_⟩
  have dr : DRel K G2 [(k, b', r)] [(kd, vd)] := .cons (x := (k, b', r)) rk ek k8 rr r2 .nil
  refine q3 _ [q] G2 _ ⟨⟨fun a o e => ?_, fun a o e => ?_, (n0.trans n12).quiet⟩, List.nodup_cons.mpr ⟨List.not_mem_nil, .nil⟩, fun x hx => ?_⟩ (.dic upd_same dr fun e => ?_)
  · rw [upd_ne (ne_of_none e hq)]
    exact (n0.trans n12).keep a o e
  · rw [upd_ne (ne_of_none e gq2)]
    exact n2.inn a o e
  · rw [List.mem_singleton.mp hx]
    exact ⟨hq, gq2⟩
  · show (noList vd && true) = true
    rw [nl e]
    rfl
/-! ### d[k] = v, the dict in the slot i -/
def sPutD (i : Nat) (fk fv : EF) : SF := fun ρ => match ρ[i]? with
  | some (.o r b (.dict kvs)) => rOut (fv ρ) ρ fun v => rOut (fk ρ) ρ fun k => if keyOk k = true ∧ kvs.length < big ∧ (b = true → noList v = true) then .nx (ρ.set i (.o r b (.dict (dPutK kvs k v)))) else .bad
  | _ => .bad
def rSetN (K : KW) : TSet := fun o i v H Q => ∃ a ep xs k b, o = .ref a ∧ i = .ref b ∧ H a = some (dN K.w a ep xs) ∧ Kys K.F H xs ∧ Ky K.F H k (.ref b) ∧ k.depth ≤ 8 ∧ xs.length < sizeLine ∧ ∀ r ep', RelV v r → Q (upd H a (dN K.w a ep' (storedH xs k b r)))
theorem set_dictN {X : Cx} {fa : Str → Addr} (hu : X.A.units + 9 < cLine) : PSet X (rSetN ⟨X.K, X.w, fa⟩) := by
  intro pins s σ H o i v ov iv u Q I ro ri rv h
  obtain ⟨a, ep, xs, k, b, rfl, rfl, e, ks, hk, h8, hz, q⟩ := h
  cases (show ov = Value.ref a from ro)
  cases (show iv = Value.ref b from ri)
  exact dn_put hu I e ks hk h8 hz fun s' ep' I' => ⟨_, I', q u ep' rv⟩
theorem noList_put {kvs : List (D × D)} {k v : D} (h : noListAll (kvs.map (·.2)) = true) (hv : noList v = true) : noListAll ((dPutK kvs k v).map (·.2)) = true := by
  unfold dPutK
  split
  · have all : ∀ l : List (D × D), noListAll (l.map (·.2)) = true → noListAll ((l.map fun kv => if nk kv.1 = nk k then (kv.1, v) else kv).map (·.2)) = true := fun l => by
      induction l with
      | nil => exact fun _ => rfl
      | cons a l ih =>
        intro h
        have h' := (Bool.and_eq_true _ _).mp (show (noList a.2 && noListAll (l.map (·.2))) = true from h)
        rw [List.map_cons, List.map_cons]
        show (noList _ && noListAll _) = true
        rw [ih h'.2]
        split
        · simp [hv]
        · simp [h'.1]
    exact all kvs h
  · have app : ∀ l : List (D × D), noListAll (l.map (·.2)) = true → noListAll ((l ++ [(k, v)]).map (·.2)) = true := fun l => by
      induction l with
      | nil => exact fun _ => by show (noList v && true) = true; rw [hv]; rfl
      | cons a l ih =>
        intro h
        have h' := (Bool.and_eq_true _ _).mp (show (noList a.2 && noListAll (l.map (·.2))) = true from h)
        rw [List.cons_append, List.map_cons]
        show (noList a.2 && noListAll _) = true
        rw [h'.1, ih h'.2]
        rfl
    exact app kvs h
variable {Dn : Ends}
theorem snds_putD {i : Nat} {tv tk : TE} {fv fk : EF} (hv : Snd K vs0 W tv fv) (hk : Snd K vs0 W tk fk) : SndS K vs0 W (tAsg tv (gSub (tVar i) tk (rSetN K))) (sPutD i fk fv) := fun σ G H ρ F Dn S q => by
  unfold sPutD at q
  split at q
  case h_2 => exact q.elim
  rename_i r b kvs e
  refine hv σ G H ρ F _ S ((post_out q S).imp (fun v q1 y G1 H1 n1 r1 => ?_) fun c z => z)
  have S1 := S.new n1
  have a1 := n1.adv (F := F) S.same
  obtain ⟨vi, _, _, _, _, es, _, _, _⟩ := S1.rel.oget e
  refine ⟨vi, es, hk σ G1 H1 ρ F _ S1 ((post_out (q1.from a1) S1).imp (fun kd q2 x G2 H2 n2 r2 => ?_) fun c z => z)⟩
  have S2 := S1.new n2
  have q3 : PostS K vs0 W Dn F G1 H1 (if keyOk kd = true ∧ kvs.length < big ∧ (b = true → noList v = true) then .nx (ρ.set i (.o r b (.dict (dPutK kvs kd v)))) else .bad) := q2
  by_cases hz : keyOk kd = true ∧ kvs.length < big ∧ (b = true → noList v = true)
  case neg => rw [if_neg hz] at q3; exact q3.elim
  rw [if_pos hz] at q3
  obtain ⟨h1, h2, h3⟩ := hz
  obtain ⟨it, k, ek, k8⟩ := keyOk_of h1
  obtain ⟨bb, rfl⟩ := tup_ref r2 it
  obtain ⟨v', A, F1, B, eF, es', on, hr, kk⟩ := S2.rel.oget e
  have ev : v' = vi := Option.some.inj (Option.some.inj (es'.symm.trans es))
  subst ev
  subst eF
  cases on with
  | val _ z _ => cases z
  | @dic p ep xs _ hp dr c =>
    have rk := ky_of n2.inn r2 ek
    refine ⟨p, ep, xs, k, bb, rfl, rfl, hp, dr.kys n2.inn, rk, k8, big_lt (by rw [← dr.len]; exact h2), fun rr ep' rv => ?_⟩
    have n1' := List.nodup_append.mp S2.nd
    have gp : G2 p = none := S2.out p (by simp)
    have pA : p ∉ A ++ B := fun z => by
      rcases List.mem_append.mp z with z | z
      · exact n1'.2.2 p z p (by simp) rfl
      · exact (List.nodup_cons.mp (show (p :: B).Nodup from n1'.2.1)).1 z
    have dr2 := dr.put r2 ek k8 rv (rp_lift (n2.same n1.inn) r1)
    have S3 := kk (G' := G2) (H' := upd H2 p (dN K.w p ep' (storedH xs k bb rr))) (Same.refl _) (fun a ha => upd_ne fun z => pA (by rw [← z]; exact ha)) (.dic upd_same dr2 fun z => noList_put (c z) (h3 z))
    refine q3 σ G2 _ (A ++ ([p] ++ B)) ⟨fun a u ea => ?_, S3, S2.nd, S2.out⟩ ⟨fun a u ea ha => ?_, fun a ha => .inl ha, n2.same n1.inn, fun a ha hf => n2.quiet a ha⟩
    · rw [upd_ne (ne_of_none ea gp)]
      exact n2.inn a u ea
    · rw [upd_ne fun z => ha (by rw [z]; simp)]
      exact n2.keep a u ea
end
end Fw

set_option Elab.async false
set_option linter.all false
set_option maxRecDepth 100000
set_option maxHeartbeats 4000000
namespace Fw
open PySem PySem.Spec PyProof.Rows L2
/-! ### a dict, read by its entries -/
section
variable {X : Cx} {pins : List (Addr × Obj)} {σ : L2.St} {H : Hp} {s : Shared} {a : Addr} {ep : Nat} {xs : Ents}
theorem dn_raw (I : Inv X pins σ H s) (e : H a = some (dN X.w a ep xs)) : xs.length ≤ sizeLine ∧ (a == sysModules) = false ∧ ∃ es : Array DictEntry, s.heap.DictRaw a es ep ∧ es.size = xs.length ∧
    ∀ (i : Nat) (hi : i < es.size), ∃ y, xs[i]? = some y ∧ es[i].key = .ref y.2.1 ∧ es[i].val = y.2.2 := by
  obtain ⟨⟨z, q, o, es, h1, h2, h3, h4, h5⟩, _, _⟩ := I.hok a _ e
  have hs : es.size = xs.length := by
    have := congrArg List.length h4
    simpa using this
  refine ⟨z, q, es, ⟨o, h1, h2, h3⟩, hs, fun i hi => ?_⟩
  have hx : i < xs.length := hs ▸ hi
  have e1 := congrArg (fun l => l[i]?) h4
  simp only [Array.getElem?_toList, List.getElem?_map, Array.getElem?_eq_getElem hi, List.getElem?_eq_getElem hx, Option.map_some] at e1
  have e2 := Option.some.inj e1
  exact ⟨xs[i], List.getElem?_eq_getElem hx, by rw [e2], by rw [e2]⟩
theorem raw_inj {h : Heap} {es es' : Array DictEntry} {ep ep' : Nat} (a1 : h.DictRaw a es ep) (a2 : h.DictRaw a es' ep') : es = es' ∧ ep = ep' := by
  obtain ⟨o, h1, _, h2⟩ := a1
  obtain ⟨o', h3, _, h4⟩ := a2
  rw [h1] at h3
  cases h3
  rw [h2] at h4
  injection h4 with e1 e2
  exact ⟨e1, e2⟩
/-! for k in d -/
def Itn (w : World) (d : Addr) (ep : Nat) (xs : Ents) : It := ⟨fun i H => H d = some (dN w d ep xs) ∧ i < xs.length, fun i H x H' => H' = H ∧ ∃ y, xs[i]? = some y ∧ x = .ref y.2.1, fun i H => H d = some (dN w d ep xs) ∧ xs.length ≤ i⟩
theorem turn_dicN {P : Program} {w : World} {K : PySem.W.Frag} {tg : Expr} {d : Addr} (it : Addr) : Turn P w K tg (Itn w d ep xs) [it] it (fun i h => h.IsKeyIter it d i xs.length ep) where
  mem := by simp
  obj := fun i h st b hb => by
    have e : b = it := by simpa using hb
    subst e
    obtain ⟨oi, e, c, dd⟩ := st
    exact ⟨oi, e, fun v z => by rw [dd] at z; cases z⟩
  keep := fun i h h' st k => st.at fun oi e => k it (by simp) oi e
  item := by
    intro X hP hw hK hc i pins s σ H E I hf st hg
    subst hP hw hK
    obtain ⟨hd, hi⟩ := hg
    obtain ⟨f0, f1, f2, f3, f4, f5⟩ := hf it (by simp)
    obtain ⟨_, _, es, raw, hs, ent⟩ := dn_raw I hd
    rw [← hs] at st
    obtain ⟨y, hy, ek, _⟩ := ent i (hs ▸ hi)
    refine wpAny_pyNext_keys_item_raw st raw (hs ▸ hi) fun h' st' sb => ?_
    have I1 : Inv X pins σ H { s with heap := h' } := I.turned (t' := s.toks) (fun b ob hb e => (sb.2 b hb).trans e) f0 f1 f3 f4 f5
    obtain ⟨oi, e, c, dd⟩ := id st'
    refine ⟨_, rfl, go_of (s := { s with heap := h' }) e c dd (by decide) ⟨.ref y.2.1, H, I1, ek, ⟨rfl, y, hy, rfl⟩, ?_, fun b hb => (hf b hb).1⟩⟩
    rw [← hs]
    exact st'
  done := by
    intro X hP hw hK hc i pins s σ H E I hf st hg
    subst hP hw hK
    obtain ⟨hd, hi⟩ := hg
    obtain ⟨f0, f1, f2, f3, f4, f5⟩ := hf it (by simp)
    obtain ⟨_, _, es, raw, hs, ent⟩ := dn_raw I hd
    rw [← hs] at st
    exact wpAny_pyNext_keys_end_raw (I.ok.hd hc) st raw (by omega) fun h' eb => ⟨rfl, I.turned (t' := s.toks) (fun b ob hb e => eb b ob hb e) f0 f1 f3 f4 f5⟩
  self := fun A i s Q E st h => by
    refine wpAny_pyIter_slot st.typeIs F.slot_dict_keyiterator_iter (wpAny_call_entry F.slot_dict_keyiterator_iter st.typeIs F.entry_dict_keyiterator_iter ?_ (F.args_dict_keyiterator_iter_1 _))
    show wpAny _ _ (ret (.ref it)) _ _ s
    exact wpAny_pure ⟨_, rfl, "dict_keyiterator", _, st.typeIs, F.slot_dict_keyiterator_next.lookup, h⟩
end
section
variable {X : Cx} {tg : Expr} {fa : Str → Addr}
def iDicN (K : KW) (td : TE) : TI := fun σ H R => td σ H fun x H1 => ∃ a ep xs, x = .ref a ∧ H1 a = some (dN K.w a ep xs) ∧ R (Itn K.w a ep xs) H1
theorem pi_dicN {e : Expr} {td : TE} (he : PE X e td) : PI X tg e (iDicN ⟨X.K, X.w, fa⟩ td) := by
  refine ⟨fun pins s σ H R I h => thn (he.run pins s σ H _ I h) fun v s1 ⟨x, H1, I1, r1, a, ep, xs, ex, ha, q⟩ => ?_⟩
  subst ex
  cases (show v = Value.ref a from r1)
  obtain ⟨_, lo, es, raw, hs, ent⟩ := dn_raw I1 ha
  have fp : ∀ b ∈ [s1.heap.objs.size], FpOk X pins H1 b := fun b hb => by
    obtain rfl : b = s1.heap.objs.size := by simpa using hb
    exact I1.fpOk (Nat.le_refl _) (I1.hok.fresh (Nat.le_refl _))
  refine wpAny_pyIter_dict_raw lo raw ⟨s1.heap.objs.size, [s1.heap.objs.size], _, Itn X.w a ep xs, H1, rfl, I1.kept (t' := s1.toks) fun b u e => Heap.get?_push_of_some _ e, turn_dicN _, ⟨_, Heap.get?_push_size _ rfl, rfl, ?_⟩, fp, q⟩
  rw [hs]
  rfl
/-! list(d), sorted(d) -/
def keyV (xs : Ents) : List V := xs.map fun x => .ref x.2.1
theorem vals_keys {acc : Array Value} {es : Array DictEntry} {xs : Ents} (hs : es.size = xs.length) (ent : ∀ (i : Nat) (hi : i < es.size), ∃ y, xs[i]? = some y ∧ es[i].key = .ref y.2.1 ∧ es[i].val = y.2.2)
    (h : ItemsOf (fun i v => ∃ hi : i < es.size, v = es[i].key) acc es.size) : Vals (keyV xs) acc.toList := by
  have e : acc.toList = xs.map fun x => Value.ref x.2.1 := by
    refine List.ext_getElem? fun j => ?_
    rw [Array.getElem?_toList, List.getElem?_map]
    by_cases hj : j < es.size
    · have ha : j < acc.size := by rw [h.1]; exact hj
      obtain ⟨y, hy, ek, _⟩ := ent j hj
      obtain ⟨_, e2⟩ := h.2 j acc[j] (Array.getElem?_eq_getElem ha)
      rw [Array.getElem?_eq_getElem ha, e2, hy, ek]
      rfl
    · rw [Array.getElem?_eq_none (by rw [h.1]; omega), List.getElem?_eq_none (by omega)]
      rfl
  rw [e]
  unfold keyV
  clear e ent hs
  induction xs with
  | nil => exact .nil
  | cons a l ih => exact .cons rfl ih
def rListN (K : KW) : List V → Hp → VK → Prop := fun vs H Q => ∃ a ep xs, vs = [.ref a] ∧ H a = some (dN K.w a ep xs) ∧ ∀ p, H p = none → Q (.ref p) (upd H p (.lst (keyV xs)))
theorem call_listN (hc : X.calm = true) : CallR X (.type "list") (rListN ⟨X.K, X.w, fa⟩) := by
  intro pins s σ H xs us Q I r q
  obtain ⟨a, ep, es0, ex, hd, q⟩ := q
  subst ex
  obtain ⟨u, eu, rx⟩ := vals1 r
  subst eu
  cases (show u = Value.ref a from rx)
  obtain ⟨z, lo, es, raw, hs, ent⟩ := dn_raw I hd
  refine PySem.W.kdl_call (KdlSrc.rawDict lo) (I.ok.hd hc) raw (by rw [hs]; exact z) fun h' tk acc c' hk hD hacc => ?_
  exact ⟨.ref s.heap.objs.size, upd H s.heap.objs.size (.lst (keyV es0)), I.laid (t' := tk) hk (Nat.le_refl _)
    (show ObjOk X.prog X.w _ _ _ (.lst (keyV es0)) from ⟨by unfold keyV; rw [List.length_map]; exact z, acc.toList, c', vals_keys hs ent hacc, by rw [Array.toArray_toList]; exact hD⟩), rfl, q _ (I.hok.fresh (Nat.le_refl _))⟩
end
/-! sorted(d), its keys being alike -/
def allAlike (ds : List D) : Bool := ds.all fun d => ds.all fun e => PySem.W.alike d e
def hasHead : D → Bool
  | .tuple (_ :: _) => true
  | _ => false
def sortD (ds : List D) : List D := ds.mergeSort (PySem.W.dataLe false id)
def rSortN (K : KW) : List V → Hp → VK → Prop := fun vs H Q => ∃ a ep xs kds, ∃ R : V → D → Prop, vs = [.ref a] ∧ H a = some (dN K.w a ep xs) ∧ DpAll K.F H (keyV xs) kds ∧ PySem.W.EachIs R (keyV xs) kds ∧ allAlike kds = true ∧ kds.all hasHead = true ∧ (∀ d ∈ kds, PyData.depth d ≤ 60) ∧
  ∀ (out : List V) (p : Addr), PySem.W.EachIs R out (sortD kds) → H p = none → Q (.ref p) (upd H p (.lst out))
theorem each_vals {R : V → D → Prop} : ∀ {us : List Value} {ds : List D}, PySem.W.EachIs (fun u d => ∃ v, RelV v u ∧ R v d) us ds → ∃ vs, Vals vs us ∧ PySem.W.EachIs R vs ds
  | _, _, .nil => ⟨[], .nil, .nil⟩
  | _, _, .cons ⟨v, r, q⟩ t => let ⟨vs, a, b⟩ := each_vals t; ⟨v :: vs, .cons r a, .cons q b⟩
theorem each_mk {R : V → D → Prop} : ∀ {vs : List V} {us : List Value} {ds : List D}, Vals vs us → PySem.W.EachIs R vs ds → PySem.W.EachIs (fun u d => ∃ v, RelV v u ∧ R v d) us ds
  | _, _, _, .nil, .nil => .nil
  | _, _, _, .cons r t, .cons q e => .cons ⟨_, r, q⟩ (each_mk t e)
theorem each_reads {h : Heap} : ∀ {us : List Value} {ds : List D} {as : List Addr}, ReadsAll h us ds as → PySem.W.EachIs (fun v b => ∃ as, Reads h v (id b) as) us ds
  | _, _, _, .nil => .nil
  | _, _, _, .cons r t => .cons ⟨_, r⟩ (each_reads t)
mutual
theorem reads_at {h : Heap} : ∀ {v : Value} {d : D} {as : List Addr}, Reads h v d as → ∀ b ∈ as, ∃ o, h.get? b = some o
  | _, _, _, .none, b, hb => absurd hb List.not_mem_nil
  | _, _, _, .bool _, b, hb => absurd hb List.not_mem_nil
  | _, _, _, .int _ _, b, hb => absurd hb List.not_mem_nil
  | _, _, _, .str _ _, b, hb => absurd hb List.not_mem_nil
  | _, _, _, .list h1 _ _ t, b, hb => by
    rcases List.mem_cons.mp hb with z | z
    · rw [z]; exact ⟨_, h1⟩
    · exact readsAll_at t b z
  | _, _, _, .tuple _ _ _ t, b, hb => readsAll_at t b hb
  | _, _, _, .dict h1 _ _ t u, b, hb => by
    rcases List.mem_cons.mp hb with z | z
    · rw [z]; exact ⟨_, h1⟩
    · rcases List.mem_append.mp z with z | z
      · exact readsAll_at t b z
      · exact readsAll_at u b z
theorem readsAll_at {h : Heap} : ∀ {vs : List Value} {ds : List D} {as : List Addr}, ReadsAll h vs ds as → ∀ b ∈ as, ∃ o, h.get? b = some o
  | _, _, _, .nil, b, hb => absurd hb List.not_mem_nil
  | _, _, _, .cons r t, b, hb => by
    rcases List.mem_append.mp hb with z | z
    · exact reads_at r b z
    · exact readsAll_at t b z
end
theorem each_imp {α β : Type} {R S : α → β → Prop} (h : ∀ a b, R a b → S a b) : ∀ {as : List α} {bs : List β}, PySem.W.EachIs R as bs → PySem.W.EachIs S as bs
  | _, _, .nil => .nil
  | _, _, .cons r t => .cons (h _ _ r) (each_imp h t)
theorem call_sortedN {X : Cx} {fa : Str → Addr} {k : Nat} (hr : Room k X.A) (hc : X.calm = true) : CallR X (.builtin "sorted") (rSortN ⟨X.K, X.w, fa⟩) := by
  intro pins s σ H xs us Q I r q
  obtain ⟨a, ep, es0, kds, R, ex, hd, dp, er, al, hh, dd, q⟩ := q
  subst ex
  obtain ⟨u, eu, rx⟩ := vals1 r
  subst eu
  cases (show u = Value.ref a from rx)
  obtain ⟨z, lo, es, raw, hs, ent⟩ := dn_raw I hd
  refine Calls.call_function_entry PyProof.Rows.kind_sorted PyProof.Rows.plain_sorted PyProof.Rows.entry_sorted (PyProof.Rows.args_sorted1 _) ?_
  unfold Builtin.«sorted»
  refine wpAny_bind (m := checkCount "sorted" 1 1 _) (wpAny_pure ?_)
  refine wpAny_bind (PySem.W.kdu_collect (A := X.A.in1) (KdlSrc.rawDict lo) (I.ok.hd hc) raw (by rw [hs]; exact z) fun h' tk acc hk hacc => ?_)
  have hv := vals_keys hs ent hacc
  have I1 : Inv X pins σ H { s with heap := h', toks := tk } := I.kept hk
  obtain ⟨as, rd⟩ := Dp.readsAll I1 _ _ _ dp hv
  have hl : acc.toList.length = es0.length := by rw [← hv.length]; unfold keyV; rw [List.length_map]
  have hkl : kds.length = es0.length := by rw [← er.length]; unfold keyV; rw [List.length_map]
  refine wpAny_bind (wpAny_newList ?_ (by rw [hl]; exact z))
  have hoL : (h'.push (seqObj "list" acc.toList.toArray 0)).get? h'.objs.size = some (seqObj "list" acc.toList.toArray 0) := Heap.get?_push_size _ rfl
  show wpAny _ _ _ _ _ { s with heap := h'.push (seqObj "list" acc.toList.toArray 0), toks := tk }
  have hall : PySem.W.AllAlike (kds.map id) := by
    intro d hd' e he'
    rw [List.map_id] at hd' he'
    exact List.all_eq_true.mp (List.all_eq_true.mp al d hd') e he'
  have hsrt : PySem.W.Sortable (kds.map id) := .inl fun d hd' => by
    rw [List.map_id] at hd'
    have := List.all_eq_true.mp hh d hd'
    cases d with
    | tuple l =>
      cases l with
      | nil => cases this
      | cons x r => exact ⟨x, r, rfl⟩
    | _ => cases this
  have hu := hr.un
  refine wpAny_bind (wpAny_holding (PySem.W.list_sort_data (enc := id) (R := fun u d => ∃ v, RelV v u ∧ R v d) hoL (each_mk hv er)
    (each_imp (fun v b ⟨as, r⟩ => ⟨as, PyProof.Rows.Reads.keeps (fun _ _ q => Heap.get?_push_of_some _ q) r, fun z => by
      obtain ⟨o, ho⟩ := reads_at r _ z
      exact Nat.lt_irrefl _ (Heap.lt_size ho)⟩) (each_reads rd)) hall hsrt (by rw [hkl]; exact z) (fun d hd' => by
      have := dd d hd'
      show X.A.in1.units + 1 + PyData.depth d < cLine
      have e1 : X.A.in1.units = X.A.units + 1 := rfl
      omega) fun out hlo he => ?_))
  obtain ⟨vs, v1, v2⟩ := each_vals he
  obtain ⟨e', he'⟩ := PyProof.Rows.sortedHeap_at (vs := acc.toList) (out := out.toArray) hoL
  refine wpAny_pure ⟨_, rfl, .ref h'.objs.size, upd H h'.objs.size (.lst vs), I1.laid (t' := tk) (fun b u e => ?_) (Nat.le_refl _)
    (show ObjOk X.prog X.w _ _ _ (.lst vs) from ⟨by rw [v1.length, hlo, hkl]; exact z, out, e', v1, he'⟩), rfl, q vs _ v2 (I1.hok.fresh (Nat.le_refl _))⟩
  have hb : b < h'.objs.size := Heap.lt_size e
  rw [PyProof.Rows.sortedHeap_old (Nat.ne_of_lt hb) (by rw [size_push']; exact Nat.lt_succ_of_lt hb)]
  exact Heap.get?_push_of_some _ e
end Fw

set_option Elab.async false
set_option linter.all false
set_option maxRecDepth 100000
set_option maxHeartbeats 4000000
namespace Fw
open PySem PySem.Spec PyProof.Rows L2
section
variable {K : KW} {vs0 : List V} {W : WN} {G H G' H' G1 H1 : Hp} {σ : L2.St} {ρ : Rho} {F : List Addr}
/-! ### dicts: walked, list(d), sorted(d) -/
theorem dic_inv {x : V} {kvs : List (D × D)} (r : Rp K G x (.dict kvs)) (h : isDic kvs = true) : ∃ a ep xs, x = .ref a ∧ G a = some (dN K.w a ep xs) ∧ DRel K G xs kvs := by
  generalize ed : PyData.dict kvs = dd at r
  cases r with
  | @dic a ep xs kds ds vs h1 t1 c dp rv t =>
    injection ed with ed
    subst ed
    exact ⟨a, ep, xs, rfl, h1, DRel.of t1 c dp rv t⟩
  | scr _ => injection ed with ed; subst ed; cases h
  | fn _ => injection ed with ed; subst ed; cases h
  | dk _ => injection ed with ed; subst ed; cases h
  | _ => cases ed
theorem DRel.keys : ∀ {xs : Ents} {kvs : List (D × D)}, DRel K G xs kvs → RpL K G (keyV xs) (kvs.map (·.1))
  | _, _, .nil => .nil
  | _, _, .cons a _ _ _ _ t => .cons a (DRel.keys t)
def wDic (f : EF) : AF := fun ρ => (f ρ).bind fun d => match d with
  | .dict kvs => if isDic kvs = true then .ok (kvs.map (·.1)) else .bad
  | _ => .bad
theorem its_dic {a : Addr} {ep : Nat} {xs : Ents} {kvs : List (D × D)} (hg : G a = some (dN K.w a ep xs)) (r : DRel K G xs kvs) : Its K (Itn K.w a ep xs) G (kvs.map (·.1)) where
  goes := fun i H G1 hi s s1 => ⟨s1 _ _ (s _ _ hg), by rw [List.length_map, r.len] at hi; exact hi⟩
  stops := fun H G1 s s1 => ⟨s1 _ _ (s _ _ hg), by rw [List.length_map, r.len]; exact Nat.le_refl _⟩
  yields := fun i H G1 x H' hi s s1 y => by
    obtain ⟨rfl, e, he, rfl⟩ := y
    have ev : (keyV xs)[i]? = some (V.ref e.2.1) := by unfold keyV; rw [List.getElem?_map, he]; rfl
    obtain ⟨d, e1, rr⟩ := rpl_getV r.keys ev
    exact ⟨d, G1, e1, New.refl s1, rp_lift s rr⟩
theorem sndw_dic {te : TE} {f : EF} (h : Snd K vs0 W te f) : SndW K vs0 W (iDicN K te) (wDic f) := fun σ G H ρ F R S p =>
  h σ G H ρ F _ S (p.bind.imp (fun d q v G1 H1 n1 d1 => by
    cases d with
    | dict kvs =>
      obtain ⟨hd, q⟩ := pof q
      obtain ⟨a, ep, xs, rfl, hg, r⟩ := dic_inv d1 hd
      exact ⟨a, ep, xs, rfl, n1.inn _ _ hg, q _ G1 H1 n1 (its_dic hg r)⟩
    | _ => exact q.elim) fun c q => q)
def rListW (K : KW) : List V → Hp → VK → Prop := fun xs H Q => rListU K xs H Q ∨ rListN K xs H Q
theorem call_listW {X : Cx} {fa : Str → Addr} (hc : X.calm = true) : CallR X (.type "list") (rListW ⟨X.K, X.w, fa⟩) := call_list_of.or (call_listN hc)
def dListW : D → Res D
  | .list xs => .ok (.list xs)
  | .tuple xs => .ok (.list xs)
  | .dict kvs => if isDic kvs = true then .ok (.list (kvs.map (·.1))) else .bad
  | _ => .bad
theorem rlo_listW : RLO K (rListW K) (d1 dListW) := rlo_1 fun G H x d Q s hx p => by
  cases d with
  | list ds =>
    cases hx with
    | lst h t =>
      refine .inl ⟨_, _, rfl, .inl (SqL.of (s _ _ h)), fun a ha => ?_⟩
      obtain ⟨l, o⟩ := Lay.lst (.pure (New.refl s)) (owl_leaves (b := false) (H := H) t fun z => by cases z) ha
      exact p _ _ _ _ l o
  | tuple ds =>
    cases hx with
    | tup h t =>
      refine .inl ⟨_, _, rfl, .inr (same_t s h), fun a ha => ?_⟩
      obtain ⟨l, o⟩ := Lay.lst (.pure (New.refl s)) (owl_leaves (b := false) (H := H) t fun z => by cases z) ha
      exact p _ _ _ _ l o
  | dict kvs =>
    obtain ⟨hd, q⟩ := pof p
    obtain ⟨a, ep, xs, rfl, hg, r⟩ := dic_inv hx hd
    refine .inr ⟨a, ep, xs, rfl, s _ _ hg, fun l hl => ?_⟩
    obtain ⟨l, o⟩ := Lay.lst (.pure (New.refl s)) (owl_leaves (b := false) (H := H) r.keys fun z => by cases z) hl
    exact q _ _ _ _ l o
  | _ => exact p.elim
theorem q1_listW : Quiet1 dListW := fun d c h => by unfold dListW at h; split at h <;> (try split at h) <;> cases h
def dSortD : D → Res D
  | .dict kvs => if isDic kvs = true ∧ allAlike (kvs.map (·.1)) = true ∧ (kvs.map (·.1)).all hasHead = true ∧ ((kvs.map (·.1)).all fun d => SeqAt.shaped d && decide (PyData.depth d ≤ 60)) = true then .ok (.list (sortD (kvs.map (·.1)))) else .bad
  | _ => .bad
theorem rpl_dpS : ∀ {vs : List V} {ds : List D}, RpL K G vs ds → (ds.all fun d => SeqAt.shaped d && decide (PyData.depth d ≤ 60)) = true → DpAll K.F G vs ds
  | _, _, .nil, _ => .nil
  | _, _, .cons a t, h => by
    rw [List.all_cons, Bool.and_eq_true, Bool.and_eq_true] at h
    exact .cons (rp_sh a h.1.1) (rpl_dpS t h.2)
theorem each_rp : ∀ {vs : List V} {ds : List D}, RpL K G vs ds → PySem.W.EachIs (Rp K G) vs ds
  | _, _, .nil => .nil
  | _, _, .cons a t => .cons a (each_rp t)
theorem rp_each : ∀ {vs : List V} {ds : List D}, PySem.W.EachIs (Rp K G) vs ds → RpL K G vs ds
  | _, _, .nil => .nil
  | _, _, .cons a t => .cons a (rp_each t)
theorem rlo_sortD : RLO K (rSortN K) (d1 dSortD) := rlo_1 fun G H x d Q s hx p => by
  cases d with
  | dict kvs =>
    obtain ⟨⟨hd, h1, h2, h3⟩, q⟩ := pof p
    obtain ⟨a, ep, xs, rfl, hg, r⟩ := dic_inv hx hd
    have rk := r.keys
    refine ⟨a, ep, xs, kvs.map (·.1), Rp K G, rfl, s _ _ hg, rpl_dpS (rpl_lift s rk) h3, each_rp rk, h1, h2, fun d hd => ?_, fun out l eo hl => ?_⟩
    · have := List.all_eq_true.mp h3 d hd
      rw [Bool.and_eq_true] at this
      exact of_decide_eq_true this.2
    · obtain ⟨l, o⟩ := Lay.lst (.pure (New.refl s)) (owl_leaves (b := false) (H := H) (rp_each eo) fun z => by cases z) hl
      exact q _ _ _ _ l o
  | _ => exact p.elim
theorem q1_sortD : Quiet1 dSortD := fun d c h => by unfold dSortD at h; split at h <;> (try split at h) <;> cases h
/-! ### is None -/
def isNonD : D → Bool
  | .none => true
  | _ => false
def dIsN : D → D → Res D := fun d e => match e with
  | .none => .ok (.bool (isNonD d))
  | _ => .bad
def dNotN : D → D → Res D := fun d e => match e with
  | .none => .ok (.bool (!isNonD d))
  | _ => .bad
def rIsNX : R2 := fun x y H Q => y = .non ∧ Q (.bl (decide (x = .non))) H
def rNotNX : R2 := fun x y H Q => y = .non ∧ Q (.bl (!decide (x = .non))) H
theorem op_isNX {X : Cx} : OpR X (compareOp .Is) rIsNX := op_isN
theorem op_notNX {X : Cx} : OpR X (compareOp .IsNot) rNotNX := op_notN
theorem rp_non {x : V} {d : D} (r : Rp K G x d) : decide (x = V.non) = isNonD d := by
  cases r <;> first | exact decide_eq_true rfl | exact decide_eq_false (fun h => by cases h)
theorem rd_isN : RD K rIsNX dIsN := fun G H x y d e Q s hx hy p => by
  cases hy with
  | non => exact ⟨rfl, by rw [rp_non hx]; exact p _ G H (New.refl s) (.bl _)⟩
  | _ => exact False.elim p
theorem q2_isN : Quiet2 dIsN := fun d e c h => by unfold dIsN at h; split at h <;> cases h
theorem rd_notN : RD K rNotNX dNotN := fun G H x y d e Q s hx hy p => by
  cases hy with
  | non => exact ⟨rfl, by rw [rp_non hx]; exact p _ G H (New.refl s) (.bl _)⟩
  | _ => exact False.elim p
theorem q2_notN : Quiet2 dNotN := fun d e c h => by unfold dNotN at h; split at h <;> cases h
end
end Fw

set_option Elab.async false
set_option linter.all false
set_option maxRecDepth 100000
set_option maxHeartbeats 4000000
namespace Fw
open PySem PySem.Spec PyProof.Rows L2
section
variable {K : KW} {vs0 : List V} {W : WN} {G H G' H' G1 H1 : Hp} {σ : L2.St} {ρ : Rho} {F F1 : List Addr} {Dn : Ends} {C : Nat → Addr}
/-! ### x = place.pop() -/
theorem owl_dropLast {b : Bool} : ∀ {F : List Addr} {vs : List V} {ds : List D}, OwL K b G H F vs ds → ∃ F', OwL K b G H F' vs.dropLast ds.dropLast ∧ F'.Sublist F
  | _, _, _, .nil => ⟨[], .nil, .slnil⟩
  | _, _, _, .cons (F1 := A) h t => by
    cases t with
    | nil => exact ⟨[], .nil, List.nil_sublist _⟩
    | cons h2 t =>
      obtain ⟨F', t', s⟩ := owl_dropLast (.cons h2 t)
      exact ⟨_, .cons h t', List.Sublist.append_left s _⟩
def sPopLK (p : Pl) (x : Nat) : Out := match p.d with
  | .list ds => (match ds.getLast? with
    | some e => if noList e = true then .nx ((p.up (.list ds.dropLast)).set x (.p e)) else .bad
    | none => .bad)
  | _ => .bad
def sPopL (pl : PlF) (x : Nat) : SF := fun ρ => rOut (pl ρ) ρ fun p => sPopLK p x
theorem snds_popL {x : Nat} {tp : TE} {pl : PlF} (hp : SndP K vs0 W tp pl) : SndS K vs0 W (tAsg (tBM0 K "list" rPop tp) (gName x)) (sPopL pl x) := fun σ G H ρ F Dn S q =>
  hp σ G H ρ F _ S ((post_out q S).imp (fun p q1 v1 F1 G1 H1 n1 A => by
    have S1 := S.new n1
    obtain ⟨b', d, up⟩ := p
    cases d with
    | list ds =>
      have q5 : PostS K vs0 W Dn F G H (match ds.getLast? with | some e => if noList e = true then .nx ((up (.list ds.dropLast)).set x (.p e)) else .bad | none => .bad) := q1
      cases ed : ds.getLast? with
      | none => rw [ed] at q5; exact q5.elim
      | some e =>
        rw [ed] at q5
        have q6 : PostS K vs0 W Dn F G H (if noList e = true then .nx ((up (.list ds.dropLast)).set x (.p e)) else .bad) := q5
        by_cases ne : noList e = true
        · rw [if_pos ne] at q6
          cases A.own with
          | val _ z _ => cases z
          | @node l vs _ FL hl ol =>
            have ed2 : ds[ds.length - 1]? = some e := by rw [← List.getLast?_eq_getElem?]; exact ed
            obtain ⟨vj, B1, B2, B3, eF, ev, ow, _⟩ := owl_split ol ed2
            have rv : Rp K G1 vj e := by
              cases ow with
              | leaf r _ => exact r
              | node _ _ => simp [noList] at ne
              | dic _ _ _ => simp [noList] at ne
            obtain ⟨F', o2, sl⟩ := owl_dropLast ol
            have nd := (List.nodup_cons.mp A.nd).2
            obtain ⟨Fx, Sx, ax⟩ := At.put S1 A (n1.adv S.same) o2 (sl.nodup nd) fun a ha => .inl (sl.subset ha)
            obtain ⟨Fy, ty, sy⟩ := Sx.rel.set x rv
            exact ⟨.inl ⟨rfl, _, SqL.of hl⟩, l, vs, vj, rfl, rfl, hl, by rw [owl_len ol]; exact ev, q6 _ G1 _ Fy (Sx.sub ty sy) (ax.trans (Adv.sub sy))⟩
        · rw [if_neg ne] at q6
          exact q6.elim
    | _ => exact q1.elim) fun c q => q)
/-! ### place.pop(i), the item let go -/
def sPopDK (p : Pl) (i : Int) : Out := match p.d with
  | .list ds => if -1000 ≤ i ∧ i ≤ 1000 then (match ixN ds.length i with
    | some j => .nx (p.up (.list (ds.eraseIdx j)))
    | none => .bad) else .bad
  | _ => .bad
def sPopD (pl : PlF) (i : Int) : SF := fun ρ => rOut (pl ρ) ρ fun p => sPopDK p i
theorem snds_popD {i : Int} {tp : TE} {pl : PlF} (hp : SndP K vs0 W tp pl) : SndS K vs0 W (tDrop (tBM K "list" rPopAt tp (tCons (tC (.int i)) tNil))) (sPopD pl i) := fun σ G H ρ F Dn S q =>
  hp σ G H ρ F _ S ((post_out q S).imp (fun p q1 v1 F1 G1 H1 n1 A => by
    have S1 := S.new n1
    obtain ⟨b', d, up⟩ := p
    cases d with
    | list ds =>
      have q4 : PostS K vs0 W Dn F G H (if -1000 ≤ i ∧ i ≤ 1000 then (match ixN ds.length i with | some j => .nx (up (.list (ds.eraseIdx j))) | none => .bad) else .bad) := q1
      by_cases eb : -1000 ≤ i ∧ i ≤ 1000
      · rw [if_pos eb] at q4
        obtain ⟨i1, i2⟩ := eb
        cases ej : ixN ds.length i with
        | none => rw [ej] at q4; exact q4.elim
        | some j =>
          rw [ej] at q4
          cases A.own with
          | val _ z _ => cases z
          | @node l vs _ FL hl ol =>
            have hj := ixN_seq ej
            obtain ⟨vj, ev⟩ : ∃ vj, vs[j]? = some vj := ⟨_, List.getElem?_eq_getElem (show j < vs.length by rw [owl_len ol]; exact hj.2.1)⟩
            obtain ⟨F', o2, sl⟩ := owl_erase j ol
            have nd := (List.nodup_cons.mp A.nd).2
            obtain ⟨Fx, Sx, ax⟩ := At.put S1 A (n1.adv S.same) o2 (sl.nodup nd) fun a ha => .inl (sl.subset ha)
            refine ⟨.inl ⟨rfl, _, SqL.of hl⟩, l, vs, i, j, vj, rfl, rfl, hl, by omega, by omega, ?_, ev, q4 _ G1 _ Fx Sx ax⟩
            rw [owl_len ol]
            exact hj.1
      · rw [if_neg eb] at q4
        exact q4.elim
    | _ => exact q1.elim) fun c q => q)
/-! ### place.reverse() -/
theorem owl_rev {b : Bool} : ∀ {F : List Addr} {vs : List V} {ds : List D}, OwL K b G H F vs ds → ∃ F', OwL K b G H F' vs.reverse ds.reverse ∧ F'.Perm F
  | _, _, _, .nil => ⟨[], .nil, .nil⟩
  | _, _, _, .cons (F1 := A) (F2 := B) h t => by
    obtain ⟨F', t', s⟩ := owl_rev t
    rw [List.reverse_cons, List.reverse_cons]
    have o := owl_app t' (.cons h .nil)
    rw [List.append_nil] at o
    exact ⟨F' ++ A, o, (s.append_right A).trans List.perm_append_comm⟩
def sRevK (p : Pl) : Out := match p.d with
  | .list ds => .nx (p.up (.list ds.reverse))
  | _ => .bad
def sRev (pl : PlF) : SF := fun ρ => rOut (pl ρ) ρ fun p => sRevK p
theorem snds_rev {tp : TE} {pl : PlF} (hp : SndP K vs0 W tp pl) : SndS K vs0 W (tDrop (tBM0 K "list" rReverse tp)) (sRev pl) := fun σ G H ρ F Dn S q =>
  hp σ G H ρ F _ S ((post_out q S).imp (fun p q1 v1 F1 G1 H1 n1 A => by
    have S1 := S.new n1
    obtain ⟨b', d, up⟩ := p
    cases d with
    | list ds =>
      have q2 : PostS K vs0 W Dn F G H (.nx (up (.list ds.reverse))) := q1
      cases A.own with
      | val _ z _ => cases z
      | @node l vs _ FL hl ol =>
        obtain ⟨F', o2, pm⟩ := owl_rev ol
        have nd := (List.nodup_cons.mp A.nd).2
        obtain ⟨Fx, Sx, ax⟩ := At.put S1 A (n1.adv S.same) o2 (pm.nodup_iff.mpr nd) fun a ha => .inl (pm.mem_iff.mp ha)
        exact ⟨.inl ⟨rfl, _, SqL.of hl⟩, l, vs, rfl, rfl, hl, q2 σ G1 _ Fx Sx ax⟩
    | _ => exact q1.elim) fun c q => q)
/-! ### place.extend(e) -/
def sExtK (p : Pl) (r : Res D) (ρ : Rho) : Out := match p.d with
  | .list ds => rOut r ρ fun e => match e with
    | .list es => if ds.length + es.length ≤ big ∧ (p.b = true → noListAll es = true) then .nx (p.up (.list (ds ++ es))) else .bad
    | _ => .bad
  | _ => .bad
def sExt (pl : PlF) (f : EF) : SF := fun ρ => rOut (pl ρ) ρ fun p => sExtK p (f ρ) ρ
theorem snds_ext {tp te : TE} {pl : PlF} {f : EF} (hp : SndP K vs0 W tp pl) (he : Snd K vs0 W te f) : SndS K vs0 W (tDrop (tBM K "list" rExtend tp (tCons te tNil))) (sExt pl f) := fun σ G H ρ F Dn S q =>
  hp σ G H ρ F _ S ((post_out q S).imp (fun p q1 v1 F1 G1 H1 n1 A => by
    obtain ⟨b', d, up⟩ := p
    cases d with
    | list ds =>
      have q2 : PostS K vs0 W Dn F G H (rOut (f ρ) ρ fun e => match e with | .list es => if ds.length + es.length ≤ big ∧ (b' = true → noListAll es = true) then .nx (up (.list (ds ++ es))) else .bad | _ => .bad) := q1
      have S1 := S.new n1
      cases A.own with
      | val _ z _ => cases z
      | @node l vs _ FL hl ol =>
        refine ⟨.inl ⟨rfl, _, SqL.of hl⟩, he σ G1 H1 ρ F _ S1 ((post_out (q2.from (n1.adv S.same)) S1).imp (fun e q3 y G2 H2 n2 r2 => ?_) fun c q3 => q3)⟩
        cases e with
        | list es =>
          have q4 : PostS K vs0 W Dn F G1 H1 (if ds.length + es.length ≤ big ∧ (b' = true → noListAll es = true) then .nx (up (.list (ds ++ es))) else .bad) := q3
          by_cases hz : ds.length + es.length ≤ big ∧ (b' = true → noListAll es = true)
          case neg => rw [if_neg hz] at q4; exact q4.elim
          rw [if_pos hz] at q4
          cases r2 with
          | @lst yb zs _ hg rl =>
            have A2 := A.new n1.inn S1.rel.foot n2
            have S2 := S1.new n2
            have hl2 := n2.keep _ _ hl
            have ol2 : OwL K b' G2 H2 FL vs ds := owl_move (n2.same n1.inn) ol fun a ha => by
              obtain ⟨xs, ex⟩ := owl_lst ol a ha
              rw [ex]
              exact n2.keep a _ ex
            have o3 := owl_app ol2 (owl_leaves (H := H2) rl hz.2)
            rw [List.append_nil] at o3
            obtain ⟨F', S3, a3⟩ := At.put S2 A2 (n2.adv n1.inn) o3 (List.nodup_cons.mp A.nd).2 fun a ha => .inl ha
            exact ⟨_, yb, vs, zs, rfl, rfl, hl2, n2.inn _ _ hg, big_line (by rw [owl_len ol, rpl_len rl]; exact hz.1), q4 σ G2 _ F' S3 a3⟩
        | _ => exact q3.elim
    | _ => exact q1.elim) fun c q => q)
/-! ### place.insert(i, e), i written and not below 0 -/
theorem owl_cut {b : Bool} : ∀ {F : List Addr} {vs : List V} {ds : List D} (j : Nat), OwL K b G H F vs ds → ∃ A B, F = A ++ B ∧ OwL K b G H A (vs.take j) (ds.take j) ∧ OwL K b G H B (vs.drop j) (ds.drop j)
  | F, _, _, 0, h => ⟨[], F, rfl, .nil, h⟩
  | _, _, _, j + 1, .nil => ⟨[], [], rfl, .nil, .nil⟩
  | _, _, _, j + 1, .cons (F1 := P) h t => by
    obtain ⟨A, B, e, h1, h2⟩ := owl_cut j t
    exact ⟨P ++ A, B, by rw [e, List.append_assoc], .cons h h1, h2⟩
def rInsertX : V → List V → Hp → VK → Prop := fun x vs H Q => ∃ (l : Addr) (xs : List V) (i : Int) (y : V), x = .ref l ∧ vs = [.int i, y] ∧ H l = some (.lst xs) ∧ xs.length < sizeLine ∧ 0 ≤ i ∧ i < 2 ^ 63 ∧
    Q .non (upd H l (.lst (xs.take i.toNat ++ [y] ++ xs.drop i.toNat)))
theorem mt_insertX {X : Cx} : MtR X "list.insert" rInsertX := mt_insert
def sInsK (p : Pl) (i : Nat) (r : Res D) (ρ : Rho) : Out := match p.d with
  | .list ds => rOut r ρ fun e => if ds.length < big ∧ i ≤ 1000 ∧ noList e = true then .nx (p.up (.list (ds.take i ++ [e] ++ ds.drop i))) else .bad
  | _ => .bad
def sIns (pl : PlF) (i : Nat) (f : EF) : SF := fun ρ => rOut (pl ρ) ρ fun p => sInsK p i (f ρ) ρ
theorem snds_ins {i : Nat} {tp te : TE} {pl : PlF} {f : EF} (hp : SndP K vs0 W tp pl) (he : Snd K vs0 W te f) : SndS K vs0 W (tDrop (tBM K "list" rInsertX tp (tCons (tC (.int (i : Nat))) (tCons te tNil)))) (sIns pl i f) := fun σ G H ρ F Dn S q =>
  hp σ G H ρ F _ S ((post_out q S).imp (fun p q1 v1 F1 G1 H1 n1 A => by
    obtain ⟨b', d, up⟩ := p
    cases d with
    | list ds =>
      have q2 : PostS K vs0 W Dn F G H (rOut (f ρ) ρ fun e => if ds.length < big ∧ i ≤ 1000 ∧ noList e = true then .nx (up (.list (ds.take i ++ [e] ++ ds.drop i))) else .bad) := q1
      have S1 := S.new n1
      cases A.own with
      | val _ z _ => cases z
      | @node l vs _ FL hl ol =>
        refine ⟨.inl ⟨rfl, _, SqL.of hl⟩, he σ G1 H1 ρ F _ S1 ((post_out (q2.from (n1.adv S.same)) S1).imp (fun e q3 y G2 H2 n2 r2 => ?_) fun c q3 => q3)⟩
        by_cases hz : ds.length < big ∧ i ≤ 1000 ∧ noList e = true
        case neg => rw [if_neg hz] at q3; exact q3.elim
        rw [if_pos hz] at q3
        have A2 := A.new n1.inn S1.rel.foot n2
        have S2 := S1.new n2
        have hl2 := n2.keep _ _ hl
        have ol2 : OwL K b' G2 H2 FL vs ds := owl_move (n2.same n1.inn) ol fun a ha => by
          obtain ⟨xs, ex⟩ := owl_lst ol a ha
          rw [ex]
          exact n2.keep a _ ex
        obtain ⟨A', B', eF, o1, o2⟩ := owl_cut i ol2
        have o3 : OwL K b' G2 H2 (A' ++ B') (vs.take i ++ [y] ++ vs.drop i) (ds.take i ++ [e] ++ ds.drop i) := by
          have m : OwL K b' G2 H2 ([] ++ []) [y] [e] := .cons (.leaf r2 fun _ => hz.2.2) .nil
          have := owl_app (owl_app o1 m) o2
          rw [List.append_nil, List.append_nil] at this
          exact this
        rw [← eF] at o3
        obtain ⟨F', S3, a3⟩ := At.put S2 A2 (n2.adv n1.inn) o3 (List.nodup_cons.mp A.nd).2 fun a ha => .inl ha
        exact ⟨_, vs, (i : Nat), y, rfl, rfl, hl2, big_lt (by rw [owl_len ol]; exact hz.1), by omega, by have := hz.2.1; omega, q3 σ G2 _ F' S3 a3⟩
    | _ => exact q1.elim) fun c q => q)
end
end Fw

set_option Elab.async false
set_option linter.all false
set_option maxRecDepth 100000
set_option maxHeartbeats 4000000
namespace Fw
open PySem PySem.Spec PyProof.Rows L2
theorem passX0 {P : Program} {w : World} {X : Cx} : Passes (L2.CX P w) X E0 := fun _ _ _ _ _ _ _ ⟨_, _, _, _, _, _, _, _, _, _, _, _, z⟩ => z.elim
section
variable {K : KW} {vs0 : List V} {W : WN} {G H G' H' G1 H1 : Hp} {σ : L2.St} {ρ : Rho} {F F1 : List Addr} {Dn : Ends} {C : Nat → Addr}
/-! ### name op= e -/
def dIAdd : D → D → Res D
  | .int i, .int j => .ok (.int (i + j))
  | _, _ => .bad
theorem rd_iadd : RD K (ipI fun i j => i + j) dIAdd := fun G H x y d e Q s hx hy p => by
  cases hx <;> cases hy <;> first | exact False.elim p | exact ⟨_, _, rfl, rfl, p _ G H (New.refl s) (.int _)⟩
theorem q2_iadd : Quiet2 dIAdd := fun d e c h => by unfold dIAdd at h; split at h <;> cases h
def sAug (g : D → D → Res D) (i : Nat) (f : EF) : SF := fun ρ => rOut (rget ρ i) ρ fun d => rOut (f ρ) ρ fun e => match g d e with
  | .ok z => .nx (ρ.set i (.p z))
  | _ => .bad
theorem rget_some {i : Nat} {d : D} (h : rget ρ i = .ok d) : ρ[i]? = some (.p d) := by
  unfold rget at h
  split at h
  · rename_i d' e
    cases h
    exact e
  · cases h
theorem snds_aug {i : Nat} {te : TE} {f : EF} {ti : TIp} {g : D → D → Res D} (hr : RD K ti g) (he : Snd K vs0 W te f) : SndS K vs0 W (tAug i te ti) (sAug g i f) := fun σ G H ρ F Dn S q => by
  unfold sAug at q
  cases e : rget ρ i with
  | bad => rw [e] at q; exact q.elim
  | exc c => exfalso; unfold rget at e; split at e <;> cases e
  | ok d =>
    rw [e] at q
    have q1 : PostS K vs0 W Dn F G H (rOut (f ρ) ρ fun e => match g d e with | .ok z => .nx (ρ.set i (.p z)) | _ => .bad) := q
    obtain ⟨v, es, rv⟩ := S.rel.pget (rget_some e)
    refine ⟨v, es, he σ G H ρ F _ S ((post_out q1 S).imp (fun e2 q2 y G1 H1 n1 r1 => ?_) fun c z => z)⟩
    have S1 := S.new n1
    refine hr G1 H1 v y d e2 _ n1.inn (rp_lift (n1.same S.same) rv) r1 ?_
    cases eg : g d e2 with
    | bad => rw [eg] at q2; exact q2.elim
    | exc c => rw [eg] at q2; exact q2.elim
    | ok z =>
      rw [eg] at q2
      intro w G2 H2 n2 r2
      obtain ⟨F', t, s⟩ := (S1.new n2).rel.set i r2
      exact q2 _ G2 H2 F' ((S1.new n2).sub t s) (((n1.trans n2).adv S.same).trans (Adv.sub s))
/-! ### place[k] op= e, the item an int -/
def rGetL (K : PySem.W.Frag) : V → V → Hp → VK → Prop := fun o i H Q => ∃ p xs k v, o = .ref p ∧ i = .int k ∧ SqL K H p xs ∧ 0 ≤ k ∧ atI xs k = some v ∧ Q v H
theorem get_list {X : Cx} : PGet X (rGetL X.K) := by
  intro pins s σ H o i ov iv Q I ro ri h
  obtain ⟨p, xs, k, v, rfl, rfl, hs, h0, he, q⟩ := h
  cases ro
  obtain ⟨t, rfl⟩ := ri
  obtain ⟨its, r, pl, hz⟩ := I.list hs
  obtain ⟨j, h1, h2, h3, h4, h5⟩ := L2.atI_get he
  obtain ⟨w, ew, rw'⟩ := r.get h2
  have hl := r.length
  have hn := line63
  have hj : k.toNat = j := by
    rw [seqIndex_of h0 h5] at h1
    exact Option.some.inj h1
  exact wpAny_getItem_list pl.isList h0 (by omega) (by rw [hj]; simpa using ew) ⟨v, H, I, rw', q⟩
def sAugIK (g : D → D → Res D) (p : Pl) (k : D) (r : Res D) (ρ : Rho) : Out := match p.d, k with
  | .list ds, .int i => (match ixN ds.length i with
    | some j => (match ds[j]? with
      | some d => if 0 ≤ i ∧ noList d = true then rOut r ρ fun e => (match g d e with
        | .ok z => if noList z = true then .nx (p.up (.list (ds.set j z))) else .bad
        | _ => .bad) else .bad
      | none => .bad)
    | none => .bad)
  | _, _ => .bad
def sAugI (g : D → D → Res D) (pl : PlF) (k f : EF) : SF := fun ρ => rOut (pl ρ) ρ fun p => rOut (k ρ) ρ fun i => sAugIK g p i (f ρ) ρ
theorem snds_augI {tp tk te : TE} {pl : PlF} {k f : EF} {ti : TIp} {g : D → D → Res D} (hr : RD K ti g) (hp : SndP K vs0 W tp pl) (hk : Snd K vs0 W tk k) (he : Snd K vs0 W te f) :
    SndS K vs0 W (tAugS tp tk te (rGetL K) ti rSetL) (sAugI g pl k f) := fun σ G H ρ F Dn S q =>
  hp σ G H ρ F _ S ((post_out q S).imp (fun p q1 v1 F1 G1 H1 n1 A => by
    have S1 := S.new n1
    have a1 := n1.adv (F := F) S.same
    refine hk σ G1 H1 ρ F _ S1 ((post_out (q1.from a1) S1).imp (fun i q2 u G2 H2 n2 r2 => ?_) fun c z => z)
    have S2 := S1.new n2
    have A2 := A.new n1.inn S1.rel.foot n2
    have a2 := n2.adv (F := F) n1.inn
    obtain ⟨b', d, up⟩ := p
    cases d with
    | list ds =>
      cases i with
      | int i =>
        cases r2
        have q3 : PostS K vs0 W Dn F G1 H1 (match ixN ds.length i with
          | some j => (match ds[j]? with
            | some d => if 0 ≤ i ∧ noList d = true then rOut (f ρ) ρ fun e => (match g d e with
              | .ok z => if noList z = true then .nx (up (.list (ds.set j z))) else .bad
              | _ => .bad) else .bad
            | none => .bad)
          | none => .bad) := q2
        cases ej : ixN ds.length i with
        | none => rw [ej] at q3; exact q3.elim
        | some j =>
          rw [ej] at q3
          have q3 : PostS K vs0 W Dn F G1 H1 (match ds[j]? with
            | some d => if 0 ≤ i ∧ noList d = true then rOut (f ρ) ρ fun e => (match g d e with
              | .ok z => if noList z = true then .nx (up (.list (ds.set j z))) else .bad
              | _ => .bad) else .bad
            | none => .bad) := q3
          cases ed : ds[j]? with
          | none => rw [ed] at q3; exact q3.elim
          | some d =>
            rw [ed] at q3
            have q3 : PostS K vs0 W Dn F G1 H1 (if 0 ≤ i ∧ noList d = true then rOut (f ρ) ρ fun e => (match g d e with
              | .ok z => if noList z = true then .nx (up (.list (ds.set j z))) else .bad
              | _ => .bad) else .bad) := q3
            by_cases c : 0 ≤ i ∧ noList d = true
            case neg => rw [if_neg c] at q3; exact q3.elim
            rw [if_pos c] at q3
            cases A2.own with
            | val _ z _ => cases z
            | @node l vs _ FL hl ol =>
              obtain ⟨vj, B1, B2, B3, eF, ev, ow, _⟩ := owl_split ol ed
              have rv : Rp K G2 vj d := by
                cases ow with
                | leaf r _ => exact r
                | node _ _ => cases c.2
                | dic _ _ _ => cases c.2
              refine ⟨l, vs, i, vj, rfl, rfl, SqL.of hl, c.1, ?_, he σ G2 H2 ρ F _ S2 ((post_out (q3.from a2) S2).imp (fun e q4 y G3 H3 n3 r3 => ?_) fun c z => z)⟩
              · unfold atI
                rw [owl_len ol, ej]
                exact ev
              · have S3 := S2.new n3
                have A3 := A2.new n2.inn S2.rel.foot n3
                refine hr G3 H3 vj y d e _ n3.inn (rp_lift (n3.same n2.inn) rv) r3 ?_
                cases eg : g d e with
                | bad => rw [eg] at q4; exact q4.elim
                | exc c => rw [eg] at q4; exact q4.elim
                | ok z =>
                  rw [eg] at q4
                  have q4 : PostS K vs0 W Dn F G2 H2 (if noList z = true then .nx (up (.list (ds.set j z))) else .bad) := q4
                  by_cases nz : noList z = true
                  case neg => rw [if_neg nz] at q4; exact q4.elim
                  rw [if_pos nz] at q4
                  intro w G4 H4 n4 r4
                  have S4 := S3.new n4
                  have A4 := A3.new n3.inn S3.rel.foot n4
                  have n34 := n3.trans n4
                  have hl4 := n34.keep _ _ hl
                  have ol4 : OwL K b' G4 H4 FL vs ds := owl_move (n34.same n2.inn) ol fun a ha => by
                    obtain ⟨xs, ex⟩ := owl_lst ol a ha
                    rw [ex]
                    exact n34.keep a _ ex
                  obtain ⟨F', o2, sl⟩ := owl_set (.leaf r4 fun _ => nz) j ol4
                  have nd := (List.nodup_cons.mp A4.nd).2
                  obtain ⟨Fx, Sx, ax⟩ := At.put S4 A4 (n34.adv n2.inn) o2 (sl.nodup nd) fun a ha => .inl (sl.subset ha)
                  exact ⟨l, vs, i, j, rfl, rfl, hl4, by rw [owl_len ol]; exact ej, q4 σ G4 _ Fx Sx ax⟩
      | _ => exact q2.elim
    | _ => cases i <;> exact q2.elim) fun c q => q)
/-! ### place[k] = a list of one's own -/
theorem owl_put {b : Bool} {v : V} {e : D} {Fe : List Addr} (hv : Ow K b G H Fe v e) : ∀ {F : List Addr} {vs : List V} {ds : List D} (j : Nat), j < ds.length → OwL K b G H F vs ds → ∃ A B Cc, F = A ++ (B ++ Cc) ∧ OwL K b G H (A ++ (Fe ++ Cc)) (vs.set j v) (ds.set j e)
  | _, _, _, j, hj, .nil => absurd hj (Nat.not_lt_zero _)
  | _, _, _, 0, _, .cons (F1 := A) (F2 := B) h t => ⟨[], A, B, rfl, (OwL.cons hv t : OwL K b G H (Fe ++ B) _ _)⟩
  | _, _, _, j + 1, hj, .cons (F1 := P) h t => by
    obtain ⟨A, B, Cc, eF, o⟩ := owl_put hv j (Nat.lt_of_succ_lt_succ hj) t
    refine ⟨P ++ A, B, Cc, by rw [eF, List.append_assoc], ?_⟩
    rw [List.append_assoc]
    exact .cons h o
def sSetO (b : Bool) (pl : PlF) (k : EF) (f : EF) : SF := fun ρ => rOut (f ρ) ρ fun e => rOut (pl ρ) ρ fun p => rOut (k ρ) ρ fun i => match p.d, i with
  | .list ds, .int i => if p.b = b then (match ixN ds.length i with
    | some j => if j < ds.length then .nx (p.up (.list (ds.set j e))) else .bad
    | none => .bad) else .bad
  | _, _ => .bad
theorem snds_setO {b : Bool} {te tp tk : TE} {f k : EF} {pl : PlF} (he : SndE K vs0 W b te f) (hp : SndP K vs0 W tp pl) (hk : Snd K vs0 W tk k) : SndS K vs0 W (tAsg te (gSub tp tk rSetL)) (sSetO b pl k f) := fun σ G H ρ F Dn S q =>
  he σ G H ρ F _ S ((post_out q S).imp (fun e q1 v Fe G1 H1 l1 o1 => by
    have n1 := l1.new
    have S1 := S.new n1
    have a1 := n1.adv (F := F) S.same
    refine hp σ G1 H1 ρ F _ S1 ((post_out q1 S).imp (fun p q2 v1 F1 G2 H2 n2 A => ?_) fun c z G' H' n => z G' H' (n1.trans n))
    have S2 := S1.new n2
    refine hk σ G2 H2 ρ F _ S2 ((post_out q2 S).imp (fun i q3 u G3 H3 n3 ri => ?_) fun c z G' H' n => z G' H' ((n1.trans n2).trans n))
    have S3 := S2.new n3
    have A3 := A.new n2.inn S2.rel.foot n3
    have n23 := n2.trans n3
    have a3 := (n1.trans n23).adv (F := F) S.same
    have o3 : Ow K b G3 H3 Fe v e := ow_move (n23.same n1.inn) o1 fun a ha => by
      obtain ⟨xs, ex⟩ := ow_lst o1 a ha
      rw [ex]
      exact n23.keep a _ ex
    have fe : ∀ a ∈ Fe, a ∉ F ∧ G3 a = none := fun a ha => by
      refine ⟨fun hf => ?_, ?_⟩
      · obtain ⟨xs, ex⟩ := S.rel.foot a hf
        rw [(l1.fresh a ha).1] at ex
        cases ex
      · obtain ⟨xs, ex⟩ := ow_lst o1 a ha
        rw [n23.quiet a (nn_of ex)]
        exact (l1.fresh a ha).2
    obtain ⟨b', d, up⟩ := p
    cases d with
    | list ds =>
      cases ri with
      | int i =>
        have q4 : PostS K vs0 W Dn F G H (if b' = b then (match ixN ds.length i with | some j => if j < ds.length then .nx (up (.list (ds.set j e))) else .bad | none => .bad) else .bad) := q3
        by_cases eb : b' = b
        · rw [if_pos eb] at q4
          subst eb
          cases ej : ixN ds.length i with
          | none => rw [ej] at q4; exact q4.elim
          | some j =>
            rw [ej] at q4
            have q4 : PostS K vs0 W Dn F G H (if j < ds.length then .nx (up (.list (ds.set j e))) else .bad) := q4
            by_cases hj : j < ds.length
            case neg => rw [if_neg hj] at q4; exact q4.elim
            rw [if_pos hj] at q4
            cases A3.own with
            | val _ z _ => cases z
            | @node l vs _ FL hl ol =>
              obtain ⟨P, B, Cc, eF, o4⟩ := owl_put o3 j hj ol
              have nd := (List.nodup_cons.mp A3.nd).2
              have inF : ∀ a ∈ FL, a ∈ F := fun a ha => A3.sub a (List.mem_cons_of_mem _ ha)
              rw [eF] at nd inF
              have nd' : (P ++ (Fe ++ Cc)).Nodup := nodup_swap nd l1.nd fun a ha hm => absurd (inF a hm) (fe a ha).1
              rw [eF] at A3
              obtain ⟨Fx, Sx, ax⟩ := At.put S3 A3 a3 o4 nd' fun a ha => by
                rcases mid_mem.mp ha with z | z | z
                · exact .inl (mid_mem.mpr (.inl z))
                · exact .inr ⟨(l1.fresh a z).1, (fe a z).2, (fe a z).1⟩
                · exact .inl (mid_mem.mpr (.inr (.inr z)))
              exact ⟨l, vs, i, j, rfl, rfl, hl, by rw [owl_len ol]; exact ej, q4 σ G3 _ Fx Sx ax⟩
        · rw [if_neg eb] at q4
          exact q4.elim
      | _ => exact q3.elim
    | _ => cases i <;> exact q3.elim) fun c q => q)
end
end Fw

set_option Elab.async false
set_option linter.all false
set_option maxRecDepth 100000
set_option maxHeartbeats 4000000
namespace Fw
open PySem PySem.Spec PyProof.Rows L2
theorem hu9 {A : Around} {k : Nat} (hr : Room k A) : A.units + 9 < cLine := by
  have := hr.un
  omega
/-- the most turns of a while -/
def fuelN : Nat := 16000000
section
variable {K : KW} {vs0 : List V} {W : WN} {G H G' H' G1 H1 : Hp} {σ : L2.St} {ρ : Rho} {F F1 : List Addr} {Dn : Ends} {C : Nat → Addr}
/-! ### a def that stands in a slot, called -/
def fnOf : D → Option Str
  | .dict [(.bool true, .str x)] => some x
  | _ => none
def eCallV (i : Nat) (x1 x2 : Str) (f1 f2 : List D → Res D) (a : AF) : EF := fun ρ => (rget ρ i).bind fun d =>
  if fnOf d = some x1 then (a ρ).bind fun ds => noExc (f1 ds) else if fnOf d = some x2 then (a ρ).bind fun ds => noExc (f2 ds) else .bad
theorem fnOf_eq {d : D} {x : Str} (h : fnOf d = some x) : d = fnD x := by
  unfold fnOf at h
  split at h
  · cases h; rfl
  · cases h
theorem no_bl {a : Addr} {b : Bool} (h : Rp K G (.ref a) (.bool b)) : False := by cases h
theorem rp_fn {v : V} {x : Str} (r : Rp K G v (fnD x)) : v = .ref (K.fa x) := by
  generalize ed : fnD x = dd at r
  cases r with
  | fn y => injection ed with e1; injection e1 with e2 _; injection e2 with _ e3; injection e3 with e4; rw [e4]
  | @dic a ep xs kds ds vs h t1 c dp rv t =>
    injection ed with e1
    cases kds with
    | nil => cases e1
    | cons kd kds =>
      cases ds with
      | nil => cases e1
      | cons d ds =>
        injection e1 with e2 _
        injection e2 with e3 _
        rw [← e3] at t1
        cases xs with
        | nil => cases t1
        | cons y ys =>
          cases t1 with
          | cons h1 _ => exact (no_bl h1).elim
  | scr _ => injection ed with e1; injection e1 with e2 _; injection e2 with e3 _; cases e3
  | dk _ => injection ed with e1; injection e1 with e2 _; injection e2 with e3 _; cases e3
  | _ => cases ed
theorem snd_callV {i : Nat} {x1 x2 : Str} {f1 f2 : List D → Res D} {ta : TA} {a : AF} (h : SndA K vs0 W ta a) : Snd K vs0 W (C8.tCallV i (K.fa x1) (K.fa x2) (spP K C f1) (spP K C f2) ta) (eCallV i x1 x2 f1 f2 a) := fun σ G H ρ F Q S p => by
  unfold eCallV at p
  cases e : rget ρ i with
  | bad => rw [e] at p; exact p.elim
  | exc c => exfalso; unfold rget at e; split at e <;> cases e
  | ok d =>
    rw [e] at p
    have p1 : Post (if fnOf d = some x1 then (a ρ).bind fun ds => noExc (f1 ds) else if fnOf d = some x2 then (a ρ).bind fun ds => noExc (f2 ds) else .bad) _ _ := p
    obtain ⟨v, es, rv⟩ := S.rel.pget (rget_some e)
    have go : ∀ {f : List D → Res D}, Post ((a ρ).bind fun ds => noExc (f ds)) (fun d => ∀ v G' H', New G H G' H' → Rp K G' v d → Q v H') (fun c => ∀ G' H', New G H G' H' → W c σ H') → ta σ H fun vs H1 => spP K C f vs H1 Q C8.E0 := fun {f} p =>
      h σ G H ρ F _ S (p.bind.imp (fun ds q vs G1 H1 n1 o => ⟨G1, ds, n1.inn, o, (post_noExc q).imp (fun d q v G2 H2 n2 r => q v G2 H2 (n1.trans n2) r) fun c q => q.elim⟩) fun c q => q)
    by_cases c1 : fnOf d = some x1
    · rw [if_pos c1] at p1
      rw [fnOf_eq c1] at rv
      exact .inl ⟨by rw [es, rp_fn rv], go p1⟩
    · rw [if_neg c1] at p1
      by_cases c2 : fnOf d = some x2
      · rw [if_pos c2] at p1
        rw [fnOf_eq c2] at rv
        exact .inr ⟨by rw [es, rp_fn rv], go p1⟩
      · rw [if_neg c2] at p1
        exact p1.elim
theorem snd_fn {x : Str} {a : Addr} (h : K.fa x = a) : Snd K vs0 W (tC (.ref a)) (eC (fnD x)) := snd_c fun _ => by rw [← h]; exact .fn x
/-! ### [A, B][i], A and B one's own -/
def ePick (f k : EF) : EF := fun ρ => (f ρ).bind fun d => (k ρ).bind fun i => match d, i with
  | .list ds, .int i => ofOpt (atI ds i)
  | _, _ => .bad
theorem sndo_pick {te ti : TE} {f k : EF} (he : SndO K vs0 W true te f) (hi : Snd K vs0 W ti k) : SndO K vs0 W true (tOp (rIxU K) te ti) (ePick f k) := fun σ G H ρ F Q S p =>
  he σ G H ρ F _ S (p.bind.imp (fun d q v F1 G1 H1 l1 o1 => hi σ G1 H1 ρ F _ (S.new l1.new) (q.bind.imp (fun i q2 u G2 H2 n2 r2 => by
    cases d with
    | list ds =>
      cases i with
      | int i =>
        cases r2
        obtain ⟨dj, ed, q3⟩ := pom1 q2
        cases o1 with
        | val _ z _ => cases z
        | @node l vs _ FL hl ol =>
          unfold atI at ed
          cases ej : ixN ds.length i with
          | none => rw [ej] at ed; cases ed
          | some j =>
            rw [ej] at ed
            obtain ⟨vj, A, B, Cc, eF, ev, ow, _⟩ := owl_split ol (show ds[j]? = some dj from ed)
            have ow2 : Ow K true G2 H2 B vj dj := ow_move (n2.same l1.new.inn) ow fun a ha => by
              obtain ⟨xs, ex⟩ := ow_lst ow a ha
              rw [ex]
              exact n2.keep a _ ex
            have nd := (List.nodup_cons.mp l1.nd).2
            rw [eF] at nd
            refine .inl (.inl ⟨l, vs, i, vj, rfl, rfl, SqL.of (n2.keep _ _ hl), ?_, q3 vj B G2 H2 ⟨l1.new.trans n2, (List.nodup_append.mp (List.nodup_append.mp nd).2.1).1, fun a ha => ?_⟩ (ow_on ow2)⟩)
            · unfold atI
              rw [owl_len ol, ej]
              exact ev
            · have fr := l1.fresh a (List.mem_cons_of_mem _ (by rw [eF]; simp [ha]))
              refine ⟨fr.1, ?_⟩
              obtain ⟨xs, ex⟩ := ow_lst ow a ha
              rw [n2.quiet a (nn_of ex)]
              exact fr.2
      | _ => exact q2.elim
    | _ => cases i <;> exact q2.elim) fun c q2 G2 H2 n2 => q2 G2 H2 (l1.new.trans n2))) fun c q => q)
/-! ### [A] * k, k at most one: A stays one's own -/
def eRepO (f k : EF) : EF := fun ρ => (f ρ).bind fun d => (k ρ).bind fun i => match d, i with
  | .list ds, .int i => if i = 1 ∧ ds.length ≤ 1000 then .ok (.list ds) else if -1000 ≤ i ∧ i ≤ 0 then .ok (.list []) else .bad
  | _, _ => .bad
theorem sndo_repO {te ti : TE} {f k : EF} (he : SndO K vs0 W true te f) (hi : Snd K vs0 W ti k) : SndO K vs0 W true (tOp (rMulU K) te ti) (eRepO f k) := fun σ G H ρ F Q S p =>
  he σ G H ρ F _ S (p.bind.imp (fun d q v F1 G1 H1 l1 o1 => hi σ G1 H1 ρ F _ (S.new l1.new) (q.bind.imp (fun i q2 u G2 H2 n2 r2 => by
    cases d with
    | list ds =>
      cases i with
      | int i =>
        cases r2
        have q3 : Post (if i = 1 ∧ ds.length ≤ 1000 then .ok (.list ds) else if -1000 ≤ i ∧ i ≤ 0 then Res.ok (PyData.list []) else .bad) _ _ := q2
        cases o1 with
        | val _ z _ => cases z
        | @node l vs _ FL hl ol =>
          have hl2 := n2.keep _ _ hl
          have ol2 : OwL K true G2 H2 FL vs ds := owl_move (n2.same l1.new.inn) ol fun a ha => by
            obtain ⟨xs, ex⟩ := owl_lst ol a ha
            rw [ex]
            exact n2.keep a _ ex
          have nd := (List.nodup_cons.mp l1.nd).2
          have lay : ∀ F2, F2.Sublist FL → Lay G H F2 G2 H2 := fun F2 s => ⟨l1.new.trans n2, s.nodup nd, fun a ha => by
            have fr := l1.fresh a (List.mem_cons_of_mem _ (s.subset ha))
            refine ⟨fr.1, ?_⟩
            obtain ⟨xs, ex⟩ := owl_lst ol a (s.subset ha)
            rw [n2.quiet a (nn_of ex)]
            exact fr.2⟩
          by_cases c1 : i = 1 ∧ ds.length ≤ 1000
          · rw [if_pos c1] at q3
            obtain ⟨rfl, hz⟩ := c1
            refine .inr (.inl ⟨_, _, _, rfl, rfl, hl2, by decide, by decide, ?_, fun a ha => ?_⟩)
            · have : vs.length = ds.length := owl_len ol
              show vs.length * 1 ≤ sizeLine
              exact big_line (by rw [this]; show ds.length * 1 ≤ 16000000; omega)
            · show Q _ (upd H2 a (.lst (List.replicate 1 vs).flatten))
              rw [rep_one]
              obtain ⟨l3, o3⟩ := Lay.lst (lay FL (List.Sublist.refl _)) ol2 ha
              exact q3 _ _ _ _ l3 o3
          · rw [if_neg c1] at q3
            obtain ⟨c2, q4⟩ := pof q3
            refine .inr (.inl ⟨_, _, _, rfl, rfl, hl2, by omega, by omega, ?_, fun a ha => ?_⟩)
            · have e : i.toNat = 0 := by omega
              rw [e]
              show vs.length * 0 ≤ sizeLine
              rw [Nat.mul_zero]
              exact Nat.zero_le _
            · have e : i.toNat = 0 := by omega
              rw [e]
              obtain ⟨l3, o3⟩ := Lay.lst (lay [] (List.nil_sublist _)) (OwL.nil (K := K) (b := true) (G := G2) (H := H2)) ha
              exact q4 _ _ _ _ l3 o3
      | _ => exact q2.elim
    | _ => cases i <;> exact q2.elim) fun c q2 G2 H2 n2 => q2 G2 H2 (l1.new.trans n2))) fun c q => q)
/-! ### min of ints; any of a tuple -/
def minL : List Int → Int
  | [] => 0
  | [a] => a
  | a :: l => min a (minL l)
theorem minL_mem : ∀ {l : List Int}, l ≠ [] → minL l ∈ l ∧ ∀ y ∈ l, minL l ≤ y
  | [a], _ => ⟨List.mem_cons_self, fun y hy => by rw [List.mem_singleton.mp hy]; exact Int.le_refl _⟩
  | a :: b :: l, _ => by
    obtain ⟨h1, h2⟩ := minL_mem (l := b :: l) (by simp)
    show min a (minL (b :: l)) ∈ _ ∧ ∀ y ∈ a :: b :: l, min a (minL (b :: l)) ≤ y
    refine ⟨?_, fun y hy => ?_⟩
    · by_cases c : a ≤ minL (b :: l)
      · rw [Int.min_eq_left c]; exact List.mem_cons_self
      · rw [Int.min_eq_right (by omega)]; exact List.mem_cons_of_mem _ h1
    · rcases List.mem_cons.mp hy with z | z
      · rw [z]; exact Int.min_le_left _ _
      · exact Int.le_trans (Int.min_le_right _ _) (h2 y z)
def dMin : D → Res D
  | .list xs => (ofOpt (intsOf xs)).bind fun bs => if bs ≠ [] then .ok (.int (minL bs)) else .bad
  | _ => .bad
theorem rl_min : RL K (rMin K) (d1 dMin) := rl_1 fun G H x d Q s hx p => by
  cases hx with
  | @lst a xs ds h t =>
    obtain ⟨ns, e, q⟩ := pom p
    obtain ⟨hz, q⟩ := pof q
    have e2 := rpl_ints t e
    subst e2
    refine ⟨a, ns, rfl, SqL.of (s _ _ h), List.length_pos_iff.mpr hz, fun m hm hl => ?_⟩
    obtain ⟨h1, h2⟩ := minL_mem hz
    have em : m = minL ns := Int.le_antisymm (hl _ h1) (h2 _ hm)
    rw [em]
    exact q _ G H (New.refl s) (.int _)
  | _ => exact False.elim p
theorem q1_min : Quiet1 dMin := fun d c => by
  cases d with
  | list xs => exact q_opt fun _ => q_ite fun h => by cases h
  | _ => exact fun h => by cases h
def rAnyT (K : PySem.W.Frag) : List V → Hp → VK → Prop := fun vs H Q => ∃ a xs ds, vs = [V.ref a] ∧ SqT K H a xs ∧ DpAll K H xs ds ∧ PyData.plainAll ds = true ∧ (∀ d ∈ ds, PyData.fits63 d) ∧ Q (.bl (ds.any PyData.truthy)) H
theorem cr_anyT {X : Cx} (hc : X.calm = true) : CallR X (.builtin "any") (rAnyT X.K) := by
  intro pins s σ H vs us Q I r h
  obtain ⟨a, xs, ds, rfl, hs, dp, pl, ft, q⟩ := h
  obtain ⟨its, rv, hl, _⟩ := I.tuple hs
  rw [Vals.ref1 r]
  obtain ⟨as, rd⟩ := Dp.readsAll I _ _ _ dp rv
  exact PySem.W.any_tuple_data (I.ok.hd hc) (show s.heap.IsTuple a its.toArray from hl) rd pl ft fun h' tk hk => ⟨.bl _, H, I.kept hk, rfl, q⟩
def rAnyU (K : PySem.W.Frag) : List V → Hp → VK → Prop := fun vs H Q => rAny K vs H Q ∨ rAnyT K vs H Q
theorem cr_anyU {X : Cx} (hc : X.calm = true) : CallR X (.builtin "any") (rAnyU X.K) := (cr_any hc).or (cr_anyT hc)
def fitsB : D → Bool
  | .str x => decide (x.length ≤ big)
  | .list xs => decide (xs.length ≤ big)
  | .tuple xs => decide (xs.length ≤ big)
  | _ => true
theorem fitsB_ok {d : D} (h : fitsB d = true) : PyData.fits63 d := by
  cases d with
  | str x => have := of_decide_eq_true h; unfold big at this; show (x.length : Int) < 2 ^ 63; omega
  | list x => have := of_decide_eq_true h; unfold big at this; show (x.length : Int) < 2 ^ 63; omega
  | tuple x => have := of_decide_eq_true h; unfold big at this; show (x.length : Int) < 2 ^ 63; omega
  | _ => trivial
def dAnyU : D → Res D
  | .list xs => (ofOpt (boolsOf xs)).bind fun bs => .ok (.bool (bs.any id))
  | .tuple ds => if (ds.all fun d => SeqAt.shaped d && fitsB d) = true ∧ PyData.plainAll ds = true then .ok (.bool (ds.any PyData.truthy)) else .bad
  | _ => .bad
theorem rpl_dpF : ∀ {vs : List V} {ds : List D}, RpL K G vs ds → (ds.all fun d => SeqAt.shaped d && fitsB d) = true → DpAll K.F G vs ds
  | _, _, .nil, _ => .nil
  | _, _, .cons a t, h => by
    rw [List.all_cons, Bool.and_eq_true, Bool.and_eq_true] at h
    exact .cons (rp_sh a h.1.1) (rpl_dpF t h.2)
theorem rl_anyU : RL K (rAnyU K) (d1 dAnyU) := rl_1 fun G H x d Q s hx p => by
  cases hx with
  | lst h t =>
    obtain ⟨bs, e, q⟩ := pom p
    have e2 := rpl_bools t e
    subst e2
    exact .inl ⟨_, bs, rfl, SqL.of (s _ _ h), q _ G H (New.refl s) (.bl _)⟩
  | tup h t =>
    obtain ⟨⟨h1, h2⟩, q⟩ := pof p
    refine .inr ⟨_, _, _, rfl, same_t s h, rpl_dpF (rpl_lift s t) h1, h2, fun d hd => ?_, q _ G H (New.refl s) (.bl _)⟩
    have := List.all_eq_true.mp h1 d hd
    rw [Bool.and_eq_true] at this
    exact fitsB_ok this.2
  | _ => exact False.elim p
theorem q1_anyU : Quiet1 dAnyU := fun d c => by
  cases d with
  | list xs => exact q_opt fun _ h => by cases h
  | tuple xs => exact q_ite fun h => by cases h
  | _ => exact fun h => by cases h
/-! ### a < b, of alike data -/
def rLtA (K : PySem.W.Frag) : R2 := fun x y H Q => ∃ d e, Dp K H x d ∧ Dp K H y e ∧ PySem.W.alike d e = true ∧ d ≠ .none ∧ PyData.depth d ≤ 60 ∧ Q (.bl (PySem.W.dataLt d e)) H
theorem op_ltA {X : Cx} (hu : X.A.units + 65 < cLine) : OpR X (compareOp .Lt) (rLtA X.K) := by
  intro pins s σ H x y v u Q I rx ry h
  obtain ⟨d, e, dx, dy, al, nn, dd, q⟩ := h
  obtain ⟨as, r1⟩ := Dp.reads I d x v dx rx
  obtain ⟨bs, r2⟩ := Dp.reads I e y u dy ry
  exact PySem.W.lt_data r1 r2 al nn (by have := Nat.min_le_left d.depth e.depth; omega) ⟨.bl _, H, I, rfl, q⟩
def rLtU (K : PySem.W.Frag) : R2 := fun x y H Q => rI0 (fun i j => .bl (decide (i < j))) x y H Q ∨ rLtA K x y H Q
theorem op_ltU {X : Cx} (hu : X.A.units + 65 < cLine) : OpR X (compareOp .Lt) (rLtU X.K) := op_lt.or (op_ltA hu)
def dLtU : D → D → Res D
  | .int i, .int j => .ok (.bool (decide (i < j)))
  | .tuple xs, .tuple ys => if SeqAt.shaped (.tuple xs) = true ∧ SeqAt.shaped (.tuple ys) = true ∧ PySem.W.alike (.tuple xs) (.tuple ys) = true ∧ PyData.depth (.tuple xs) ≤ 60 then .ok (.bool (PySem.W.dataLt (.tuple xs) (.tuple ys))) else .bad
  | _, _ => .bad
theorem rd_ltU : RD K (rLtU K) dLtU := fun G H x y d e Q s hx hy p => by
  cases d with
  | int i =>
    cases e with
    | int j => cases hx; cases hy; exact .inl ⟨_, _, rfl, rfl, p _ G H (New.refl s) (.bl _)⟩
    | _ => exact False.elim p
  | tuple xs =>
    cases e with
    | tuple ys =>
      obtain ⟨⟨h1, h2, h3, h4⟩, q⟩ := pof p
      exact .inr ⟨_, _, dp_lift s hx h1, dp_lift s hy h2, h3, (fun h => by cases h), h4, q _ G H (New.refl s) (.bl _)⟩
    | _ => exact False.elim p
  | _ => exact False.elim p
theorem q2_ltU : Quiet2 dLtU := fun d e c h => by unfold dLtU at h; split at h <;> (try split at h) <;> cases h
/-! ### {k: v}, of which nothing is told -/
def tDispK (tk tv : TE) : TE := tDisp [(tk, tv)]
def eDispK (f g : EF) : EF := fun ρ => (f ρ).bind fun k => (g ρ).bind fun _ => match k with
  | .int _ => .ok dkD
  | _ => .bad
theorem snd_dispK {tk tv : TE} {f g : EF} (hk : Snd K vs0 W tk f) (hv : Snd K vs0 W tv g) : Snd K vs0 W (tDisp [(tk, tv)]) (eDispK f g) := fun σ G H ρ F Q S p => fun a ha => by
  have n0 := New.upd (o := .dK []) S.same ha
  refine hk σ (upd G a (.dK [])) _ ρ F _ (S.new n0) (p.bind.imp (fun k q x G1 H1 n1 r1 => ?_) fun c z G' H' n => z G' H' (n0.trans n))
  refine hv σ G1 H1 ρ F _ ((S.new n0).new n1) (q.bind.imp (fun v q2 y G2 H2 n2 r2 => ?_) fun c z G' H' n => z G' H' (n0.trans (n1.trans n)))
  cases k with
  | int i =>
    cases r1
    have q3 : ∀ v G' H', New G H G' H' → Rp K G' v dkD → Q v H' := q2
    have n12 := n1.trans n2
    have ga : G a = none := by
      cases e : G a with
      | none => rfl
      | some u => rw [S.same a u e] at ha; cases ha
    have g2 : G2 a = some (.dK []) := n12.same n0.inn a _ upd_same
    have h2 : H2 a = some (.dK []) := n2.inn a _ g2
    refine ⟨h2, [(Sum.inl i, y)], rfl, (show 1 ≤ 15 by decide), ?_⟩
    refine q3 _ (upd G2 a (.dK (mergeK [] [(Sum.inl i, y)]))) _ ⟨fun b o e => ?_, fun b o e => ?_, fun b h => ?_⟩ (.dk upd_same)
    · have nb : b ≠ a := fun z => by rw [z, ha] at e; cases e
      rw [upd_ne nb]
      exact (n0.trans n12).keep b o e
    · by_cases nb : b = a
      · subst nb
        rw [upd_same] at e ⊢
        exact e
      · rw [upd_ne nb] at e ⊢
        exact n2.inn b o e
    · have nb : b ≠ a := fun z => h (by rw [z]; exact ha)
      rw [upd_ne nb]
      exact (n0.trans n12).quiet b h
  | _ => exact q2.elim
end
end Fw

set_option Elab.async false
set_option linter.all false
set_option maxRecDepth 100000
set_option maxHeartbeats 4000000
namespace Fw
open PySem PySem.Spec PyProof.Rows L2
section
variable {K : KW} {vs0 : List V} {W : WN} {G H G' H' G1 H1 : Hp} {σ : L2.St} {ρ : Rho} {F F1 : List Addr} {Dn : Ends}
/-! ### a loop over a list of one's own: each of its lists is one's own within a turn, and let go behind it -/
def forOGo (i : Nat) (body : SF) : List D → SF
  | [], ρ => .nx ρ
  | d :: ds, ρ => if isList d = true ∧ i < ρ.length then loopOut (body (ρ.set i (.o none true d))) (forOGo i body ds) else .bad
def sForO (i j : Nat) (body : SF) : SF := fun ρ => match ρ[j]? with
  | some (.o none true (.list ds)) => forOGo i body ds (ρ.set j .no)
  | _ => .bad
/-- what is still to come: outside of the slots -/
structure Fr (K : KW) (F0 : List Addr) (p : Addr) (vs : List V) (G H : Hp) (F : List Addr) (ws : List V) (ds : List D) (FR : List Addr) : Prop where
  cell : H p = some (.lst vs)
  rows : OwL K true G H FR ws ds
  nd : FR.Nodup
  out : ∀ a ∈ FR, G a = none
  dis : ∀ a ∈ FR, a ∉ F
  pdis : p ∉ F
  inn : ∀ a ∈ FR, a ∈ F0
  pfr : p ∉ FR
theorem Fr.adv {F0 : List Addr} {p : Addr} {vs ws : List V} {ds : List D} {FR F' : List Addr} (f : Fr K F0 p vs G H F ws ds FR) (a : Adv F G H F' G' H') : Fr K F0 p vs G' H' F' ws ds FR := by
  have live : ∀ x ∈ FR, ∃ o, H x = some o := fun x hx => by
    obtain ⟨xs, e⟩ := owl_lst f.rows x hx
    exact ⟨_, e⟩
  have kp : ∀ x ∈ FR, H' x = H x := fun x hx => by
    obtain ⟨o, e⟩ := live x hx
    rw [e]
    exact a.keep x o e (f.dis x hx)
  refine ⟨a.keep _ _ f.cell f.pdis, owl_move a.same f.rows kp, f.nd, fun x hx => ?_, fun x hx hx2 => ?_, fun hx2 => ?_, f.inn, f.pfr⟩
  · obtain ⟨o, e⟩ := live x hx
    rw [a.quiet x (nn_of e) (f.dis x hx)]
    exact f.out x hx
  · obtain ⟨o, e⟩ := live x hx
    rcases a.foot x hx2 with z | z
    · exact f.dis x hx z
    · rw [e] at z; cases z
  · rcases a.foot p hx2 with z | z
    · exact f.pdis z
    · rw [f.cell] at z; cases z
theorem owl_head {b : Bool} {ws : List V} {d : D} {ds : List D} {FR : List Addr} (h : OwL K b G H FR ws (d :: ds)) : ∃ v vs A B, ws = v :: vs ∧ FR = A ++ B ∧ Ow K b G H A v d ∧ OwL K b G H B vs ds := by
  cases h with
  | cons h t => exact ⟨_, _, _, _, rfl, rfl, h, t⟩
theorem snds_forO {i j : Nat} {tb : TS} {fb : SF} (hb : SndS K vs0 W tb fb) : SndS K vs0 W (tFor (iSeq K (tVar j)) (gName i) tb) (sForO i j fb) := fun σ G H ρ F Dn S p => by
  unfold sForO at p
  split at p
  · rename_i ds e
    obtain ⟨v, A, FL, B, eF, es, on, k⟩ := S.rel.omove e
    cases on with
    | val r c _ => cases c
    | node hp hl =>
      rename_i p0 vs FL
      subst eF
      have nd := S.nd
      have nd2 := nodup_mid nd
      have hd := List.nodup_append.mp nd2
      have hd1 := List.nodup_cons.mp hd.1
      refine ⟨.ref p0, es, .inl ⟨p0, rfl, ⟨vs, SqL.of hp⟩, fun n m σ' H' => m = ds.length - n ∧ n ≤ ds.length ∧ ∃ Gi Fi ρi FR, Sts K vs0 Gi H' σ' ρi Fi ∧ Adv (A ++ (p0 :: FL ++ B)) G H Fi Gi H' ∧ Fr K (A ++ (p0 :: FL ++ B)) p0 vs Gi H' Fi (vs.drop n) (ds.drop n) FR ∧ PostS K vs0 W Dn (A ++ (p0 :: FL ++ B)) G H (forOGo i fb (ds.drop n) ρi),
        ⟨ds.length, by simp, Nat.zero_le _, G, A ++ B, ρ.set j .no, FL, ⟨S.same, k, hd.2.1, fun a ha => S.out a (by rcases List.mem_append.mp ha with z | z <;> simp [z])⟩, ⟨fun _ _ h _ => h, fun a ha => .inl (by rcases List.mem_append.mp ha with z | z <;> simp [z]), Same.refl _, fun _ _ _ => rfl⟩,
          ⟨hp, hl, hd1.2, fun a ha => S.out a (by simp [ha]), fun a ha ha2 => hd.2.2 a (List.mem_cons_of_mem _ ha) a ha2 rfl, fun ha2 => hd.2.2 p0 List.mem_cons_self p0 ha2 rfl, fun a ha => by simp [ha], hd1.1⟩, p⟩, ?_⟩⟩
      rintro n m σ' H' ⟨rfl, hle, Gi, Fi, ρi, FR, Si, ai, fi, pi⟩
      have lv := owl_len hl
      by_cases hlt : n < ds.length
      · refine .inr ⟨(walk_list (xs := vs)).goes n H' (by rw [lv]; exact hlt) (SqL.of fi.cell), fun σ'' H'' => ∃ Gi Fi ρi FR, Sts K vs0 Gi H'' σ'' ρi Fi ∧ Adv (A ++ (p0 :: FL ++ B)) G H Fi Gi H'' ∧ Fr K (A ++ (p0 :: FL ++ B)) p0 vs Gi H'' Fi (vs.drop (n + 1)) (ds.drop (n + 1)) FR ∧ PostS K vs0 W Dn (A ++ (p0 :: FL ++ B)) G H (forOGo i fb (ds.drop (n + 1)) ρi), fun σ'' H'' h => ⟨ds.length - (n + 1), by omega, rfl, hlt, h⟩, fun x H2 y => ?_⟩
        obtain ⟨rfl, ex⟩ := (walk_list (xs := vs)).yields n H' x H2 (by rw [lv]; exact hlt) (SqL.of fi.cell) y
        have ed : ds[n]? = some ds[n] := List.getElem?_eq_getElem hlt
        have dd := drop_at ed
        have fr := fi.rows
        rw [dd] at fr pi
        obtain ⟨v1, vr, A1, B1, ev, rfl, o1, orest⟩ := owl_head fr
        have e1 : v1 = x ∧ vr = vs.drop (n + 1) := by
          rw [drop_at ex] at ev
          injection ev with h1 h2
          exact ⟨h1.symm, h2.symm⟩
        obtain ⟨rfl, rfl⟩ := e1
        have pi : PostS K vs0 W Dn (A ++ (p0 :: FL ++ B)) G H (if isList ds[n] = true ∧ i < ρi.length then loopOut (fb (ρi.set i (.o none true ds[n]))) (forOGo i fb (ds.drop (n + 1))) else .bad) := pi
        split at pi
        case isFalse => exact pi.elim
        case isTrue c =>
        have ndA := List.nodup_append.mp fi.nd
        obtain ⟨A2, B2, t2, s2⟩ := Si.rel.setO i (ow_on o1) c.2
        have inFi : ∀ a, a ∈ A2 ∨ a ∈ B2 → a ∈ Fi := fun a ha => s2.subset (List.mem_append.mpr ha)
        have nd3 : (A2 ++ (A1 ++ B2)).Nodup := by
          have n1 : (A2 ++ B2).Nodup := s2.nodup Si.nd
          have n2 := List.nodup_append.mp n1
          rw [List.nodup_append]
          refine ⟨n2.1, List.nodup_append.mpr ⟨ndA.1, n2.2.1, fun a ha b hb e => ?_⟩, fun a ha b hb e => ?_⟩
          · subst e
            exact fi.dis a (List.mem_append_left _ ha) (inFi a (.inr hb))
          · subst e
            rcases List.mem_append.mp hb with z | z
            · exact fi.dis a (List.mem_append_left _ z) (inFi a (.inl ha))
            · exact n2.2.2 a ha a z rfl
        have S2 : Sts K vs0 Gi H2 (σ'.set i (some v1)) (ρi.set i (.o none true ds[n])) (A2 ++ (A1 ++ B2)) := ⟨Si.same, t2, nd3, fun a ha => by
          rcases List.mem_append.mp ha with z | z
          · exact Si.out a (inFi a (.inl z))
          · rcases List.mem_append.mp z with z | z
            · exact fi.out a (List.mem_append_left _ z)
            · exact Si.out a (inFi a (.inr z))⟩
        have a2 : Adv (A ++ (p0 :: FL ++ B)) G H (A2 ++ (A1 ++ B2)) Gi H2 := ⟨ai.keep, fun a ha => by
          rcases List.mem_append.mp ha with z | z
          · exact ai.foot a (inFi a (.inl z))
          · rcases List.mem_append.mp z with z | z
            · exact .inl (fi.inn a (List.mem_append_left _ z))
            · exact ai.foot a (inFi a (.inr z)), ai.same, ai.quiet⟩
        have f2 : Fr K (A ++ (p0 :: FL ++ B)) p0 vs Gi H2 (A2 ++ (A1 ++ B2)) (vs.drop (n + 1)) (ds.drop (n + 1)) B1 := ⟨fi.cell, orest, ndA.2.1, fun a ha => fi.out a (List.mem_append_right _ ha), fun a ha ha2 => by
          rcases List.mem_append.mp ha2 with z | z
          · exact fi.dis a (List.mem_append_right _ ha) (inFi a (.inl z))
          · rcases List.mem_append.mp z with z | z
            · exact ndA.2.2 a z a ha rfl
            · exact fi.dis a (List.mem_append_right _ ha) (inFi a (.inr z)), fun ha2 => by
          rcases List.mem_append.mp ha2 with z | z
          · exact fi.pdis (inFi _ (.inl z))
          · rcases List.mem_append.mp z with z | z
            · exact fi.pfr (List.mem_append_left _ z)
            · exact fi.pdis (inFi _ (.inr z)), fun a ha => fi.inn a (List.mem_append_right _ ha), fun z => fi.pfr (List.mem_append_right _ z)⟩
        refine hb _ Gi H2 _ _ _ S2 ?_
        have q := PostS.from a2 pi
        generalize fb (ρi.set i (.o none true ds[n])) = o at q pi
        have fin : ∀ ρ', PostS K vs0 W Dn (A2 ++ (A1 ++ B2)) Gi H2 (forOGo i fb (ds.drop (n + 1)) ρ') → PostS K vs0 W Dn (A ++ (p0 :: FL ++ B)) G H (forOGo i fb (ds.drop (n + 1)) ρ') → ∀ σ4 G4 H4 F4, Sts K vs0 G4 H4 σ4 ρ' F4 → Adv (A2 ++ (A1 ++ B2)) Gi H2 F4 G4 H4 → ∃ Gi Fi ρi FR, Sts K vs0 Gi H4 σ4 ρi Fi ∧ Adv (A ++ (p0 :: FL ++ B)) G H Fi Gi H4 ∧ Fr K (A ++ (p0 :: FL ++ B)) p0 vs Gi H4 Fi (vs.drop (n + 1)) (ds.drop (n + 1)) FR ∧ PostS K vs0 W Dn (A ++ (p0 :: FL ++ B)) G H (forOGo i fb (ds.drop (n + 1)) ρi) :=
          fun ρ' _ p' σ4 G4 H4 F4 S4 a4 => ⟨G4, F4, ρ', B1, S4, a2.trans a4, f2.adv a4, p'⟩
        cases o with
        | bad => exact q.elim
        | nx ρ' => exact fin ρ' q pi
        | ct ρ' => exact fin ρ' q pi
        | brk ρ' => exact q
        | ret s ρ' => exact q
        | exc c ρ' => exact q
      · have en : n = ds.length := by omega
        subst en
        rw [List.drop_length] at pi
        refine .inl ⟨by rw [← lv]; exact walk_list.stops H' (SqL.of fi.cell), pi σ' Gi H' Fi Si ai⟩
  · exact p.elim
end
end Fw

set_option Elab.async false
set_option linter.all false
set_option maxRecDepth 100000
set_option maxHeartbeats 4000000
namespace Fw
open PySem PySem.Spec PyProof.Rows L2
section
variable {K : KW} {vs0 : List V} {W : WN} {G H G' H' G1 H1 : Hp} {σ : L2.St} {ρ : Rho} {F F1 : List Addr} {Dn : Ends}
/-! ### texts: their methods -/
def eM1 (g : Str → D → Res D) (f1 f2 : EF) : EF := fun ρ => (f1 ρ).bind fun d => match d with
  | .str a => (f2 ρ).bind fun e => g a e
  | _ => .bad
def RM (K : KW) (r : V → List V → Hp → VK → Prop) (g : Str → D → Res D) : Prop := ∀ G H a y e (Q : VK), Same G H → Rp K G y e → Post (g a e) (fun z => ∀ v G' H', New G H G' H' → Rp K G' v z → Q v H') (fun _ => False) → r (.str a) [y] H Q
def RMO (K : KW) (r : V → List V → Hp → VK → Prop) (g : Str → D → Res D) : Prop := ∀ G H a y e (Q : VK), Same G H → Rp K G y e → Post (g a e) (fun z => ∀ v F' G' H', Lay G H F' G' H' → On K false G' H' F' v z → Q v H') (fun _ => False) → r (.str a) [y] H Q
theorem snd_m1 {to te : TE} {f1 f2 : EF} {r : V → List V → Hp → VK → Prop} {g : Str → D → Res D} (hr : RM K r g) (hq : ∀ a, Quiet1 (g a)) (h1 : Snd K vs0 W to f1) (h2 : Snd K vs0 W te f2) : Snd K vs0 W (tM1 r to te) (eM1 g f1 f2) := fun σ G H ρ F Q S p =>
  h1 σ G H ρ F _ S (p.bind.imp (fun d q v G1 H1 n1 d1 => by
    cases d with
    | str a =>
      cases d1
      exact ⟨⟨a, rfl⟩, h2 σ G1 H1 ρ F _ (S.new n1) ((show Post (Res.bind _ _) _ _ from q).bind.imp (fun e q2 u G2 H2 n2 d2 =>
        hr G2 H2 a u e Q n2.inn d2 ((post_w (hq a e) q2).imp (fun z q3 w G3 H3 n3 d3 => q3 w G3 H3 ((n1.trans n2).trans n3) d3) fun _ z => z)) fun c q2 G2 H2 n2 => q2 G2 H2 (n1.trans n2))⟩
    | _ => exact False.elim q) fun c q => q)
theorem sndo_m1 {to te : TE} {f1 f2 : EF} {r : V → List V → Hp → VK → Prop} {g : Str → D → Res D} (hr : RMO K r g) (hq : ∀ a, Quiet1 (g a)) (h1 : Snd K vs0 W to f1) (h2 : Snd K vs0 W te f2) : SndO K vs0 W false (tM1 r to te) (eM1 g f1 f2) := fun σ G H ρ F Q S p =>
  h1 σ G H ρ F _ S (p.bind.imp (fun d q v G1 H1 n1 d1 => by
    cases d with
    | str a =>
      cases d1
      exact ⟨⟨a, rfl⟩, h2 σ G1 H1 ρ F _ (S.new n1) ((show Post (Res.bind _ _) _ _ from q).bind.imp (fun e q2 u G2 H2 n2 d2 =>
        hr G2 H2 a u e Q n2.inn d2 ((post_w (hq a e) q2).imp (fun z q3 w F3 G3 H3 n3 d3 => q3 w F3 G3 H3 (Lay.trans (fun a h => by cases h) (.pure (n1.trans n2)) n3) d3) fun _ z => z)) fun c q2 G2 H2 n2 => q2 G2 H2 (n1.trans n2))⟩
    | _ => exact False.elim q) fun c q => q)
def strsOf : List D → Option (List Str)
  | [] => some []
  | .str x :: ds => (strsOf ds).map fun xs => x :: xs
  | _ => none
theorem rpl_strs : ∀ {vs : List V} {ds : List D} {ys : List Str}, RpL K G vs ds → strsOf ds = some ys → vs = ys.map V.str
  | _, _, ys, .nil, e => by
    cases e
    rfl
  | _, d :: ds, ys, .cons a t, e => by
    cases d with
    | str x =>
      cases a
      have e' : (strsOf ds).map (fun xs => x :: xs) = some ys := e
      cases q : strsOf ds with
      | none => rw [q] at e'; cases e'
      | some zs =>
        rw [q] at e'
        cases e'
        rw [rpl_strs t q]
        rfl
    | _ => cases e
def joinFits (a : Str) (ys : List Str) : Bool := decide ((ys.map (·.length)).sum + ys.length * a.length ≤ big)
def dJoin (a : Str) : D → Res D
  | .list ds => (ofOpt (strsOf ds)).bind fun ys => if joinFits a ys = true then .ok (.str (Txt.join a ys)) else .bad
  | .tuple ds => (ofOpt (strsOf ds)).bind fun ys => if joinFits a ys = true then .ok (.str (Txt.join a ys)) else .bad
  | _ => .bad
abbrev rJoin (K : KW) : V → List V → Hp → VK → Prop := fun x xs H Q => ∃ a p, ∃ ys : List Str, x = .str a ∧ xs = [.ref p] ∧ (SqL K H p (ys.map V.str) ∨ SqT K H p (ys.map V.str)) ∧ (ys.map (·.length)).sum + ys.length * a.length ≤ 16777216 ∧ Q (.str (Txt.join a ys)) H
theorem jf {a : Str} {ys : List Str} (h : joinFits a ys = true) : (ys.map (·.length)).sum + ys.length * a.length ≤ 16777216 := by
  have h2 := of_decide_eq_true h
  unfold big at h2
  omega
theorem ofo {α : Type} {o : Option α} {k : α → Res D} {A : D → Prop} {B : Nat → Prop} (hb : ∀ c, ¬ B c) (p : Post ((ofOpt o).bind k) A B) : ∃ a, o = some a ∧ Post (k a) A B := by
  cases o with
  | none => exact p.elim
  | some a => exact ⟨a, rfl, p⟩
theorem rm_join : RM K (rJoin K) dJoin := fun G H a y e Q s hy p => by
  cases e with
  | list ds =>
    obtain ⟨ys, e, q⟩ := ofo (fun _ z => z) p
    obtain ⟨c, q⟩ := pof q
    cases hy with
    | lst h t =>
      have e2 := rpl_strs t e
      subst e2
      exact ⟨a, _, ys, rfl, rfl, .inl (SqL.of (s _ _ h)), jf c, q _ G H (New.refl s) (.str _)⟩
  | tuple ds =>
    obtain ⟨ys, e, q⟩ := ofo (fun _ z => z) p
    obtain ⟨c, q⟩ := pof q
    cases hy with
    | tup h t =>
      have e2 := rpl_strs t e
      subst e2
      exact ⟨a, _, ys, rfl, rfl, .inr (same_t s h), jf c, q _ G H (New.refl s) (.str _)⟩
  | _ => exact p.elim
theorem qm_join (a : Str) : Quiet1 (dJoin a) := fun d c h => by
  unfold dJoin at h
  split at h
  · rename_i ds
    cases q : strsOf ds with
    | none => rw [q] at h; cases h
    | some ys =>
      rw [q] at h
      have h : (if joinFits a ys = true then Res.ok (PyData.str (Txt.join a ys)) else .bad) = .exc c := h
      split at h <;> cases h
  · rename_i ds
    cases q : strsOf ds with
    | none => rw [q] at h; cases h
    | some ys =>
      rw [q] at h
      have h : (if joinFits a ys = true then Res.ok (PyData.str (Txt.join a ys)) else .bad) = .exc c := h
      split at h <;> cases h
  · cases h
def dRemp (a : Str) : D → Res D
  | .str b => if a.length ≤ big then .ok (.str (Txt.removeprefix a b)) else .bad
  | _ => .bad
abbrev rRemp : V → List V → Hp → VK → Prop := fun x xs H Q => ∃ a b, x = .str a ∧ xs = [.str b] ∧ a.length ≤ sizeLine ∧ Q (.str (Txt.removeprefix a b)) H
theorem rm_remp : RM K rRemp dRemp := fun G H a y e Q s hy p => by
  cases e with
  | str b =>
    cases hy
    obtain ⟨c, q⟩ := pof p
    exact ⟨a, b, rfl, rfl, by have : sizeLine = 16777216 := sizeLine_eq; unfold big at c; omega, q _ G H (New.refl s) (.str _)⟩
  | _ => exact p.elim
theorem qm_remp (a : Str) : Quiet1 (dRemp a) := fun d c h => by
  unfold dRemp at h
  split at h
  · split at h <;> cases h
  · cases h
def dStartsw (a : Str) : D → Res D
  | .str b => .ok (.bool (Txt.startswith a b))
  | _ => .bad
abbrev rStartsw : V → List V → Hp → VK → Prop := fun x xs H Q => ∃ a b, x = .str a ∧ xs = [.str b] ∧ Q (.bl (Txt.startswith a b)) H
theorem rm_startsw : RM K rStartsw dStartsw := fun G H a y e Q s hy p => by
  cases e with
  | str b =>
    cases hy
    exact ⟨a, b, rfl, rfl, p _ G H (New.refl s) (.bl _)⟩
  | _ => exact p.elim
theorem qm_startsw (a : Str) : Quiet1 (dStartsw a) := fun d c h => by
  unfold dStartsw at h
  split at h <;> cases h
def dSplit (a : Str) : D → Res D
  | .str b => if (b.length == 0) = false ∧ a.length ≤ big then .ok (.list ((Txt.split a b).map PyData.str)) else .bad
  | _ => .bad
abbrev rSplit : V → List V → Hp → VK → Prop := fun x xs H Q => ∃ a b, x = .str a ∧ xs = [.str b] ∧ (b.length == 0) = false ∧ a.length + 2 ≤ sizeLine ∧ rNewStrs (Txt.split a b) H Q
theorem rpl_str : ∀ ys : List Str, RpL K G (ys.map V.str) (ys.map PyData.str)
  | [] => .nil
  | y :: ys => .cons (.str _) (rpl_str ys)
theorem rm_split : RMO K rSplit dSplit := fun G H a y e Q s hy p => by
  cases e with
  | str b =>
    cases hy
    obtain ⟨c, q⟩ := pof p
    refine ⟨a, b, rfl, rfl, c.1, by have := c.2; have : sizeLine = 16777216 := sizeLine_eq; unfold big at *; omega, fun p hp => ?_⟩
    obtain ⟨l, o⟩ := Lay.lst (.pure (New.refl s)) (owl_leaves (b := false) (H := H) (rpl_str (K := K) (G := G) (Txt.split a b)) fun z => by cases z) hp
    exact q _ _ _ _ l o
  | _ => exact p.elim
theorem qm_split (a : Str) : Quiet1 (dSplit a) := fun d c h => by
  unfold dSplit at h
  split at h
  · split at h <;> cases h
  · cases h
/-! ### str(x), int(text) -/
def dStrOf : D → Res D
  | .int i => if i.natAbs.log2 < 1920 then .ok (.str (Str.ofString (toString i))) else .bad
  | .str a => .ok (.str a)
  | _ => .bad
abbrev rStrOf : List V → Hp → VK → Prop := fun xs H Q => (∃ i, xs = [.int i] ∧ i.natAbs.log2 < 1920 ∧ Q (.str (Str.ofString (toString i))) H) ∨ (∃ a, xs = [.str a] ∧ Q (.str a) H)
theorem call_strOf {X : Cx} : CallR X (.type "str") rStrOf := call_str_int.or SkE.call_str_str
theorem rl_strOf : RL K rStrOf (d1 dStrOf) := rl_1 fun G H x d Q s hx p => by
  cases d with
  | int i =>
    cases hx
    obtain ⟨c, q⟩ := pof p
    exact .inl ⟨i, rfl, c, q _ G H (New.refl s) (.str _)⟩
  | str a =>
    cases hx
    exact .inr ⟨a, rfl, p _ G H (New.refl s) (.str _)⟩
  | _ => exact p.elim
theorem q1_strOf : Quiet1 dStrOf := fun d c h => by
  unfold dStrOf at h
  split at h
  · split at h <;> cases h
  · cases h
  · cases h
def dIntT : D → Res D
  | .str a => (ofOpt (PySem.intText? a)).bind fun n => if a.length ≤ 640 then .ok (.int n) else .bad
  | _ => .bad
abbrev rIntT : List V → Hp → VK → Prop := fun xs H Q => ∃ a n, xs = [.str a] ∧ PySem.intText? a = some n ∧ a.length ≤ 640 ∧ Q (.int n) H
theorem rl_intT : RL K rIntT (d1 dIntT) := rl_1 fun G H x d Q s hx p => by
  cases d with
  | str a =>
    cases hx
    obtain ⟨n, e, q⟩ := ofo (fun _ z => z) p
    obtain ⟨c, q⟩ := pof q
    exact ⟨a, n, rfl, e, c, q _ G H (New.refl s) (.int _)⟩
  | _ => exact p.elim
theorem q1_intT : Quiet1 dIntT := fun d c h => by
  unfold dIntT at h
  split at h
  · rename_i a
    cases q : PySem.intText? a with
    | none => rw [q] at h; cases h
    | some n =>
      rw [q] at h
      have h : (if a.length ≤ 640 then Res.ok (PyData.int n) else .bad) = .exc c := h
      split at h <;> cases h
  · cases h
/-! ### the signs of a text -/
def signs (x : Str) : List D := x.cps.toList.map fun c => PyData.str ⟨#[c]⟩
def wStr (f : EF) : AF := fun ρ => (f ρ).bind fun d => match d with
  | .str x => .ok (signs x)
  | _ => .bad
theorem its_str {x : Str} : Its K (L2.Its x) G (signs x) where
  goes := fun i H G1 hi _ _ => (walk_str (z := x)).goes i H (by simpa [signs] using hi) trivial
  stops := fun H G1 _ _ => by
    have := (walk_str (z := x)).stops H trivial
    simpa [signs] using this
  yields := fun i H G1 v H' hi s s1 y => by
    obtain ⟨rfl, c, e, rfl⟩ := (walk_str (z := x)).yields i H v H' (by simpa [signs] using hi) trivial y
    refine ⟨.str ⟨#[c]⟩, G1, ?_, New.refl s1, .str _⟩
    unfold signs
    rw [List.getElem?_map, Array.getElem?_toList, e]
    rfl
theorem sndw_str {te : TE} {f : EF} (h : Snd K vs0 W te f) : SndW K vs0 W (iStr te) (wStr f) := fun σ G H ρ F R S p =>
  h σ G H ρ F _ S (p.bind.imp (fun d q v G1 H1 n1 d1 => by
    cases d with
    | str x =>
      cases d1
      exact ⟨x, rfl, q _ G1 H1 n1 its_str⟩
    | _ => exact False.elim q) fun c q => q)
end
end Fw

set_option Elab.async false
set_option linter.all false
set_option maxRecDepth 100000
set_option maxHeartbeats 4000000
namespace Fw
open PySem PySem.Spec PyProof.Rows L2
section
variable {K : KW} {vs0 : List V} {W : WN} {G H G' H' G1 H1 : Hp} {σ : L2.St} {ρ : Rho} {F F1 : List Addr} {Dn : Ends} {C : Nat → Addr}
/-! ### try: what a suite tells of the caught one -/
def sTryG (n : Nat) (f : SF) (q : Nat → D) : SF := fun ρ => match f ρ with
  | .exc c ρ' => if c < 5 ∧ n ≤ ρ'.length then .ret (.p (q c)) ρ' else .bad
  | .nx ρ' => .nx ρ'
  | .ret s ρ' => .ret s ρ'
  | _ => .bad
theorem snds_tryG {i n : Nat} {cw : Value} {tb : WX → TS} {fb : SF} {ts : Addr → Value → Option Addr → TS} {Wout : WX} {q : Nat → D} {qv : Nat → V} (hq : ∀ c (G : Hp), Rp K G (qv c) (q c)) (hb : ∀ W : WX, SndS K vs0 (wn C W) (tb W) fb) (hx : ∀ c, c < 5 → PySem.W.exmOne K (.ref (C c)) cw = some true)
    (hts : ∀ c, c < 5 → ∀ (a : Addr) (Dn : Ends) (σ : L2.St) (H : Hp), n ≤ σ.length → σ[i]? = some (some (.ref a)) → Dn.rt (qv c) H → ts a (.ref (C c)) none Dn σ H) (hi : i < n) :
    SndS K vs0 W (fun D σ H => tb (wAs K cw i ts Wout D) D σ H) (sTryG n fb q) := fun σ G H ρ F Dn S p => by
  refine hb _ σ G H ρ F Dn S ?_
  unfold sTryG at p
  cases e : fb ρ with
  | nx ρ' => rw [e] at p; exact p
  | ret s ρ' => rw [e] at p; exact p
  | exc c ρ' =>
    rw [e] at p
    have p' : PostS K vs0 W Dn F G H (if c < 5 ∧ n ≤ ρ'.length then .ret (.p (q c)) ρ' else .bad) := p
    by_cases hc : c < 5 ∧ n ≤ ρ'.length
    · rw [if_pos hc] at p'
      intro σ' G' H' F' S' a
      refine ⟨true, hx c hc.1, fun _ x hx => ?_, fun z => by cases z⟩
      have hl : n ≤ σ'.length := by
        rw [S'.rel.len]
        exact hc.2
      refine hts c hc.1 x _ _ _ (by rw [List.length_set]; exact hl) (by rw [List.getElem?_set_self (by omega)]) (p' (qv c) σ' G' H' F' ⟨S'.same, .p (hq c G') S'.rel, S'.nd, S'.out⟩ a)
    · rw [if_neg hc] at p'
      exact p'.elim
  | _ => rw [e] at p; exact p.elim
/-- try .. except X: (one class, no name) -/
def sTryO (x0 : Nat) (f g : SF) : SF := fun ρ => match f ρ with
  | .exc c ρ' => if c = x0 then g ρ' else .bad
  | .nx ρ' => .nx ρ'
  | .ret s ρ' => .ret s ρ'
  | _ => .bad
theorem snds_tryO {x0 : Nat} {cw : Value} {tb : WX → TS} {fb gs : SF} {ts : Addr → Value → Option Addr → TS} {Wout : WX} (hb : ∀ W : WX, SndS K vs0 (wn C W) (tb W) fb) (hx : PySem.W.exmOne K (.ref (C x0)) cw = some true) (hs : ∀ a, SndS K vs0 W (ts a (.ref (C x0)) none) gs) :
    SndS K vs0 W (fun D σ H => tb (wOnly K cw ts Wout D) D σ H) (sTryO x0 fb gs) := fun σ G H ρ F Dn S p => by
  refine hb _ σ G H ρ F Dn S ?_
  unfold sTryO at p
  cases e : fb ρ with
  | nx ρ' => rw [e] at p; exact p
  | ret s ρ' => rw [e] at p; exact p
  | exc c ρ' =>
    rw [e] at p
    have p' : PostS K vs0 W Dn F G H (if c = x0 then gs ρ' else .bad) := p
    by_cases hc : c = x0
    · subst hc
      rw [if_pos rfl] at p'
      intro σ' G' H' F' S' a
      exact ⟨true, hx, fun _ x hx => hs x σ' G' H' ρ' F' Dn S' (p'.from a), fun z => by cases z⟩
    · rw [if_neg hc] at p'
      exact p'.elim
  | _ => rw [e] at p; exact p.elim
/-! ### suites, told by what they answer -/
def Ex (t : TE) (σ : L2.St) (H : Hp) (v : V) : Prop := ∀ Q : VK, Q v H → t σ H Q
def ExT (t : TT) (σ : L2.St) (H : Hp) (b : Bool) : Prop := ∀ Q : Bool → Hp → Prop, Q b H → t σ H Q
theorem ex_is {D a : Addr} {i : Nat} {c : V} {cv : Value} {b : Bool} (hs : σ[i]? = some (some (.ref a))) (hc : ∀ u, RelV c u → u = cv) (k : PySem.W.kitOne K (.ref D) cv = some b) : Ex (tIsE K D a i c) σ H (.bl b) := fun Q q => isE hs hc k q
theorem ex_or {ta tb : TE} {a b : Bool} (ha : Ex ta σ H (.bl a)) (hb : Ex tb σ H (.bl b)) : Ex (tOrV ta tb) σ H (.bl (a || b)) := fun Q q => orV ha hb q
theorem ex_and {ta tb : TE} {a b : Bool} (ha : Ex ta σ H (.bl a)) (hb : Ex tb σ H (.bl b)) : Ex (tAndV ta tb) σ H (.bl (a && b)) := fun Q q => andV ha hb q
theorem ex_not {ta : TE} {a : Bool} (ha : Ex ta σ H (.bl a)) : Ex (tNotV ta) σ H (.bl (!a)) := fun Q q => ha _ ⟨a, rfl, q⟩
theorem ex_var {i : Nat} {v : V} (h : σ[i]? = some (some v)) : Ex (tVar i) σ H v := fun Q q => ⟨v, h, q⟩
theorem ex_c {v : V} : Ex (tC v) σ H v := fun Q q => q
theorem ex_int {t : TE} {b : Bool} (h : Ex t σ H (.bl b)) : Ex (tCB rIntU (tCons t tNil)) σ H (.int (if b then 1 else 0)) := fun Q q => h _ (.inr ⟨b, rfl, q⟩)
def once (z : Str) (b : Bool) : Str := strRep z (if b then 1 else 0)
theorem once_len (z : Str) (b : Bool) : (once z b).length ≤ z.length := by
  show (once z b).cps.size ≤ z.cps.size
  unfold once strRep
  rw [fold_len]
  cases b <;> simp
theorem ex_mul {t u : TE} {z : Str} {b : Bool} (h1 : Ex t σ H (.str z)) (h : Ex u σ H (.int (if b then 1 else 0))) (hz : z.length ≤ 1000) : Ex (tOp (rMulU K) t u) σ H (.str (once z b)) := fun Q q =>
  h1 _ (h _ (.inr (.inr (.inr (.inr ⟨z, _, rfl, rfl, by split <;> decide, by split <;> decide, by split <;> simp <;> omega, q⟩)))))
theorem ex_add {t u : TE} {x y : Str} (h1 : Ex t σ H (.str x)) (h : Ex u σ H (.str y)) (hz : x.length + y.length ≤ sizeLine) : Ex (tOp (rAddU K) t u) σ H (.str (x ++ y)) := fun Q q =>
  h1 _ (h _ (.inr (.inr (.inr ⟨x, y, rfl, rfl, hz, q⟩))))
theorem ext_tru {t : TE} {b : Bool} (h : Ex t σ H (.bl b)) : ExT (fun σ H Q => t σ H fun x H' => ∃ k, TruV K x H' k ∧ Q k H') σ H b := fun Q q => h _ ⟨b, rfl, q⟩
theorem ext_not {t : TT} {b : Bool} (h : ExT t σ H b) : ExT (tNot t) σ H (!b) := fun Q q => h _ q
theorem ext_and {t u : TT} {a b : Bool} (h1 : ExT t σ H a) (h2 : ExT u σ H b) : ExT (tAnd t u) σ H (a && b) := fun Q q => h1 _ (by
  cases a with
  | true => exact h2 Q q
  | false => exact q)
theorem ex_if {c : TT} {t u : TE} {b : Bool} {v w : V} (hc : ExT c σ H b) (h1 : Ex t σ H v) (h2 : Ex u σ H w) : Ex (tIf c t u) σ H (if b then v else w) := fun Q q => hc _ (by
  cases b with
  | true => exact h1 Q q
  | false => exact h2 Q q)
theorem exs_set {t : TE} {j : Nat} {v : V} {rest : TS} (h : Ex t σ H v) (r : rest Dn (σ.set j (some v)) H) : tSeq (tAsg t (gName j)) rest Dn σ H := h _ r
theorem exs_ret {t : TE} {v : V} (h : Ex t σ H v) (r : Dn.rt v H) : tRet t Dn σ H := h _ r
theorem vals5 {cA cB cC cD cX cV : V} : True := trivial
abbrev tWord (K : KW) (D a : Addr) (i j k : Nat) (cA cB cC cX cY cV : V) (z1 z2 z3 : Str) : TS :=
  tSeq (tAsg (tOrV (tIsE K D a i cA) (tOrV (tIsE K D a i cB) (tIsE K D a i cC))) (gName j)) (tSeq (tAsg (tOp (rAddU K) (tOp (rMulU K) (tC (.str z1)) (tCB rIntU (tCons (tIsE K D a i cX) tNil))) (tOp (rMulU K) (tC (.str z2)) (tCB rIntU (tCons (tIsE K D a i cY) tNil)))) (gName k))
    (tRet (tOp (rAddU K) (tVar k) (tOp (rMulU K) (tC (.str z3)) (tCB rIntU (tCons (tOrV (tVar j) (tNotV (tIsE K D a i cV))) tNil))))))
def wordOf (z1 z2 z3 : Str) (bA bB bC bX bY bV : Bool) : Str := once z1 bX ++ once z2 bY ++ once z3 ((bA || (bB || bC)) || !bV)
theorem suite_word {D a : Addr} {i j k : Nat} {cA cB cC cX cY cV : V} {vA vB vC vX vY vV : Value} {bA bB bC bX bY bV : Bool} {z1 z2 z3 : Str} (hij : i ≠ j) (hik : i ≠ k) (hjk : j ≠ k) (hs : σ[i]? = some (some (.ref a))) (hj : j < σ.length) (hk : k < σ.length)
    (hA : ∀ u, RelV cA u → u = vA) (hB : ∀ u, RelV cB u → u = vB) (hC : ∀ u, RelV cC u → u = vC) (hX : ∀ u, RelV cX u → u = vX) (hY : ∀ u, RelV cY u → u = vY) (hV : ∀ u, RelV cV u → u = vV)
    (kA : PySem.W.kitOne K (.ref D) vA = some bA) (kB : PySem.W.kitOne K (.ref D) vB = some bB) (kC : PySem.W.kitOne K (.ref D) vC = some bC) (kX : PySem.W.kitOne K (.ref D) vX = some bX) (kY : PySem.W.kitOne K (.ref D) vY = some bY) (kV : PySem.W.kitOne K (.ref D) vV = some bV)
    (l1 : z1.length ≤ 1000) (l2 : z2.length ≤ 1000) (l3 : z3.length ≤ 1000) (q : Dn.rt (.str (wordOf z1 z2 z3 bA bB bC bX bY bV)) H) : tWord K D a i j k cA cB cC cX cY cV z1 z2 z3 Dn σ H := by
  have o1 := once_len z1 bX
  have o2 := once_len z2 bY
  have o3 := once_len z3 ((bA || (bB || bC)) || !bV)
  have sz : sizeLine = 16777216 := sizeLine_eq
  have al : ∀ x y : Str, (x ++ y).length = x.length + y.length := fun x y => Array.size_append
  refine exs_set (ex_or (ex_is hs hA kA) (ex_or (ex_is hs hB kB) (ex_is hs hC kC))) ?_
  have s1 : ∀ {x : Option V}, (σ.set j x)[i]? = some (some (.ref a)) := fun {x} => by
    rw [List.getElem?_set_ne (fun e => hij e.symm)]
    exact hs
  refine exs_set (ex_add (ex_mul ex_c (ex_int (ex_is s1 hX kX)) l1) (ex_mul ex_c (ex_int (ex_is s1 hY kY)) l2) (by omega)) ?_
  have s2 : ∀ {x y : Option V}, ((σ.set j x).set k y)[i]? = some (some (.ref a)) := fun {x y} => by
    rw [List.getElem?_set_ne (fun e => hik e.symm)]
    exact s1
  have sj : ∀ {x : V} {y : Option V}, ((σ.set j (some x)).set k y)[j]? = some (some x) := fun {x y} => by
    rw [List.getElem?_set_ne (fun e => hjk e.symm), List.getElem?_set_self hj]
  have sk : ∀ {x : Option V} {y : V}, ((σ.set j x).set k (some y))[k]? = some (some y) := fun {x y} => by
    rw [List.getElem?_set_self (by rw [List.length_set]; exact hk)]
  exact exs_ret (ex_add (ex_var sk) (ex_mul ex_c (ex_int (ex_or (ex_var sj) (ex_not (ex_is s2 hV kV)))) l3) (by rw [al]; omega)) q
abbrev tReadS (K : KW) (D a : Addr) (i j : Nat) (cA cB cC cD cX cV : V) (z : Str) (K' : PySem.W.Frag) : TS :=
  tSeq (tAsg (tOrV (tIsE K D a i cA) (tIsE K D a i cB)) (gName j)) (tSeq (tAsg (tOrV (tVar j) (tOrV (tIsE K D a i cC) (tIsE K D a i cD))) (gName j))
    (tRet (tIf (tAnd (fun σ H Q => (tIsE K D a i cX) σ H fun x H' => ∃ k, TruV K' x H' k ∧ Q k H') (tAnd (fun σ H Q => (tIsE K D a i cV) σ H fun x H' => ∃ k, TruV K' x H' k ∧ Q k H') (tNot (fun σ H Q => (tVar j) σ H fun x H' => ∃ k, TruV K' x H' k ∧ Q k H')))) (tC .non) (tC (.str z)))))
theorem suite_read {D a : Addr} {i j : Nat} {cA cB cC cD cX cV : V} {vA vB vC vD vX vV : Value} {bA bB bC bD bX bV : Bool} {z : Str} (hij : i ≠ j) (hs : σ[i]? = some (some (.ref a))) (hj : j < σ.length)
    (hA : ∀ u, RelV cA u → u = vA) (hB : ∀ u, RelV cB u → u = vB) (hC : ∀ u, RelV cC u → u = vC) (hD : ∀ u, RelV cD u → u = vD) (hX : ∀ u, RelV cX u → u = vX) (hV : ∀ u, RelV cV u → u = vV)
    (kA : PySem.W.kitOne K (.ref D) vA = some bA) (kB : PySem.W.kitOne K (.ref D) vB = some bB) (kC : PySem.W.kitOne K (.ref D) vC = some bC) (kD : PySem.W.kitOne K (.ref D) vD = some bD) (kX : PySem.W.kitOne K (.ref D) vX = some bX) (kV : PySem.W.kitOne K (.ref D) vV = some bV)
    (q : Dn.rt (if (bX && (bV && !((bA || bB) || (bC || bD)))) then .non else .str z) H) : tReadS K D a i j cA cB cC cD cX cV z K Dn σ H := by
  refine exs_set (ex_or (ex_is hs hA kA) (ex_is hs hB kB)) ?_
  have s1 : ∀ {x : Option V}, (σ.set j x)[i]? = some (some (.ref a)) := fun {x} => by
    rw [List.getElem?_set_ne (fun e => hij e.symm)]
    exact hs
  refine exs_set (ex_or (ex_var (List.getElem?_set_self hj)) (ex_or (ex_is s1 hC kC) (ex_is s1 hD kD))) ?_
  have s2 : ∀ {x y : Option V}, ((σ.set j x).set j y)[i]? = some (some (.ref a)) := fun {x y} => by
    rw [List.getElem?_set_ne (fun e => hij e.symm)]
    exact s1
  exact exs_ret (ex_if (ext_and (ext_tru (ex_is s2 hX kX)) (ext_and (ext_tru (ex_is s2 hV kV)) (ext_not (ext_tru (ex_var (List.getElem?_set_self (by rw [List.length_set]; exact hj))))))) ex_c ex_c) q
theorem rp_ifns {b : Bool} {z : Str} : Rp K G (if b then .non else .str z) (if b then .none else .str z) := by
  cases b with
  | true => exact .non
  | false => exact .str _
end
def tSuW (K : KW) (i j k : Nat) (cA cB cC cX cY cV : V) (z1 z2 z3 : Str) : Addr → Value → Option Addr → TS := fun a cls d Dn σ H => ∃ D : Addr, (cls = .ref D ∧ d = none ∧ ∃ c, c < 5 ∧ D = eC5 K c) ∧ tWord K D a i j k cA cB cC cX cY cV z1 z2 z3 Dn σ H
def tSuR (K : KW) (i j : Nat) (cA cB cC cD cX cV : V) (z : Str) : Addr → Value → Option Addr → TS := fun a cls d Dn σ H => ∃ D : Addr, (cls = .ref D ∧ d = none ∧ ∃ c, c < 5 ∧ D = eC5 K c) ∧ tReadS K D a i j cA cB cC cD cX cV z K Dn σ H
end Fw

set_option Elab.async false
set_option linter.all false
set_option maxRecDepth 100000
set_option maxHeartbeats 4000000
namespace Pg
open PySem PySem.Spec PyProof.Rows L2 Fw
abbrev d_BOXES : D := (.int 4)
abbrev d_FENCE : D := (.tuple [.str "fence"])
abbrev d__MOST_HANDS : D := (.int 3)
abbrev d__MOST_PUTS_AND_GETS : D := (.int 8)
abbrev d__TOO_FAR : D := (.int 1000000000000000000000000000000)
def b__law_cell_at : SF := (sSeq (sIf (bOf (eOp dLtU (eVar 1) (eArgs (d1 dLen1) (aCons (eVar 0) aNil)))) (sRet (eOp dIx (eVar 0) (eVar 1))) sSkip) (sRet (eC (.int 0))))
def F__law_cell_at : List D → Res D := fun ds => noExc (fnP b__law_cell_at 2 2 ds)
def b_is_whole : SF := (sRet (eAnd (eUn (dIsi "int") (eVar 0)) (eNot (eUn (dIsi "bool") (eVar 0)))))
def F_is_whole : List D → Res D := fun ds => noExc (fnP b_is_whole 1 1 ds)
def b__is_box : SF := (sRet (eAnd (eCall0 F_is_whole (aCons (eVar 0) aNil)) (eChain dLe dLtU (eC (.int 0)) (eVar 0) (eC d_BOXES))))
def F__is_box : List D → Res D := fun ds => noExc (fnP b__is_box 1 1 ds)
def b__is_word : SF := (sRet (eAnd (eUn (dIsi "str") (eVar 0)) (eOp dEq (eVar 0) (eVar 1))))
def F__is_word : List D → Res D := fun ds => noExc (fnP b__is_word 2 2 ds)
def b__is_worth : SF := (sRet (eAnd (eCall0 F_is_whole (aCons (eVar 0) aNil)) (eChain dLtU dLtU (eUn dNeg (eC d__TOO_FAR)) (eVar 0) (eC d__TOO_FAR))))
def F__is_worth : List D → Res D := fun ds => noExc (fnP b__is_worth 1 1 ds)
def b__is_step : SF := (sSeq (sIf (bNot (bTru (eUn (dIsi "tuple") (eVar 0)))) (sRet (eC (.bool false))) sSkip) (sSeq (sIf (bOf (eOp dEq (eArgs (d1 dLen1) (aCons (eVar 0) aNil)) (eC (.int 3)))) (sRet (eAnd (eCall0 F__is_word (aCons (eOp dIx (eVar 0) (eC (.int 0))) (aCons (eC (.str "put")) aNil))) (eAnd (eCall0 F__is_box (aCons (eOp dIx (eVar 0) (eC (.int 1))) aNil)) (eCall0 F__is_worth (aCons (eOp dIx (eVar 0) (eC (.int 2))) aNil))))) sSkip) (sSeq (sIf (bOf (eOp dEq (eArgs (d1 dLen1) (aCons (eVar 0) aNil)) (eC (.int 2)))) (sRet (eAnd (eCall0 F__is_word (aCons (eOp dIx (eVar 0) (eC (.int 0))) (aCons (eC (.str "get")) aNil))) (eCall0 F__is_box (aCons (eOp dIx (eVar 0) (eC (.int 1))) aNil)))) sSkip) (sRet (eAnd (eOp dEq (eArgs (d1 dLen1) (aCons (eVar 0) aNil)) (eC (.int 1))) (eCall0 F__is_word (aCons (eOp dIx (eVar 0) (eC (.int 0))) (aCons (eC (.str "fence")) aNil))))))))
def F__is_step : List D → Res D := fun ds => noExc (fnP b__is_step 1 1 ds)
def C1__is_row : EF := (eLc (wSeq (eVar 0)) (pName 1) bYes (eCall0 F__is_step (aCons (eVar 1) aNil)) [1])
def b__is_row : SF := (sRet (eAnd (eUn (dIsi "list") (eVar 0)) (eArgs (d1 dAll) (aCons C1__is_row aNil))))
def F__is_row : List D → Res D := fun ds => noExc (fnP b__is_row 2 1 ds)
def b_is_fence : SF := (sRet (eOp dEq (eOp dIx (eVar 0) (eC (.int 0))) (eC (.str "fence"))))
def F_is_fence : List D → Res D := fun ds => noExc (fnP b_is_fence 1 1 ds)
def C1__puts_and_gets : EF := (eLc (wSeq (eVar 0)) (pName 1) (bNot (bTru (eCall0 F_is_fence (aCons (eVar 1) aNil)))) (eVar 1) [1])
def b__puts_and_gets : SF := (sRet (eArgs (d1 dLen1) (aCons C1__puts_and_gets aNil)))
def F__puts_and_gets : List D → Res D := fun ds => noExc (fnP b__puts_and_gets 2 1 ds)
def C1_is_web : EF := (eLc (wSeq (eVar 0)) (pName 1) bYes (eCall0 F__is_row (aCons (eVar 1) aNil)) [1])
def C2_is_web : EF := (eLc (wSeq (eVar 0)) (pName 1) bYes (eCall0 F__puts_and_gets (aCons (eVar 1) aNil)) [1])
def b_is_web : SF := (sSeq (sIf (bOr (bNot (bTru (eUn (dIsi "list") (eVar 0)))) (bNot (bOf (eChain dLe dLe (eC (.int 1)) (eArgs (d1 dLen1) (aCons (eVar 0) aNil)) (eC d__MOST_HANDS))))) (sRet (eC (.bool false))) sSkip) (sSeq (sIf (bNot (bTru (eArgs (d1 dAll) (aCons C1_is_web aNil)))) (sRet (eC (.bool false))) sSkip) (sRet (eOp dLe (eArgs (d1 dSum) (aCons C2_is_web aNil)) (eC d__MOST_PUTS_AND_GETS)))))
def F_is_web : List D → Res D := fun ds => noExc (fnP b_is_web 2 1 ds)
def C1_need_web : EF := (eLc (wSeq (eVar 0)) (pName 1) bYes (eArgs (d1 dListW) (aCons (eVar 1) aNil)) [1])
def b_need_web : SF := (sSeq (sIf (bNot (bTru (eCall0 F_is_web (aCons (eVar 0) aNil)))) (sRaise 0) sSkip) (sRet C1_need_web))
def F_need_web : List D → Res D := fnP b_need_web 2 1
def b_begun : SF := (sSeq (sAsg (pName 1) (eArgs (d1 dLen1) (aCons (eCall F_need_web (aCons (eVar 0) aNil)) aNil))) (sRet (eArgs dTup (aCons (eOp dMul (eArgs dTup (aCons (eC (.int 0)) aNil)) (eVar 1)) (aCons (eOp dMul (eArgs dTup (aCons (eArgs dTup aNil) aNil)) (eVar 1)) (aCons (eOp dMul (eArgs dTup (aCons (eC (.int 0)) aNil)) (eC d_BOXES)) (aCons (eOp dMul (eArgs dTup (aCons (eArgs dTup aNil) aNil)) (eVar 1)) aNil)))))))
def F_begun : List D → Res D := fnP b_begun 2 1
def L1__fences_ahead : SF := (sAug dIAdd 2 (eC (.int 1)))
def b__fences_ahead : SF := (sSeq (sAsg (pName 2) (eVar 1)) (sSeq (sWhile fuelN (bTru (eCall0 F_is_fence (aCons (eOp dIx (eVar 0) (eVar 2)) aNil))) L1__fences_ahead) (sRet (eOp dSub (eVar 2) (eVar 1)))))
def F__fences_ahead : List D → Res D := fun ds => noExc (fnP b__fences_ahead 3 2 ds)
def L1_with_fences : SF := (sSeq (sIf (bOf (eOp dEq (eVar 5) (eC (.str "step")))) (sSeq (sAsg (pName 6) (eBor 2 (eCall0 F__fences_ahead (aCons (eOp dIx (eVar 0) (eVar 4)) (aCons (eOp dIx (eVar 2) (eVar 4)) aNil))))) (sSeq (sExt (plVar 3) (eOp dMul (eArgs dLst (aCons (eArgs dTup (aCons (eVar 4) (aCons (eC (.str "step")) aNil))) aNil)) (eVar 6))) (sAugI dIAdd (plVar 2) (eVar 4) (eOp dAdd (eVar 6) (eC (.int 1)))))) sSkip) (sApp true (plVar 3) (eNL (eArgs dTup (aCons (eVar 4) (aCons (eVar 5) aNil))))))
def L2_with_fences : SF := (sExt (plVar 3) (eOp dMul (eArgs dLst (aCons (eArgs dTup (aCons (eVar 4) (aCons (eC (.str "step")) aNil))) aNil)) (eOp dSub (eArgs (d1 dLen1) (aCons (eVar 7) aNil)) (eOp dIx (eVar 2) (eVar 4)))))
def b_with_fences : SF := (sSeq (sAsgO true 2 (eFlat (eOp dMul (eArgs dLst (aCons (eC (.int 0)) aNil)) (eArgs (d1 dLen1) (aCons (eVar 0) aNil))))) (sSeq (sAsgO true 3 (eArgs dLst aNil)) (sSeq (sFor (wSeq (eVar 1)) (pTup 2 (psCons (pName 4) (psCons (pName 5) psNil))) L1_with_fences) (sSeq (sFrz 2 (sFor (wEnum (aCons (eVar 0) aNil)) (pTup 2 (psCons (pName 4) (psCons (pName 7) psNil))) L2_with_fences)) (sRetV 3)))))
def F_with_fences : List D → Res D := fun ds => noExc (fnO b_with_fences true 8 2 ds)
def C1__told : EF := (eLc (wSeq (eArgs (d1 dSortD) (aCons (eVar 1) aNil))) (pName 2) bYes (eArgs dTup (aCons (eVar 2) (aCons (eCall0 F_with_fences (aCons (eVar 0) (aCons (eOp dIx (eVar 1) (eVar 2)) aNil))) aNil))) [2])
def b__told : SF := (sRet C1__told)
def F__told : List D → Res D := fun ds => noExc (fnP b__told 3 2 ds)
def b__next_word : SF := (sRet (eIf (bOf (eOp dLtU (eVar 1) (eArgs (d1 dLen1) (aCons (eVar 0) aNil)))) (eOp dIx (eOp dIx (eVar 0) (eVar 1)) (eC (.int 0))) (eC (.str ""))))
def F__next_word : List D → Res D := fun ds => noExc (fnP b__next_word 2 2 ds)
def L1__late_moves : SF := (sSeq (sAsg (pName 5) (eCall0 F__next_word (aCons (eVar 4) (aCons (eOp dIx (eOp dIx (eVar 1) (eC (.int 0))) (eVar 3)) aNil)))) (sSeq (sAsg (pName 6) (eOp dGt (eArgs (d1 dLen1) (aCons (eOp dIx (eOp dIx (eVar 1) (eC (.int 1))) (eVar 3)) aNil)) (eC (.int 0)))) (sSeq (sIf (bOr (bOf (eOp dEq (eVar 5) (eC (.str "put")))) (bAnd (bOf (eOp dEq (eVar 5) (eC (.str "fence")))) (bNot (bTru (eVar 6))))) (sRetO true (eArgs dLst (aCons (eNL (eArgs dTup (aCons (eVar 3) (aCons (eC (.str "step")) aNil)))) aNil))) sSkip) (sSeq (sIf (bTru (eVar 6)) (sApp true (plVar 2) (eNL (eArgs dTup (aCons (eVar 3) (aCons (eC (.str "send")) aNil))))) sSkip) (sIf (bOf (eOp dEq (eVar 5) (eC (.str "get")))) (sApp true (plVar 2) (eNL (eArgs dTup (aCons (eVar 3) (aCons (eC (.str "step")) aNil))))) sSkip)))))
def b__late_moves : SF := (sSeq (sAsgO true 2 (eArgs dLst aNil)) (sSeq (sFor (wEnum (aCons (eVar 0) aNil)) (pTup 2 (psCons (pName 3) (psCons (pName 4) psNil))) L1__late_moves) (sRetV 2)))
def F__late_moves : List D → Res D := fun ds => noExc (fnO b__late_moves true 7 2 ds)
def L1__thinned : SF := (sSeq (sIf (bTru (eCall0 F_is_fence (aCons (eVar 3) aNil))) (sSeq (sAsg (pName 2) (eBor 1 (eOp dGt (eArgs (d1 dLen1) (aCons (eVar 1) aNil)) (eC (.int 0))))) sCt) sSkip) (sSeq (sIf (bTru (eVar 2)) (sApp true (plVar 1) (eNL (eC d_FENCE))) sSkip) (sSeq (sApp true (plVar 1) (eNL (eVar 3))) (sAsg (pName 2) (eC (.bool false))))))
def b__thinned : SF := (sSeq (sAsgO true 1 (eArgs dLst aNil)) (sSeq (sAsg (pName 2) (eC (.bool false))) (sSeq (sFor (wSeq (eVar 0)) (pName 3) L1__thinned) (sRetV 1))))
def F__thinned : List D → Res D := fun ds => noExc (fnO b__thinned true 4 1 ds)
def L1__prompt_moves : SF := (sSeq (sIf (bOf (eOp dGt (eArgs (d1 dLen1) (aCons (eOp dIx (eOp dIx (eVar 1) (eC (.int 1))) (eVar 3)) aNil)) (eC (.int 0)))) (sRetO true (eArgs dLst (aCons (eNL (eArgs dTup (aCons (eVar 3) (aCons (eC (.str "send")) aNil)))) aNil))) sSkip) (sIf (bOf (eOp dLtU (eOp dIx (eOp dIx (eVar 1) (eC (.int 0))) (eVar 3)) (eArgs (d1 dLen1) (aCons (eVar 4) aNil)))) (sApp true (plVar 2) (eNL (eArgs dTup (aCons (eVar 3) (aCons (eC (.str "step")) aNil))))) sSkip))
def b__prompt_moves : SF := (sSeq (sAsgO true 2 (eArgs dLst aNil)) (sSeq (sFor (wEnum (aCons (eVar 0) aNil)) (pTup 2 (psCons (pName 3) (psCons (pName 4) psNil))) L1__prompt_moves) (sRetV 2)))
def F__prompt_moves : List D → Res D := fun ds => noExc (fnO b__prompt_moves true 5 2 ds)
def L1__way_to : SF := (sSeq (sAsg (pTup 2 (psCons (pName 2) (psCons (pName 4) psNil))) (eOp dIx (eVar 1) (eVar 2))) (sSeq (sAsg (pTup 2 (psCons (pName 5) (psCons (pName 6) psNil))) (eVar 4)) (sIf (bOr (bOf (eOp dEq (eVar 6) (eC (.str "send")))) (bNot (bTru (eCall0 F_is_fence (aCons (eOp dIx (eOp dIx (eVar 0) (eVar 5)) (eOp dIx (eOp dIx (eVar 2) (eC (.int 0))) (eVar 5))) aNil))))) (sApp true (plVar 3) (eNL (eVar 4))) sSkip)))
def b__way_to : SF := (sSeq (sAsgO true 3 (eArgs dLst aNil)) (sSeq (sWhile fuelN (bOf (eOp dNotN (eOp dIx (eVar 1) (eVar 2)) (eC .none))) L1__way_to) (sSeq (sRev (plVar 3)) (sRetV 3))))
def F__way_to : List D → Res D := fun ds => noExc (fnO b__way_to true 7 3 ds)
def b__with : SF := (sRet (eOp dAdd (eOp dAdd (eSl (eVar 0) oNone (oSome (eVar 1))) (eArgs dTup (aCons (eVar 2) aNil))) (eSl (eVar 0) (oSome (eOp dAdd (eVar 1) (eC (.int 1)))) oNone)))
def F__with : List D → Res D := fun ds => noExc (fnP b__with 3 3 ds)
def b__sent : SF := (sSeq (sAsg (pTup 4 (psCons (pName 2) (psCons (pName 3) (psCons (pName 4) (psCons (pName 5) psNil))))) (eVar 0)) (sSeq (sAsg (pTup 2 (psCons (pName 6) (psCons (pName 7) psNil))) (eOp dIx (eOp dIx (eVar 3) (eVar 1)) (eC (.int 0)))) (sRet (eArgs dTup (aCons (eVar 2) (aCons (eCall0 F__with (aCons (eVar 3) (aCons (eVar 1) (aCons (eSl (eOp dIx (eVar 3) (eVar 1)) (oSome (eC (.int 1))) oNone) aNil)))) (aCons (eCall0 F__with (aCons (eVar 4) (aCons (eVar 6) (aCons (eVar 7) aNil)))) (aCons (eVar 5) aNil))))))))
def F__sent : List D → Res D := fun ds => noExc (fnP b__sent 8 2 ds)
def L1__seen : SF := (sIf (bOf (eOp dEq (eVar 3) (eVar 2))) (sRet (eVar 4)) sSkip)
def b__seen : SF := (sSeq (sFor (wRev (eVar 0)) (pTup 2 (psCons (pName 3) (psCons (pName 4) psNil))) L1__seen) (sRet (eOp dIx (eVar 1) (eVar 2))))
def F__seen : List D → Res D := fun ds => noExc (fnP b__seen 5 3 ds)
def b__stepped : SF := (sSeq (sAsg (pTup 4 (psCons (pName 3) (psCons (pName 4) (psCons (pName 5) (psCons (pName 6) psNil))))) (eVar 0)) (sSeq (sAsg (pName 7) (eCall0 F__with (aCons (eVar 3) (aCons (eVar 1) (aCons (eOp dAdd (eOp dIx (eVar 3) (eVar 1)) (eC (.int 1))) aNil))))) (sSeq (sIf (bOf (eOp dEq (eOp dIx (eVar 2) (eC (.int 0))) (eC (.str "put")))) (sSeq (sAsg (pName 8) (eArgs dTup (aCons (eOp dIx (eVar 2) (eC (.int 1))) (aCons (eOp dIx (eVar 2) (eC (.int 2))) aNil)))) (sRet (eArgs dTup (aCons (eVar 7) (aCons (eCall0 F__with (aCons (eVar 4) (aCons (eVar 1) (aCons (eOp dAdd (eOp dIx (eVar 4) (eVar 1)) (eArgs dTup (aCons (eVar 8) aNil))) aNil)))) (aCons (eVar 5) (aCons (eVar 6) aNil))))))) sSkip) (sSeq (sIf (bOf (eOp dEq (eOp dIx (eVar 2) (eC (.int 0))) (eC (.str "get")))) (sSeq (sAsg (pName 9) (eCall0 F__seen (aCons (eOp dIx (eVar 4) (eVar 1)) (aCons (eVar 5) (aCons (eOp dIx (eVar 2) (eC (.int 1))) aNil))))) (sRet (eArgs dTup (aCons (eVar 7) (aCons (eVar 4) (aCons (eVar 5) (aCons (eCall0 F__with (aCons (eVar 6) (aCons (eVar 1) (aCons (eOp dAdd (eOp dIx (eVar 6) (eVar 1)) (eArgs dTup (aCons (eVar 9) aNil))) aNil)))) aNil))))))) sSkip) (sRet (eArgs dTup (aCons (eVar 7) (aCons (eVar 4) (aCons (eVar 5) (aCons (eVar 6) aNil))))))))))
def F__stepped : List D → Res D := fun ds => noExc (fnP b__stepped 10 3 ds)
def b_behind : SF := (sSeq (sAsg (pTup 2 (psCons (pName 3) (psCons (pName 4) psNil))) (eVar 2)) (sSeq (sIf (bOf (eOp dEq (eVar 4) (eC (.str "send")))) (sRet (eCall0 F__sent (aCons (eVar 1) (aCons (eVar 3) aNil)))) sSkip) (sRet (eCall0 F__stepped (aCons (eVar 1) (aCons (eVar 3) (aCons (eOp dIx (eOp dIx (eVar 0) (eVar 3)) (eOp dIx (eOp dIx (eVar 1) (eC (.int 0))) (eVar 3))) aNil)))))))
def F_behind : List D → Res D := fun ds => noExc (fnP b_behind 5 3 ds)
def L1__ways : SF := (sSeq (sAsg (pName 9) (eCall0 F_behind (aCons (eVar 0) (aCons (eVar 6) (aCons (eVar 8) aNil))))) (sIf (bBor 3 (bOf (eOp (dIn true) (eVar 9) (eVar 3)))) (sSeq (sPutD 3 (eVar 9) (eArgs dTup (aCons (eVar 6) (aCons (eVar 8) aNil)))) (sApp true (plVar 4) (eNL (eVar 9)))) sSkip))
def L2__ways : SF := (sSeq (sPopL (plVar 4) 6) (sSeq (sAsg (pName 7) (eCallV 1 "_late_moves" "_prompt_moves" F__late_moves F__prompt_moves (aCons (eVar 0) (aCons (eVar 6) aNil)))) (sSeq (sIf (bNot (bTru (eVar 7))) (sPutD 5 (eArgs dTup (aCons (eOp dIx (eVar 6) (eC (.int 2))) (aCons (eOp dIx (eVar 6) (eC (.int 3))) aNil))) (eBorO 3 (eCall0 F__way_to (aCons (eVar 0) (aCons (eVar 3) (aCons (eVar 6) aNil)))))) sSkip) (sFor (wSeq (eVar 7)) (pName 8) L1__ways))))
def b__ways : SF := (sSeq (sAsg (pName 2) (eCall F_begun (aCons (eVar 0) aNil))) (sSeq (sAsgO false 3 (eDisp1 false (eVar 2) (eC .none))) (sSeq (sAsgO true 4 (eArgs dLst (aCons (eNL (eVar 2)) aNil))) (sSeq (sAsgO false 5 (eC (.dict []))) (sSeq (sWhile fuelN (bBor 4 (bTru (eVar 4))) L2__ways) (sFrz 5 (sRet (eVar 5))))))))
def F__ways : List D → Res D := fnP b__ways 10 2
def C1_late_ways : EF := (eLc (wSeq (eVar 0)) (pName 1) bYes (eCall0 F__thinned (aCons (eVar 1) aNil)) [1])
def b_late_ways : SF := (sRet (eCall F__ways (aCons C1_late_ways (aCons (eC (fnD "_late_moves")) aNil))))
def F_late_ways : List D → Res D := fnP b_late_ways 2 1
def b_ends : SF := (sSeq (sAsg (pName 1) (eCall F_need_web (aCons (eVar 0) aNil))) (sRet (eCall0 F__told (aCons (eVar 1) (aCons (eCall F_late_ways (aCons (eVar 1) aNil)) aNil)))))
def F_ends : List D → Res D := fnP b_ends 2 1
def L1__fenced_row : SF := (sSeq (sIf (bOf (eOp (dIn false) (eArgs dTup (aCons (eVar 0) (aCons (eVar 4) aNil))) (eVar 2))) (sApp true (plVar 3) (eNL (eC d_FENCE))) sSkip) (sApp true (plVar 3) (eNL (eVar 5))))
def b__fenced_row : SF := (sSeq (sAsgO true 3 (eArgs dLst aNil)) (sSeq (sFor (wEnum (aCons (eVar 1) aNil)) (pTup 2 (psCons (pName 4) (psCons (pName 5) psNil))) L1__fenced_row) (sRetV 3)))
def F__fenced_row : List D → Res D := fun ds => noExc (fnO b__fenced_row true 6 3 ds)
def b__is_place : SF := (sSeq (sIf (bOr (bNot (bTru (eUn (dIsi "tuple") (eVar 1)))) (bOf (eOp dNe (eArgs (d1 dLen1) (aCons (eVar 1) aNil)) (eC (.int 2))))) (sRet (eC (.bool false))) sSkip) (sSeq (sAsg (pTup 2 (psCons (pName 2) (psCons (pName 3) psNil))) (eVar 1)) (sSeq (sIf (bOr (bNot (bTru (eCall0 F_is_whole (aCons (eVar 2) aNil)))) (bNot (bTru (eCall0 F_is_whole (aCons (eVar 3) aNil))))) (sRet (eC (.bool false))) sSkip) (sRet (eAnd (eChain dLe dLtU (eC (.int 0)) (eVar 2) (eArgs (d1 dLen1) (aCons (eVar 0) aNil))) (eChain dLe dLtU (eC (.int 1)) (eVar 3) (eArgs (d1 dLen1) (aCons (eOp dIx (eVar 0) (eVar 2)) aNil))))))))
def F__is_place : List D → Res D := fun ds => noExc (fnP b__is_place 4 2 ds)
def C1_fenced : EF := (eLc (wSeq (eVar 1)) (pName 4) bYes (eCall0 F__is_place (aCons (eVar 2) (aCons (eVar 4) aNil))) [4])
def C2_fenced : EF := (eLc (wEnum (aCons (eVar 2) aNil)) (pTup 2 (psCons (pName 5) (psCons (pName 6) psNil))) bYes (eCall0 F__fenced_row (aCons (eVar 5) (aCons (eVar 6) (aCons (eVar 3) aNil)))) [5, 6])
def b_fenced : SF := (sSeq (sAsg (pName 2) (eCall F_need_web (aCons (eVar 0) aNil))) (sSeq (sIf (bOr (bNot (bTru (eUn (dIsi "list") (eVar 1)))) (bNot (bTru (eArgs (d1 dAll) (aCons C1_fenced aNil))))) (sRaise 3) sSkip) (sSeq (sAsg (pName 3) (eDc (wSeq (eVar 1)) (pName 4) bYes (eVar 4) (eC (.bool true)) [4])) (sRetO true C2_fenced))))
def F_fenced : List D → Res D := fnO b_fenced true 7 2
def C1_places : EF := (eLc2 (wEnum (aCons (eVar 1) aNil)) (pTup 2 (psCons (pName 2) (psCons (pName 3) psNil))) bYes (wRange2 (aCons (eC (.int 1)) (aCons (eArgs (d1 dLen1) (aCons (eVar 3) aNil)) aNil))) (pName 4) bYes (eArgs dTup (aCons (eVar 2) (aCons (eVar 4) aNil))) [2, 3, 4] [4])
def b_places : SF := (sSeq (sAsg (pName 1) (eCall F_need_web (aCons (eVar 0) aNil))) (sRet C1_places))
def F_places : List D → Res D := fnP b_places 5 1
def C1__open_places : EF := (eLc (wSeq (eCall F_places (aCons (eVar 0) aNil))) (pTup 2 (psCons (pName 1) (psCons (pName 2) psNil))) (bAnd (bNot (bTru (eCall0 F_is_fence (aCons (eOp dIx (eOp dIx (eVar 0) (eVar 1)) (eOp dSub (eVar 2) (eC (.int 1)))) aNil)))) (bNot (bTru (eCall0 F_is_fence (aCons (eOp dIx (eOp dIx (eVar 0) (eVar 1)) (eVar 2)) aNil))))) (eArgs dTup (aCons (eVar 1) (aCons (eVar 2) aNil))) [1, 2])
def b__open_places : SF := (sRet C1__open_places)
def F__open_places : List D → Res D := fnP b__open_places 3 1
def L1__way_beyond : SF := (sIf (bOf (eOp (dIn true) (eVar 3) (eVar 1))) (sRet (eOp dIx (eVar 2) (eVar 3))) sSkip)
def b__way_beyond : SF := (sSeq (sAsg (pName 2) (eCall F_late_ways (aCons (eVar 0) aNil))) (sSeq (sFor (wDic (eVar 2)) (pName 3) L1__way_beyond) (sRet (eC .none))))
def F__way_beyond : List D → Res D := fnP b__way_beyond 4 2
def C1__without : EF := (eLc (wSeq (eVar 0)) (pName 2) (bOf (eOp dNe (eVar 2) (eVar 1))) (eVar 2) [2])
def b__without : SF := (sRet C1__without)
def F__without : List D → Res D := fun ds => noExc (fnP b__without 3 2 ds)
def C1__without_fences : EF := (eLc (wSeq (eVar 0)) (pName 1) (bNot (bTru (eCall0 F_is_fence (aCons (eVar 1) aNil)))) (eVar 1) [1])
def b__without_fences : SF := (sRet C1__without_fences)
def F__without_fences : List D → Res D := fun ds => noExc (fnP b__without_fences 2 1 ds)
def C1_prompt_ways : EF := (eLc (wSeq (eVar 0)) (pName 1) bYes (eCall0 F__without_fences (aCons (eVar 1) aNil)) [1])
def b_prompt_ways : SF := (sRet (eCall F__ways (aCons C1_prompt_ways (aCons (eC (fnD "_prompt_moves")) aNil))))
def F_prompt_ways : List D → Res D := fnP b_prompt_ways 2 1
def L1__wanted : SF := (sSeq (sAsg (pName 5) (eCall0 F__without (aCons (eVar 2) (aCons (eVar 4) aNil)))) (sSeq (sAsg (pName 6) (eCall F__way_beyond (aCons (eCall F_fenced (aCons (eVar 0) (aCons (eVar 5) aNil))) (aCons (eVar 1) aNil)))) (sIf (bOf (eOp dIsN (eVar 6) (eC .none))) (sAsg (pName 2) (eVar 5)) (sPutD 3 (eVar 4) (eVar 6)))))
def b__wanted : SF := (sSeq (sAsg (pName 1) (eCall F_prompt_ways (aCons (eVar 0) aNil))) (sSeq (sAsg (pName 2) (eCall F__open_places (aCons (eVar 0) aNil))) (sSeq (sAsgO false 3 (eC (.dict []))) (sSeq (sFor (wSeq (eArgs (d1 dListW) (aCons (eVar 2) aNil))) (pName 4) L1__wanted) (sFrz 3 (sRet (eVar 3)))))))
def F__wanted : List D → Res D := fnP b__wanted 7 1
def C1_fences : EF := (eLc (wSeq (eVar 3)) (pName 4) bYes (eArgs dTup (aCons (eVar 4) (aCons (eCall0 F_with_fences (aCons (eCall0 F_fenced (aCons (eVar 1) (aCons (eCall0 F__without (aCons (eVar 3) (aCons (eVar 4) aNil))) aNil))) (aCons (eOp dIx (eVar 2) (eVar 4)) aNil))) aNil))) [4])
def b_fences : SF := (sSeq (sAsg (pName 1) (eCall F_need_web (aCons (eVar 0) aNil))) (sSeq (sAsg (pName 2) (eCall F__wanted (aCons (eVar 1) aNil))) (sSeq (sAsg (pName 3) (eArgs (d1 dListW) (aCons (eVar 2) aNil))) (sRet C1_fences))))
def F_fences : List D → Res D := fnP b_fences 5 1
def b__can_step : SF := (sSeq (sIf (bOf (eOp dGe (eVar 1) (eArgs (d1 dLen1) (aCons (eVar 0) aNil)))) (sRet (eC (.bool false))) sSkip) (sRet (eOr (eNot (eCall0 F_is_fence (aCons (eOp dIx (eVar 0) (eVar 1)) aNil))) (eOp dEq (eArgs (d1 dLen1) (aCons (eVar 2) aNil)) (eC (.int 0))))))
def F__can_step : List D → Res D := fun ds => noExc (fnP b__can_step 3 3 ds)
def b__is_move : SF := (sSeq (sIf (bOr (bNot (bTru (eUn (dIsi "tuple") (eVar 1)))) (bOf (eOp dNe (eArgs (d1 dLen1) (aCons (eVar 1) aNil)) (eC (.int 2))))) (sRet (eC (.bool false))) sSkip) (sSeq (sAsg (pTup 2 (psCons (pName 2) (psCons (pName 3) psNil))) (eVar 1)) (sSeq (sIf (bOr (bNot (bTru (eCall0 F_is_whole (aCons (eVar 2) aNil)))) (bNot (bTru (eUn (dIsi "str") (eVar 3))))) (sRet (eC (.bool false))) sSkip) (sRet (eAnd (eChain dLe dLtU (eC (.int 0)) (eVar 2) (eVar 0)) (eOp (dIn false) (eVar 3) (eArgs dTup (aCons (eC (.str "step")) (aCons (eC (.str "send")) aNil)))))))))
def F__is_move : List D → Res D := fun ds => noExc (fnP b__is_move 4 2 ds)
def b_is_doable : SF := (sSeq (sIf (bNot (bTru (eCall0 F__is_move (aCons (eArgs (d1 dLen1) (aCons (eVar 0) aNil)) (aCons (eVar 2) aNil))))) (sRet (eC (.bool false))) sSkip) (sSeq (sAsg (pTup 2 (psCons (pName 3) (psCons (pName 4) psNil))) (eVar 2)) (sSeq (sAsg (pName 5) (eOp dIx (eOp dIx (eVar 1) (eC (.int 1))) (eVar 3))) (sSeq (sIf (bOf (eOp dEq (eVar 4) (eC (.str "send")))) (sRet (eOp dGt (eArgs (d1 dLen1) (aCons (eVar 5) aNil)) (eC (.int 0)))) sSkip) (sRet (eCall0 F__can_step (aCons (eOp dIx (eVar 0) (eVar 3)) (aCons (eOp dIx (eOp dIx (eVar 1) (eC (.int 0))) (eVar 3)) (aCons (eVar 5) aNil)))))))))
def F_is_doable : List D → Res D := fun ds => noExc (fnP b_is_doable 6 3 ds)
def C1__is_over : EF := (eLc (wSeq (eVar 0)) (pName 3) bYes (eArgs (d1 dLen1) (aCons (eVar 3) aNil)) [3])
def b__is_over : SF := (sSeq (sAsg (pName 2) (eOp dEq C1__is_over (eArgs (d1 dListW) (aCons (eOp dIx (eVar 1) (eC (.int 0))) aNil)))) (sRet (eAnd (eVar 2) (eNot (eArgs (d1 dAnyU) (aCons (eOp dIx (eVar 1) (eC (.int 1))) aNil))))))
def F__is_over : List D → Res D := fun ds => noExc (fnP b__is_over 4 2 ds)
def b_is_over : SF := (sRet (eCall0 F__is_over (aCons (eCall F_need_web (aCons (eVar 0) aNil)) (aCons (eVar 1) aNil))))
def F_is_over : List D → Res D := fnP b_is_over 2 2
def L1_is_prompt : SF := (sSeq (sIf (bOr (bNot (bTru (eCall0 F_is_doable (aCons (eVar 2) (aCons (eVar 3) (aCons (eVar 4) aNil)))))) (bAnd (bOf (eOp dEq (eOp dIx (eVar 4) (eC (.int 1))) (eC (.str "step")))) (bTru (eArgs (d1 dAnyU) (aCons (eOp dIx (eVar 3) (eC (.int 1))) aNil))))) (sRet (eC (.bool false))) sSkip) (sAsg (pName 3) (eCall0 F_behind (aCons (eVar 2) (aCons (eVar 3) (aCons (eVar 4) aNil))))))
def b_is_prompt : SF := (sSeq (sAsg (pName 2) (eCall F_need_web (aCons (eVar 0) aNil))) (sSeq (sIf (bNot (bTru (eUn (dIsi "list") (eVar 1)))) (sRet (eC (.bool false))) sSkip) (sSeq (sAsg (pName 3) (eCall F_begun (aCons (eVar 2) aNil))) (sSeq (sFor (wSeq (eVar 1)) (pName 4) L1_is_prompt) (sRet (eCall F_is_over (aCons (eVar 2) (aCons (eVar 3) aNil))))))))
def F_is_prompt : List D → Res D := fnP b_is_prompt 5 2
def b_prompt_ends : SF := (sSeq (sAsg (pName 1) (eCall F_need_web (aCons (eVar 0) aNil))) (sRet (eCall0 F__told (aCons (eVar 1) (aCons (eCall F_prompt_ways (aCons (eVar 1) aNil)) aNil)))))
def F_prompt_ends : List D → Res D := fnP b_prompt_ends 2 1
def C1__shown_step : EF := (eLc (wSeq (eVar 0)) (pName 1) bYes (eArgs (d1 dStrOf) (aCons (eVar 1) aNil)) [1])
def b__shown_step : SF := (sRet (eM1 dJoin (eC (.str " ")) C1__shown_step))
def F__shown_step : List D → Res D := fun ds => noExc (fnP b__shown_step 2 1 ds)
def C1__shown_row : EF := (eLc (wSeq (eVar 0)) (pName 1) bYes (eCall0 F__shown_step (aCons (eVar 1) aNil)) [1])
def b__shown_row : SF := (sRet (eM1 dJoin (eC (.str "; ")) C1__shown_row))
def F__shown_row : List D → Res D := fun ds => noExc (fnP b__shown_row 2 1 ds)
def C1_shown : EF := (eLc (wSeq (eCall F_need_web (aCons (eVar 0) aNil))) (pName 1) bYes (eCall0 F__shown_row (aCons (eVar 1) aNil)) [1])
def b_shown : SF := (sRet (eM1 dJoin (eC (.str " | ")) C1_shown))
def F_shown : List D → Res D := fnP b_shown 2 1
def b_end_of : SF := (sSeq (sIf (bNot (bTru (eCall0 F__is_over (aCons (eCall F_need_web (aCons (eVar 0) aNil)) (aCons (eVar 1) aNil))))) (sRaise 2) sSkip) (sRet (eArgs dTup (aCons (eOp dIx (eVar 1) (eC (.int 2))) (aCons (eOp dIx (eVar 1) (eC (.int 3))) aNil)))))
def F_end_of : List D → Res D := fnP b_end_of 2 2
def L1_woven : SF := (sSeq (sIf (bNot (bTru (eCall0 F_is_doable (aCons (eVar 2) (aCons (eVar 3) (aCons (eVar 4) aNil)))))) (sRaise 1) sSkip) (sAsg (pName 3) (eCall0 F_behind (aCons (eVar 2) (aCons (eVar 3) (aCons (eVar 4) aNil))))))
def b_woven : SF := (sSeq (sAsg (pName 2) (eCall F_need_web (aCons (eVar 0) aNil))) (sSeq (sIf (bNot (bTru (eUn (dIsi "list") (eVar 1)))) (sRaise 1) sSkip) (sSeq (sAsg (pName 3) (eCall F_begun (aCons (eVar 2) aNil))) (sSeq (sFor (wSeq (eVar 1)) (pName 4) L1_woven) (sRet (eCall F_end_of (aCons (eVar 2) (aCons (eVar 3) aNil))))))))
def F_woven : List D → Res D := fnP b_woven 5 2
def b__law_whole : SF := (sRet (eAnd (eUn (dIsi "int") (eVar 0)) (eNot (eUn (dIsi "bool") (eVar 0)))))
def F__law_whole : List D → Res D := fun ds => noExc (fnP b__law_whole 1 1 ds)
def L1__law_fenced_by : SF := (sAsg (pName 4) (eOp dAdd (eOp dAdd (eVar 4) (eOp dMul (eArgs dLst (aCons (eArgs dTup (aCons (eC (.str "fence")) aNil)) aNil)) (eArgs (d1 dIntOf) (aCons (eOp (dIn false) (eArgs dTup (aCons (eVar 3) (aCons (eVar 5) aNil))) (eVar 1)) aNil)))) (eArgs dLst (aCons (eOp dIx (eOp dIx (eVar 0) (eVar 3)) (eVar 5)) aNil))))
def L2__law_fenced_by : SF := (sSeq (sAsg (pName 4) (eArgs dLst aNil)) (sSeq (sFor (wRange1 (aCons (eArgs (d1 dLen1) (aCons (eOp dIx (eVar 0) (eVar 3)) aNil)) aNil)) (pName 5) L1__law_fenced_by) (sApp false (plVar 2) (eVar 4))))
def b__law_fenced_by : SF := (sSeq (sAsgO false 2 (eArgs dLst aNil)) (sSeq (sFor (wRange1 (aCons (eArgs (d1 dLen1) (aCons (eVar 0) aNil)) aNil)) (pName 3) L2__law_fenced_by) (sFrz 2 (sRet (eVar 2)))))
def F__law_fenced_by : List D → Res D := fun ds => noExc (fnP b__law_fenced_by 6 2 ds)
def C1__law_begun : EF := (eLc (wSeq (eVar 0)) (pName 1) bYes (eArgs dLst aNil) [1])
def C2__law_begun : EF := (eLc (wSeq (eVar 0)) (pName 1) bYes (eArgs dLst aNil) [1])
def b__law_begun : SF := (sRetO true (eArgs dLst (aCons (eFlat (eOp dMul (eArgs dLst (aCons (eC (.int 0)) aNil)) (eArgs (d1 dLen1) (aCons (eVar 0) aNil)))) (aCons C2__law_begun (aCons (eArgs dLst (aCons (eNL (eC (.int 0))) (aCons (eNL (eC (.int 0))) (aCons (eNL (eC (.int 0))) (aCons (eNL (eC (.int 0))) aNil))))) (aCons C1__law_begun aNil))))))
def F__law_begun : List D → Res D := fun ds => noExc (fnO b__law_begun true 2 1 ds)
def b__law_can : SF := (sSeq (sIf (bOf (eOp dEq (eVar 3) (eC (.str "send")))) (sRet (eOp dNe (eOp dIx (eOp dIx (eVar 1) (eC (.int 1))) (eVar 2)) (eArgs dLst aNil))) sSkip) (sSeq (sIf (bOf (eOp dEq (eOp dIx (eOp dIx (eVar 1) (eC (.int 0))) (eVar 2)) (eArgs (d1 dLen1) (aCons (eOp dIx (eVar 0) (eVar 2)) aNil)))) (sRet (eC (.bool false))) sSkip) (sRet (eOr (eOp dNe (eOp dIx (eOp dIx (eOp dIx (eVar 0) (eVar 2)) (eOp dIx (eOp dIx (eVar 1) (eC (.int 0))) (eVar 2))) (eC (.int 0))) (eC (.str "fence"))) (eOp dEq (eOp dIx (eOp dIx (eVar 1) (eC (.int 1))) (eVar 2)) (eArgs dLst aNil))))))
def F__law_can : List D → Res D := fun ds => noExc (fnP b__law_can 4 4 ds)
def C1__law_do : EF := (eLc (wSeq (eOp dIx (eOp dIx (eVar 1) (eC (.int 1))) (eVar 2))) (pName 4) (bOf (eOp dEq (eOp dIx (eVar 4) (eC (.int 0))) (eOp dIx (eVar 5) (eC (.int 1))))) (eNL (eOp dIx (eVar 4) (eC (.int 1)))) [4])
def b__law_do : SF := (sSeq (sIf (bOf (eOp dEq (eVar 3) (eC (.str "send")))) (sSeq (sPopI (plIx (plIx (plVar 1) (eC (.int 1))) (eVar 2)) 0 4) (sSeq (sSetI true (plIx (plVar 1) (eC (.int 2))) (eOp dIx (eVar 4) (eC (.int 0))) (eOp dIx (eVar 4) (eC (.int 1)))) sRetN)) sSkip) (sSeq (sAsg (pName 5) (eBor 1 (eOp dIx (eOp dIx (eVar 0) (eVar 2)) (eOp dIx (eOp dIx (eVar 1) (eC (.int 0))) (eVar 2))))) (sSeq (sSetI true (plIx (plVar 1) (eC (.int 0))) (eVar 2) (eOp dAdd (eBor 1 (eOp dIx (eOp dIx (eVar 1) (eC (.int 0))) (eVar 2))) (eC (.int 1)))) (sSeq (sIf (bOf (eOp dEq (eOp dIx (eVar 5) (eC (.int 0))) (eC (.str "put")))) (sApp true (plIx (plIx (plVar 1) (eC (.int 1))) (eVar 2)) (eNL (eArgs dTup (aCons (eOp dIx (eVar 5) (eC (.int 1))) (aCons (eOp dIx (eVar 5) (eC (.int 2))) aNil))))) sSkip) (sIf (bOf (eOp dEq (eOp dIx (eVar 5) (eC (.int 0))) (eC (.str "get")))) (sSeq (sAsg (pName 6) (eBorO 1 C1__law_do)) (sApp true (plIx (plIx (plVar 1) (eC (.int 3))) (eVar 2)) (eNL (eIf (bOf (eOp dNe (eVar 6) (eArgs dLst aNil))) (eOp dIx (eVar 6) (eUn dNeg (eC (.int 1)))) (eBor 1 (eOp dIx (eOp dIx (eVar 1) (eC (.int 2))) (eOp dIx (eVar 5) (eC (.int 1))))))))) sSkip)))))
def F__law_do : List D → Bool → D → List D → Res (D × D) := fnM b__law_do 7 4
def b_moved : SF := (sSeq (sAsg (pName 3) (eCall F_need_web (aCons (eVar 0) aNil))) (sSeq (sIf (bNot (bTru (eCall0 F_is_doable (aCons (eVar 3) (aCons (eVar 1) (aCons (eVar 2) aNil)))))) (sRaise 1) sSkip) (sRet (eCall0 F_behind (aCons (eVar 3) (aCons (eVar 1) (aCons (eVar 2) aNil)))))))
def F_moved : List D → Res D := fnP b_moved 4 3
def b_can : SF := (sRet (eCall0 F_is_doable (aCons (eCall F_need_web (aCons (eVar 0) aNil)) (aCons (eVar 1) (aCons (eVar 2) aNil)))))
def F_can : List D → Res D := fnP b_can 3 3
def b__law_number_by : SF := (sSeq (sIf (bOf (eOp dEq (eOp dMod (eVar 0) (eC (.int 5))) (eC (.int 0)))) (sRet (eOp dSub (eOp dMod (eOp dAdd (eOp dMul (eOp dDiv (eVar 0) (eC (.int 5))) (eOp dPow (eC (.int 48271)) (eC (.int 7)))) (eC (.int 5))) (eOp dSub (eOp dMul (eC (.int 2)) (eOp dPow (eC (.int 10)) (eC (.int 30)))) (eC (.int 1)))) (eOp dSub (eOp dPow (eC (.int 10)) (eC (.int 30))) (eC (.int 1))))) sSkip) (sRet (eOp dSub (eOp dMod (eOp dDiv (eVar 0) (eC (.int 5))) (eC (.int 9))) (eC (.int 4)))))
def F__law_number_by : List D → Res D := fun ds => noExc (fnP b__law_number_by 1 1 ds)
def C1__law_moves : EF := (eLc (wSeq (eArgs dTup (aCons (eC (.str "step")) (aCons (eC (.str "send")) aNil)))) (pName 4) (bTru (eCall0 F__law_can (aCons (eVar 0) (aCons (eVar 1) (aCons (eVar 3) (aCons (eVar 4) aNil)))))) (eArgs dTup (aCons (eVar 3) (aCons (eVar 4) aNil))) [4])
def L1__law_moves : SF := (sAsgO true 2 (eBorO 2 (eFlat (eOp dAdd (eVar 2) C1__law_moves))))
def b__law_moves : SF := (sSeq (sAsgO true 2 (eArgs dLst aNil)) (sSeq (sFor (wRange1 (aCons (eArgs (d1 dLen1) (aCons (eVar 0) aNil)) aNil)) (pName 3) L1__law_moves) (sRetV 2)))
def F__law_moves : List D → Res D := fun ds => noExc (fnO b__law_moves true 5 2 ds)
def b__law_number_by_v2 : SF := (sSeq (sIf (bOf (eOp dEq (eOp dMod (eVar 0) (eC (.int 6))) (eC (.int 5)))) (sRet (eOp dSub (eOp dMod (eOp dAdd (eOp dMul (eOp dDiv (eVar 0) (eC (.int 6))) (eOp dPow (eC (.int 48271)) (eC (.int 7)))) (eC (.int 5))) (eOp dSub (eOp dMul (eC (.int 2)) (eOp dPow (eC (.int 10)) (eC (.int 30)))) (eC (.int 1)))) (eOp dSub (eOp dPow (eC (.int 10)) (eC (.int 30))) (eC (.int 1))))) sSkip) (sRet (eOp dSub (eOp dMod (eOp dDiv (eVar 0) (eC (.int 6))) (eC (.int 5))) (eC (.int 1)))))
def F__law_number_by_v2 : List D → Res D := fun ds => noExc (fnP b__law_number_by_v2 1 1 ds)
def b__law_step_by : SF := (sSeq (sIf (bOf (eOp dLtU (eOp dMod (eVar 0) (eC (.int 7))) (eC (.int 3)))) (sRet (eArgs dTup (aCons (eC (.str "put")) (aCons (eOp dMod (eOp dDiv (eVar 0) (eC (.int 7))) (eVar 1)) (aCons (eCall0 F__law_number_by_v2 (aCons (eOp dDiv (eVar 0) (eC (.int 28))) aNil)) aNil))))) sSkip) (sSeq (sIf (bOf (eOp dLtU (eOp dMod (eVar 0) (eC (.int 7))) (eC (.int 6)))) (sRet (eArgs dTup (aCons (eC (.str "get")) (aCons (eOp dMod (eOp dDiv (eVar 0) (eC (.int 7))) (eVar 1)) aNil)))) sSkip) (sRet (eArgs dTup (aCons (eC (.str "fence")) aNil)))))
def F__law_step_by : List D → Res D := fun ds => noExc (fnP b__law_step_by 2 2 ds)
def b__law_can_v2 : SF := (sSeq (sIf (bOf (eOp dEq (eVar 3) (eC (.str "send")))) (sRet (eOp dNe (eOp dIx (eOp dIx (eVar 1) (eC (.int 1))) (eVar 2)) (eArgs dLst aNil))) sSkip) (sSeq (sIf (bOr (bOf (eOp dNe (eVar 3) (eC (.str "step")))) (bOf (eOp dEq (eOp dIx (eOp dIx (eVar 1) (eC (.int 0))) (eVar 2)) (eArgs (d1 dLen1) (aCons (eOp dIx (eVar 0) (eVar 2)) aNil))))) (sRet (eC (.bool false))) sSkip) (sRet (eOr (eOp dNe (eOp dIx (eOp dIx (eOp dIx (eVar 0) (eVar 2)) (eOp dIx (eOp dIx (eVar 1) (eC (.int 0))) (eVar 2))) (eC (.int 0))) (eC (.str "fence"))) (eOp dEq (eOp dIx (eOp dIx (eVar 1) (eC (.int 1))) (eVar 2)) (eArgs dLst aNil))))))
def F__law_can_v2 : List D → Res D := fun ds => noExc (fnP b__law_can_v2 4 4 ds)
def C1__law_web_by : EF := (eLc (wRange1 (aCons (eOp dAdd (eC (.int 1)) (eOp dMod (eVar 1) (eC (.int 3)))) aNil)) (pName 7) bYes (eArgs dLst aNil) [7])
def C2__law_web_by : EF := (eLc (wRange1 (aCons (eC (.int 4)) aNil)) (pName 11) (bOf (eOp (dIn true) (eVar 11) (eArgs dTup (aCons (eVar 5) (aCons (eVar 6) aNil))))) (eVar 11) [11])
def L1__law_web_by : SF := (sSeq (sAsg (pName 8) (eOp dAdd (eCall0 F__law_cell_at (aCons (eVar 0) (aCons (eOp dAdd (eC (.int 2)) (eVar 7)) aNil))) (eOp dMul (eC (.int 3)) (eVar 7)))) (sApp true (plIx (plVar 3) (eOp dMod (eOp dDiv (eVar 8) (eC (.int 13))) (eBor 3 (eArgs (d1 dLen1) (aCons (eVar 3) aNil))))) (eNL (eCall0 F__law_step_by (aCons (eVar 8) (aCons (eOp dAdd (eC (.int 1)) (eOp dMod (eOp dDiv (eVar 1) (eC (.int 3))) (eC (.int 4)))) aNil))))))
def b__law_web_by : SF := (sSeq (sAsg (pName 1) (eCall0 F__law_cell_at (aCons (eVar 0) (aCons (eC (.int 0)) aNil)))) (sSeq (sAsg (pName 2) (eCall0 F__law_cell_at (aCons (eVar 0) (aCons (eC (.int 1)) aNil)))) (sSeq (sAsgO true 3 C1__law_web_by) (sSeq (sAsg (pName 4) (eOp dMod (eOp dDiv (eVar 1) (eC (.int 24))) (eC (.int 5)))) (sSeq (sIf (bAnd (bOf (eOp dEq (eOp dMod (eOp dDiv (eVar 1) (eC (.int 12))) (eC (.int 2))) (eC (.int 1)))) (bBor 3 (bOf (eOp dGt (eArgs (d1 dLen1) (aCons (eVar 3) aNil)) (eC (.int 1)))))) (sSeq (sAsg (pName 5) (eOp dMod (eVar 2) (eC (.int 4)))) (sSeq (sAsg (pName 6) (eOp dMod (eOp dAdd (eOp dAdd (eVar 5) (eC (.int 1))) (eOp dMod (eOp dDiv (eVar 2) (eC (.int 4))) (eC (.int 3)))) (eC (.int 4)))) (sSeq (sSetO true (plVar 3) (eC (.int 0)) (eArgs dLst (aCons (eNL (eArgs dTup (aCons (eC (.str "put")) (aCons (eVar 5) (aCons (eCall0 F__law_number_by_v2 (aCons (eOp dDiv (eVar 2) (eC (.int 12))) aNil)) aNil))))) (aCons (eNL (eArgs dTup (aCons (eC (.str "get")) (aCons (eVar 6) aNil)))) aNil)))) (sSeq (sSetO true (plVar 3) (eC (.int 1)) (eArgs dLst (aCons (eNL (eArgs dTup (aCons (eC (.str "put")) (aCons (eVar 6) (aCons (eCall0 F__law_number_by_v2 (aCons (eOp dDiv (eVar 2) (eC (.int 60))) aNil)) aNil))))) (aCons (eNL (eArgs dTup (aCons (eC (.str "get")) (aCons (eVar 5) aNil)))) aNil)))) (sSeq (sAsg (pName 4) (eC (.int 0))) (sIf (bOf (eOp dEq (eOp dMod (eOp dDiv (eVar 1) (eC (.int 24))) (eC (.int 3))) (eC (.int 1)))) (sIns (plIx (plVar 3) (eC (.int 0))) 1 (eArgs dTup (aCons (eC (.str "get")) (aCons (eArgs (d1 dMin) (aCons C2__law_web_by aNil)) aNil)))) sSkip)))))) sSkip) (sSeq (sFor (wRange1 (aCons (eVar 4) aNil)) (pName 7) L1__law_web_by) (sSeq (sIf (bOf (eOp dEq (eOp dMod (eOp dDiv (eVar 1) (eC (.int 120))) (eC (.int 4))) (eC (.int 1)))) (sSeq (sAsg (pName 9) (eOp dMul (eArgs dLst (aCons (eArgs dTup (aCons (eC (.str "fence")) aNil)) aNil)) (eOp dAdd (eOp dAdd (eC (.int 1)) (eOp dMod (eOp dDiv (eVar 1) (eC (.int 480))) (eC (.int 3)))) (eOp dMul (eC (.int 4)) (eBor 3 (eArgs (d1 dIntOf) (aCons (eOp dEq (eArgs (d1 dLen1) (aCons (eVar 3) aNil)) (eC (.int 1))) aNil))))))) (sSeq (sAsg (pName 10) (eOp dMod (eOp dDiv (eVar 1) (eC (.int 1440))) (eBor 3 (eArgs (d1 dLen1) (aCons (eVar 3) aNil))))) (sSetO true (plVar 3) (eVar 10) (eBorO 3 (ePick (eArgs dLst (aCons (eFlat (eOp dAdd (eVar 9) (eOp dIx (eVar 3) (eVar 10)))) (aCons (eFlat (eOp dAdd (eOp dIx (eVar 3) (eVar 10)) (eVar 9))) aNil))) (eOp dMod (eOp dDiv (eVar 1) (eC (.int 4320))) (eC (.int 2)))))))) sSkip) (sFrz 3 (sRet (eVar 3))))))))))
def F__law_web_by : List D → Res D := fun ds => noExc (fnP b__law_web_by 12 1 ds)
abbrev d__FIGURES : D := (.str "0123456789")
abbrev d__MOST_FIGURES : D := (.int 30)
def C1__read_number : EF := (eLc (wStr (eVar 1)) (pName 2) bYes (eOp (dIn false) (eVar 2) (eC d__FIGURES)) [2])
def b__read_number : SF := (sSeq (sAsg (pName 1) (eM1 dRemp (eVar 0) (eC (.str "-")))) (sSeq (sIf (bOr (bNot (bOf (eChain dLe dLe (eC (.int 1)) (eArgs (d1 dLen1) (aCons (eVar 1) aNil)) (eC d__MOST_FIGURES)))) (bNot (bTru (eArgs (d1 dAll) (aCons C1__read_number aNil))))) (sRet (eC .none)) sSkip) (sSeq (sIf (bAnd (bTru (eM1 dStartsw (eVar 1) (eC (.str "0")))) (bOf (eOp dNe (eVar 0) (eC (.str "0"))))) (sRet (eC .none)) sSkip) (sRet (eArgs (d1 dIntT) (aCons (eVar 0) aNil))))))
def F__read_number : List D → Res D := fun ds => noExc (fnP b__read_number 3 1 ds)
def C1__read_step : EF := (eLc (wSeq (eSl (eVar 1) (oSome (eC (.int 1))) oNone)) (pName 2) bYes (eCall0 F__read_number (aCons (eVar 2) aNil)) [2])
def b__read_step : SF := (sSeq (sAsg (pName 1) (eM1 dSplit (eVar 0) (eC (.str " ")))) (sRet (eArgs (d1 dTupOf) (aCons (eOp dAdd (eSl (eVar 1) oNone (oSome (eC (.int 1)))) C1__read_step) aNil))))
def F__read_step : List D → Res D := fun ds => noExc (fnP b__read_step 3 1 ds)
def C1__read_row : EF := (eLc (wSeq (eM1 dSplit (eVar 0) (eC (.str "; ")))) (pName 1) bYes (eCall0 F__read_step (aCons (eVar 1) aNil)) [1])
def b__read_row : SF := (sSeq (sIf (bOf (eOp dEq (eVar 0) (eC (.str "")))) (sRet (eArgs dLst aNil)) sSkip) (sRet C1__read_row))
def F__read_row : List D → Res D := fun ds => noExc (fnP b__read_row 2 1 ds)
def C1_read : EF := (eLc (wSeq (eM1 dSplit (eVar 0) (eC (.str " | ")))) (pName 2) bYes (eCall0 F__read_row (aCons (eVar 2) aNil)) [2])
def b_read : SF := (sSeq (sIf (bNot (bTru (eUn (dIsi "str") (eVar 0)))) (sRaise 4) sSkip) (sSeq (sAsg (pName 1) C1_read) (sSeq (sIf (bNot (bTru (eCall0 F_is_web (aCons (eVar 1) aNil)))) (sRaise 4) sSkip) (sRet (eVar 1)))))
def F_read : List D → Res D := fnP b_read 3 1
end Pg

set_option Elab.async false
set_option linter.all false
set_option maxRecDepth 100000
set_option maxHeartbeats 4000000
namespace Pg
open PySem PySem.Spec PyProof.Rows L2 Fw
/-! ### webs and states, as plain data -/
inductive Stp where
  | put (b : Nat) (n : Int)
  | get (b : Nat)
  | fence
  deriving DecidableEq
abbrev Web := List (List Stp)
def eStp : Stp → D
  | .put b n => .tuple [.str "put", .int (b : Nat), .int n]
  | .get b => .tuple [.str "get", .int (b : Nat)]
  | .fence => .tuple [.str "fence"]
def eRow (r : List Stp) : D := .list (r.map eStp)
def eWeb (w : Web) : D := .list (w.map eRow)
def deed : Stp → Bool
  | .fence => false
  | _ => true
def StpOk : Stp → Prop
  | .put b n => b < 4 ∧ -1000000000000000000000000000000 < n ∧ n < 1000000000000000000000000000000
  | .get b => b < 4
  | .fence => True
def deeds (r : List Stp) : Nat := (r.filter deed).length
structure WebOk (w : Web) : Prop where
  most : 1 ≤ w.length ∧ w.length ≤ 3
  steps : ∀ r ∈ w, ∀ s ∈ r, StpOk s
  few : (w.map deeds).sum ≤ 8
  short : ∀ r ∈ w, r.length ≤ 1000

/-! ### comprehensions, told by their elements -/
theorem lcGo_flat {body : D → Res (List D)} {g : D → List D} : ∀ {ds : List D}, (∀ d ∈ ds, body d = .ok (g d)) → lcGo body ds = .ok (ds.flatMap g)
  | [], _ => rfl
  | d :: ds, h => by
    show ((body d).bind fun r => (lcGo body ds).bind fun rs => Res.ok (r ++ rs)) = _
    rw [h d List.mem_cons_self, lcGo_flat fun x hx => h x (List.mem_cons_of_mem _ hx), List.flatMap_cons]
    rfl
theorem eLc_flat {it : AF} {pat : PF} {tt : BF} {elt : EF} {vs : List Nat} {ρ : Rho} {ds : List D} {g : D → List D} (hi : it ρ = .ok ds) (h : ∀ d ∈ ds, lcTurn pat tt elt (wipeR ρ vs) d = .ok (g d)) (hl : (ds.flatMap g).length ≤ big) :
    eLc it pat tt elt vs ρ = .ok (.list (ds.flatMap g)) := by
  unfold eLc
  rw [hi]
  show (noExc (lcGo _ ds)).bind dLst = _
  rw [lcGo_flat h]
  show dLst _ = _
  unfold dLst
  rw [if_pos hl]
theorem flat_one {α β : Type} (f : α → β) : ∀ l : List α, (l.flatMap fun x => [f x]) = l.map f
  | [] => rfl
  | a :: l => by rw [List.flatMap_cons, flat_one f l]; rfl
theorem eLc_map {it : AF} {pat : PF} {tt : BF} {elt : EF} {vs : List Nat} {ρ : Rho} {ds : List D} {f : D → D} (hi : it ρ = .ok ds) (h : ∀ d ∈ ds, lcTurn pat tt elt (wipeR ρ vs) d = .ok [f d]) (hl : ds.length ≤ big) :
    eLc it pat tt elt vs ρ = .ok (.list (ds.map f)) := by
  have e := eLc_flat (g := fun d => [f d]) hi h (by rw [flat_one, List.length_map]; exact hl)
  rw [flat_one] at e
  exact e
theorem flat_filter {α β : Type} (p : α → Bool) (f : α → β) : ∀ l : List α, (l.flatMap fun x => if p x = true then [f x] else []) = (l.filter p).map f
  | [] => rfl
  | a :: l => by
    rw [List.flatMap_cons, flat_filter p f l]
    by_cases h : p a = true
    · rw [if_pos h, List.filter_cons_of_pos h]; rfl
    · rw [if_neg h, List.filter_cons_of_neg h]; rfl
theorem eLc_filter {it : AF} {pat : PF} {tt : BF} {elt : EF} {vs : List Nat} {ρ : Rho} {ds : List D} {p : D → Bool} {f : D → D} (hi : it ρ = .ok ds) (h : ∀ d ∈ ds, lcTurn pat tt elt (wipeR ρ vs) d = .ok (if p d = true then [f d] else [])) (hl : ds.length ≤ big) :
    eLc it pat tt elt vs ρ = .ok (.list ((ds.filter p).map f)) := by
  have e := eLc_flat (g := fun d => if p d = true then [f d] else []) hi h (by
    rw [flat_filter, List.length_map]
    exact Nat.le_trans (List.length_filter_le _ _) hl)
  rw [flat_filter] at e
  exact e
/-- a loop whose every turn goes on -/
theorem forGo_fold {S : Type} {pat : PF} {body : SF} {mk : S → Rho} {step : S → D → S} {I : S → List D → Prop} : ∀ {ds : List D} {s : S}, I s ds →
    (∀ s d ds, I s (d :: ds) → ∃ ρ1, pat d (mk s) = .ok ρ1 ∧ (body ρ1 = .nx (mk (step s d)) ∨ body ρ1 = .ct (mk (step s d))) ∧ I (step s d) ds) → forGo pat body ds (mk s) = .nx (mk (ds.foldl step s))
  | [], s, _, _ => rfl
  | d :: ds, s, i, h => by
    obtain ⟨ρ1, h1, h2, i2⟩ := h s d ds i
    show patOut (pat d (mk s)) (fun ρ1 => loopOut (body ρ1) (forGo pat body ds)) = _
    rw [h1]
    show loopOut (body ρ1) (forGo pat body ds) = _
    rcases h2 with h2 | h2 <;> (rw [h2]; exact forGo_fold i2 h)
/-! ### data that can be compared -/
theorem canLayAll_of : ∀ {ds : List D}, (∀ d ∈ ds, PyData.canLay0 d = true) → PyData.canLayAll0 ds = true
  | [], _ => rfl
  | d :: ds, h => by
    simp only [PyData.canLayAll0, Bool.and_eq_true]
    exact ⟨h d List.mem_cons_self, canLayAll_of fun x hx => h x (List.mem_cons_of_mem _ hx)⟩
end Pg

set_option Elab.async false
set_option linter.all false
set_option maxRecDepth 100000
set_option maxHeartbeats 4000000
namespace Pg
open PySem PySem.Spec PyProof.Rows L2 Fw
/-! ### data that can be compared -/
def Sh (n : Nat) (d : D) : Prop := PyData.canLay0 d = true ∧ PyData.depth d ≤ n
theorem Sh.ok {n : Nat} {d : D} (h : Sh n d) (hn : n ≤ 64) : SeqAt.shaped d = true := by
  unfold SeqAt.shaped
  rw [h.1, Bool.true_and]
  exact decide_eq_true (Nat.le_trans h.2 hn)
theorem Sh.int {n : Nat} (i : Int) : Sh n (.int i) := ⟨by simp [PyData.canLay0], by simp [PyData.depth]⟩
theorem Sh.bool {n : Nat} (i : Bool) : Sh n (.bool i) := ⟨by simp [PyData.canLay0], by simp [PyData.depth]⟩
theorem Sh.none {n : Nat} : Sh n .none := ⟨by simp [PyData.canLay0], by simp [PyData.depth]⟩
theorem Sh.str {n : Nat} {x : Str} (h : PyData.strOk x = true) : Sh n (.str x) := ⟨by simpa [PyData.canLay0] using h, by simp [PyData.depth]⟩
theorem depthAll_le {n : Nat} : ∀ {ds : List D}, (∀ d ∈ ds, PyData.depth d ≤ n) → PyData.depthAll ds ≤ n
  | [], _ => by simp [PyData.depthAll]
  | d :: ds, h => by
    have a := h d List.mem_cons_self
    have b := depthAll_le fun x hx => h x (List.mem_cons_of_mem d hx)
    simp only [PyData.depthAll]
    omega
theorem Sh.list {n : Nat} {ds : List D} (h : ∀ d ∈ ds, Sh n d) : Sh (n + 1) (.list ds) :=
  ⟨by simpa only [PyData.canLay0] using canLayAll_of fun d hd => (h d hd).1, by simpa only [PyData.depth] using Nat.succ_le_succ (depthAll_le fun d hd => (h d hd).2)⟩
theorem Sh.tuple {n : Nat} {ds : List D} (h : ∀ d ∈ ds, Sh n d) : Sh (n + 1) (.tuple ds) :=
  ⟨by simpa only [PyData.canLay0] using canLayAll_of fun d hd => (h d hd).1, by simpa only [PyData.depth] using Nat.succ_le_succ (depthAll_le fun d hd => (h d hd).2)⟩
theorem dEq_sh {n : Nat} {d e : D} (h : Sh n d) (h2 : Sh n e) (hn : n ≤ 64) : dEq d e = .ok (.bool (PyData.eqv d e)) := by
  unfold dEq
  rw [if_pos ⟨h.ok hn, h2.ok hn⟩]
theorem dNe_sh {n : Nat} {d e : D} (h : Sh n d) (h2 : Sh n e) (hn : n ≤ 64) : dNe d e = .ok (.bool (!PyData.eqv d e)) := by
  unfold dNe
  rw [if_pos ⟨h.ok hn, h2.ok hn⟩]
theorem dEq_int (i j : Int) : dEq (.int i) (.int j) = .ok (.bool (i == j)) := by
  rw [dEq_sh (n := 0) (.int _) (.int _) (by decide)]
  simp [PyData.eqv]
theorem dNe_int (i j : Int) : dNe (.int i) (.int j) = .ok (.bool (!(i == j))) := by
  rw [dNe_sh (n := 0) (.int _) (.int _) (by decide)]
  simp [PyData.eqv]
theorem dEq_str {x y : Str} (hx : PyData.strOk x = true) (hy : PyData.strOk y = true) : dEq (.str x) (.str y) = .ok (.bool (x == y)) := by
  rw [dEq_sh (n := 0) (.str hx) (.str hy) (by decide)]
  simp [PyData.eqv]
theorem dNe_str {x y : Str} (hx : PyData.strOk x = true) (hy : PyData.strOk y = true) : dNe (.str x) (.str y) = .ok (.bool (!(x == y))) := by
  rw [dNe_sh (n := 0) (.str hx) (.str hy) (by decide)]
  simp [PyData.eqv]
theorem so_put : PyData.strOk "put" = true := by decide +kernel
theorem so_get : PyData.strOk "get" = true := by decide +kernel
theorem so_fence : PyData.strOk "fence" = true := by decide +kernel
theorem so_step : PyData.strOk "step" = true := by decide +kernel
theorem so_send : PyData.strOk "send" = true := by decide +kernel
theorem ne_pg : (("put" : Str) == "get") = false := by decide +kernel
theorem ne_pf : (("put" : Str) == "fence") = false := by decide +kernel
theorem ne_gp : (("get" : Str) == "put") = false := by decide +kernel
theorem ne_gf : (("get" : Str) == "fence") = false := by decide +kernel
theorem ne_fp : (("fence" : Str) == "put") = false := by decide +kernel
theorem ne_fg : (("fence" : Str) == "get") = false := by decide +kernel
theorem ne_ss : (("step" : Str) == "send") = false := by decide +kernel
theorem ne_ss2 : (("send" : Str) == "step") = false := by decide +kernel
theorem bigv : big = 16000000 := rfl
theorem at0 {α : Type} (x : α) (xs : List α) : atI (x :: xs) 0 = some x := L2.atI_nat (j := 0) rfl
theorem at1 {α : Type} (x y : α) (xs : List α) : atI (x :: y :: xs) 1 = some y := L2.atI_nat (j := 1) rfl
theorem at2 {α : Type} (x y z : α) (xs : List α) : atI (x :: y :: z :: xs) 2 = some z := L2.atI_nat (j := 2) rfl
theorem at3 {α : Type} (x y z u : α) (xs : List α) : atI (x :: y :: z :: u :: xs) 3 = some u := L2.atI_nat (j := 3) rfl
theorem atN {α : Type} {xs : List α} {i : Nat} {x : α} (h : xs[i]? = some x) : atI xs (i : Int) = some x := L2.atI_nat h
/-! ### what is a web -/
theorem is_whole_t (d : D) (h : isScr d = false) : F_is_whole [d] = .ok (.bool (tyName d == "int")) := by
  cases d <;> simp_all [F_is_whole, b_is_whole, fnP, fnO, ins, retP, retO, sSeq, sIf, sAsg, sRet, sRetO, sSkip, sRetN, sRaise, sDrop, rOut, eOp, eUn, eVar, eC, rget, eArgs, aNil, aCons, eAnd, eOr, eNot, bOf, bNot, bAnd, bOr, bTru, dTru, bYes, eIf, eCall0, eCall, eChain, eSl, oNone, oSome, dSl, dAdd, dSub, dMod, dDiv, dNeg, dLt, dLtU, dLe, dGt, dGe, dIs, dIx, dIxI, d1, dLen1, dTup, dLst, dListOf, dListW, dTupOf, dIntOf, dIsi, isScr, tyName, scrOf, pName, pTup, psCons, psNil, Res.bind, noExc, ofOpt, patOut, loopOut, wipeR, lcTurn, eNL, noList, noListAll, eFlat, flatL, wSeq, wRange1, wRange2, wEnum, wRev, kb_NoneType_int, kb_NoneType_bool, kb_NoneType_str, kb_NoneType_list, kb_NoneType_tuple, kb_bool_int, kb_bool_bool, kb_bool_str, kb_bool_list, kb_bool_tuple, kb_int_int, kb_int_bool, kb_int_str, kb_int_list, kb_int_tuple, kb_str_int, kb_str_bool, kb_str_str, kb_str_list, kb_str_tuple, kb_list_int, kb_list_bool, kb_list_str, kb_list_list, kb_list_tuple, kb_tuple_int, kb_tuple_bool, kb_tuple_str, kb_tuple_list, kb_tuple_tuple, kb_dict_int, kb_dict_bool, kb_dict_str, kb_dict_list, kb_dict_tuple]
theorem whole_int (i : Int) : F_is_whole [.int i] = .ok (.bool true) := is_whole_t _ rfl
theorem whole_bool (i : Bool) : F_is_whole [.bool i] = .ok (.bool false) := is_whole_t _ rfl
theorem whole_str (i : Str) : F_is_whole [.str i] = .ok (.bool false) := is_whole_t _ rfl
theorem whole_none : F_is_whole [.none] = .ok (.bool false) := is_whole_t _ rfl
theorem whole_list (i : List D) : F_is_whole [.list i] = .ok (.bool false) := is_whole_t _ rfl
theorem whole_tuple (i : List D) : F_is_whole [.tuple i] = .ok (.bool false) := is_whole_t _ rfl
theorem is_word_str (x w : Str) (hx : PyData.strOk x = true) (hw : PyData.strOk w = true) : F__is_word [.str x, .str w] = .ok (.bool (x == w)) := by
  simp [F__is_word, b__is_word, fnP, fnO, ins, retP, retO, sSeq, sIf, sAsg, sRet, sRetO, sSkip, sRetN, sRaise, sDrop, rOut, eOp, eUn, eVar, eC, rget, eArgs, aNil, aCons, eAnd, eOr, eNot, bOf, bNot, bAnd, bOr, bTru, dTru, bYes, eIf, eCall0, eCall, eChain, eSl, oNone, oSome, dSl, dAdd, dSub, dMod, dDiv, dNeg, dLt, dLtU, dLe, dGt, dGe, dIs, dIx, dIxI, d1, dLen1, dTup, dLst, dListOf, dListW, dTupOf, dIntOf, dIsi, isScr, tyName, scrOf, pName, pTup, psCons, psNil, Res.bind, noExc, ofOpt, patOut, loopOut, wipeR, lcTurn, eNL, noList, noListAll, eFlat, flatL, wSeq, wRange1, wRange2, wEnum, wRev, kb_NoneType_int, kb_NoneType_bool, kb_NoneType_str, kb_NoneType_list, kb_NoneType_tuple, kb_bool_int, kb_bool_bool, kb_bool_str, kb_bool_list, kb_bool_tuple, kb_int_int, kb_int_bool, kb_int_str, kb_int_list, kb_int_tuple, kb_str_int, kb_str_bool, kb_str_str, kb_str_list, kb_str_tuple, kb_list_int, kb_list_bool, kb_list_str, kb_list_list, kb_list_tuple, kb_tuple_int, kb_tuple_bool, kb_tuple_str, kb_tuple_list, kb_tuple_tuple, kb_dict_int, kb_dict_bool, kb_dict_str, kb_dict_list, kb_dict_tuple, dEq_str hx hw]
theorem is_box_int (i : Int) : F__is_box [.int i] = .ok (.bool (decide (0 ≤ i ∧ i < 4))) := by
  simp [F__is_box, b__is_box, fnP, fnO, ins, retP, retO, sSeq, sIf, sAsg, sRet, sRetO, sSkip, sRetN, sRaise, sDrop, rOut, eOp, eUn, eVar, eC, rget, eArgs, aNil, aCons, eAnd, eOr, eNot, bOf, bNot, bAnd, bOr, bTru, dTru, bYes, eIf, eCall0, eCall, eChain, eSl, oNone, oSome, dSl, dAdd, dSub, dMod, dDiv, dNeg, dLt, dLtU, dLe, dGt, dGe, dIs, dIx, dIxI, d1, dLen1, dTup, dLst, dListOf, dListW, dTupOf, dIntOf, dIsi, isScr, tyName, scrOf, pName, pTup, psCons, psNil, Res.bind, noExc, ofOpt, patOut, loopOut, wipeR, lcTurn, eNL, noList, noListAll, eFlat, flatL, wSeq, wRange1, wRange2, wEnum, wRev, whole_int]
  by_cases h : 0 ≤ i <;> simp [h]
theorem is_worth_int (i : Int) : F__is_worth [.int i] = .ok (.bool (decide (-1000000000000000000000000000000 < i ∧ i < 1000000000000000000000000000000))) := by
  simp [F__is_worth, b__is_worth, fnP, fnO, ins, retP, retO, sSeq, sIf, sAsg, sRet, sRetO, sSkip, sRetN, sRaise, sDrop, rOut, eOp, eUn, eVar, eC, rget, eArgs, aNil, aCons, eAnd, eOr, eNot, bOf, bNot, bAnd, bOr, bTru, dTru, bYes, eIf, eCall0, eCall, eChain, eSl, oNone, oSome, dSl, dAdd, dSub, dMod, dDiv, dNeg, dLt, dLtU, dLe, dGt, dGe, dIs, dIx, dIxI, d1, dLen1, dTup, dLst, dListOf, dListW, dTupOf, dIntOf, dIsi, isScr, tyName, scrOf, pName, pTup, psCons, psNil, Res.bind, noExc, ofOpt, patOut, loopOut, wipeR, lcTurn, eNL, noList, noListAll, eFlat, flatL, wSeq, wRange1, wRange2, wEnum, wRev, whole_int]
  by_cases h : -1000000000000000000000000000000 < i <;> simp [h]
theorem is_step_ok {s : Stp} (h : StpOk s) : F__is_step [eStp s] = .ok (.bool true) := by
  cases s with
  | put b n =>
    obtain ⟨h1, h2, h3⟩ := h
    have h0 : (b : Int) < 4 := by omega
    simp [F__is_step, b__is_step, eStp, fnP, fnO, ins, retP, retO, sSeq, sIf, sAsg, sRet, sRetO, sSkip, sRetN, sRaise, sDrop, rOut, eOp, eUn, eVar, eC, rget, eArgs, aNil, aCons, eAnd, eOr, eNot, bOf, bNot, bAnd, bOr, bTru, dTru, bYes, eIf, eCall0, eCall, eChain, eSl, oNone, oSome, dSl, dAdd, dSub, dMod, dDiv, dNeg, dLt, dLtU, dLe, dGt, dGe, dIs, dIx, dIxI, d1, dLen1, dTup, dLst, dListOf, dListW, dTupOf, dIntOf, dIsi, isScr, tyName, scrOf, pName, pTup, psCons, psNil, Res.bind, noExc, ofOpt, patOut, loopOut, wipeR, lcTurn, eNL, noList, noListAll, eFlat, flatL, wSeq, wRange1, wRange2, wEnum, wRev, kb_NoneType_int, kb_NoneType_bool, kb_NoneType_str, kb_NoneType_list, kb_NoneType_tuple, kb_bool_int, kb_bool_bool, kb_bool_str, kb_bool_list, kb_bool_tuple, kb_int_int, kb_int_bool, kb_int_str, kb_int_list, kb_int_tuple, kb_str_int, kb_str_bool, kb_str_str, kb_str_list, kb_str_tuple, kb_list_int, kb_list_bool, kb_list_str, kb_list_list, kb_list_tuple, kb_tuple_int, kb_tuple_bool, kb_tuple_str, kb_tuple_list, kb_tuple_tuple, kb_dict_int, kb_dict_bool, kb_dict_str, kb_dict_list, kb_dict_tuple, dEq_int, at0, at1, at2, is_word_str _ _ so_put so_put, is_box_int, is_worth_int, bigv, h2, h3, h0]
  | get b =>
    have h1 : b < 4 := h
    have h0 : (b : Int) < 4 := by omega
    simp [F__is_step, b__is_step, eStp, fnP, fnO, ins, retP, retO, sSeq, sIf, sAsg, sRet, sRetO, sSkip, sRetN, sRaise, sDrop, rOut, eOp, eUn, eVar, eC, rget, eArgs, aNil, aCons, eAnd, eOr, eNot, bOf, bNot, bAnd, bOr, bTru, dTru, bYes, eIf, eCall0, eCall, eChain, eSl, oNone, oSome, dSl, dAdd, dSub, dMod, dDiv, dNeg, dLt, dLtU, dLe, dGt, dGe, dIs, dIx, dIxI, d1, dLen1, dTup, dLst, dListOf, dListW, dTupOf, dIntOf, dIsi, isScr, tyName, scrOf, pName, pTup, psCons, psNil, Res.bind, noExc, ofOpt, patOut, loopOut, wipeR, lcTurn, eNL, noList, noListAll, eFlat, flatL, wSeq, wRange1, wRange2, wEnum, wRev, kb_NoneType_int, kb_NoneType_bool, kb_NoneType_str, kb_NoneType_list, kb_NoneType_tuple, kb_bool_int, kb_bool_bool, kb_bool_str, kb_bool_list, kb_bool_tuple, kb_int_int, kb_int_bool, kb_int_str, kb_int_list, kb_int_tuple, kb_str_int, kb_str_bool, kb_str_str, kb_str_list, kb_str_tuple, kb_list_int, kb_list_bool, kb_list_str, kb_list_list, kb_list_tuple, kb_tuple_int, kb_tuple_bool, kb_tuple_str, kb_tuple_list, kb_tuple_tuple, kb_dict_int, kb_dict_bool, kb_dict_str, kb_dict_list, kb_dict_tuple, dEq_int, at0, at1, at2, is_word_str _ _ so_get so_get, is_box_int, is_worth_int, bigv, h0]
  | fence => simp [F__is_step, b__is_step, eStp, fnP, fnO, ins, retP, retO, sSeq, sIf, sAsg, sRet, sRetO, sSkip, sRetN, sRaise, sDrop, rOut, eOp, eUn, eVar, eC, rget, eArgs, aNil, aCons, eAnd, eOr, eNot, bOf, bNot, bAnd, bOr, bTru, dTru, bYes, eIf, eCall0, eCall, eChain, eSl, oNone, oSome, dSl, dAdd, dSub, dMod, dDiv, dNeg, dLt, dLtU, dLe, dGt, dGe, dIs, dIx, dIxI, d1, dLen1, dTup, dLst, dListOf, dListW, dTupOf, dIntOf, dIsi, isScr, tyName, scrOf, pName, pTup, psCons, psNil, Res.bind, noExc, ofOpt, patOut, loopOut, wipeR, lcTurn, eNL, noList, noListAll, eFlat, flatL, wSeq, wRange1, wRange2, wEnum, wRev, kb_NoneType_int, kb_NoneType_bool, kb_NoneType_str, kb_NoneType_list, kb_NoneType_tuple, kb_bool_int, kb_bool_bool, kb_bool_str, kb_bool_list, kb_bool_tuple, kb_int_int, kb_int_bool, kb_int_str, kb_int_list, kb_int_tuple, kb_str_int, kb_str_bool, kb_str_str, kb_str_list, kb_str_tuple, kb_list_int, kb_list_bool, kb_list_str, kb_list_list, kb_list_tuple, kb_tuple_int, kb_tuple_bool, kb_tuple_str, kb_tuple_list, kb_tuple_tuple, kb_dict_int, kb_dict_bool, kb_dict_str, kb_dict_list, kb_dict_tuple, dEq_int, at0, is_word_str _ _ so_fence so_fence, bigv]
theorem bools_rep : ∀ n : Nat, boolsOf (List.replicate n (PyData.bool true)) = some (List.replicate n true)
  | 0 => rfl
  | n + 1 => by rw [List.replicate_succ, List.replicate_succ, boolsOf, bools_rep n]; rfl
theorem map_rep {α β : Type} (b : β) : ∀ l : List α, (l.map fun _ => b) = List.replicate l.length b
  | [] => rfl
  | a :: l => by rw [List.map_cons, map_rep b l, List.length_cons, List.replicate_succ]
theorem all_rep : ∀ n : Nat, (List.replicate n true).all id = true
  | 0 => rfl
  | n + 1 => by rw [List.replicate_succ, List.all_cons, all_rep n]; rfl
theorem is_row_ok {r : List Stp} (h : ∀ s ∈ r, StpOk s) (hl : r.length ≤ 1000) : F__is_row [eRow r] = .ok (.bool true) := by
  have e : eLc (wSeq (eVar 0)) (pName 1) bYes (eCall0 F__is_step (aCons (eVar 1) aNil)) [1] [.p (eRow r), .no] = .ok (.list (List.replicate r.length (.bool true))) := by
    have e2 := eLc_map (it := wSeq (eVar 0)) (pat := pName 1) (tt := bYes) (elt := eCall0 F__is_step (aCons (eVar 1) aNil)) (vs := [1]) (ρ := [.p (eRow r), .no]) (ds := r.map eStp) (f := fun _ => .bool true) (by simp [eRow, fnP, fnO, ins, retP, retO, sSeq, sIf, sAsg, sRet, sRetO, sSkip, sRetN, sRaise, sDrop, rOut, eOp, eUn, eVar, eC, rget, eArgs, aNil, aCons, eAnd, eOr, eNot, bOf, bNot, bAnd, bOr, bTru, dTru, bYes, eIf, eCall0, eCall, eChain, eSl, oNone, oSome, dSl, dAdd, dSub, dMod, dDiv, dNeg, dLt, dLtU, dLe, dGt, dGe, dIs, dIx, dIxI, d1, dLen1, dTup, dLst, dListOf, dListW, dTupOf, dIntOf, dIsi, isScr, tyName, scrOf, pName, pTup, psCons, psNil, Res.bind, noExc, ofOpt, patOut, loopOut, wipeR, lcTurn, eNL, noList, noListAll, eFlat, flatL, wSeq, wRange1, wRange2, wEnum, wRev]) (fun d hd => by
      obtain ⟨s, hs, rfl⟩ := List.mem_map.mp hd
      simp [fnP, fnO, ins, retP, retO, sSeq, sIf, sAsg, sRet, sRetO, sSkip, sRetN, sRaise, sDrop, rOut, eOp, eUn, eVar, eC, rget, eArgs, aNil, aCons, eAnd, eOr, eNot, bOf, bNot, bAnd, bOr, bTru, dTru, bYes, eIf, eCall0, eCall, eChain, eSl, oNone, oSome, dSl, dAdd, dSub, dMod, dDiv, dNeg, dLt, dLtU, dLe, dGt, dGe, dIs, dIx, dIxI, d1, dLen1, dTup, dLst, dListOf, dListW, dTupOf, dIntOf, dIsi, isScr, tyName, scrOf, pName, pTup, psCons, psNil, Res.bind, noExc, ofOpt, patOut, loopOut, wipeR, lcTurn, eNL, noList, noListAll, eFlat, flatL, wSeq, wRange1, wRange2, wEnum, wRev, is_step_ok (h s hs)]) (by simp [bigv]; omega)
    rw [map_rep, List.length_map] at e2
    exact e2
  simp [F__is_row, b__is_row, C1__is_row, fnP, ins, sRet, eAnd, eArgs, aCons, aNil, e, d1, dAll, bools_rep, all_rep, eUn, eVar, rget, bOf, Res.bind, ofOpt, rOut, retP, noExc]
  simp [eRow, fnP, fnO, ins, retP, retO, sSeq, sIf, sAsg, sRet, sRetO, sSkip, sRetN, sRaise, sDrop, rOut, eOp, eUn, eVar, eC, rget, eArgs, aNil, aCons, eAnd, eOr, eNot, bOf, bNot, bAnd, bOr, bTru, dTru, bYes, eIf, eCall0, eCall, eChain, eSl, oNone, oSome, dSl, dAdd, dSub, dMod, dDiv, dNeg, dLt, dLtU, dLe, dGt, dGe, dIs, dIx, dIxI, d1, dLen1, dTup, dLst, dListOf, dListW, dTupOf, dIntOf, dIsi, isScr, tyName, scrOf, pName, pTup, psCons, psNil, Res.bind, noExc, ofOpt, patOut, loopOut, wipeR, lcTurn, eNL, noList, noListAll, eFlat, flatL, wSeq, wRange1, wRange2, wEnum, wRev, kb_NoneType_int, kb_NoneType_bool, kb_NoneType_str, kb_NoneType_list, kb_NoneType_tuple, kb_bool_int, kb_bool_bool, kb_bool_str, kb_bool_list, kb_bool_tuple, kb_int_int, kb_int_bool, kb_int_str, kb_int_list, kb_int_tuple, kb_str_int, kb_str_bool, kb_str_str, kb_str_list, kb_str_tuple, kb_list_int, kb_list_bool, kb_list_str, kb_list_list, kb_list_tuple, kb_tuple_int, kb_tuple_bool, kb_tuple_str, kb_tuple_list, kb_tuple_tuple, kb_dict_int, kb_dict_bool, kb_dict_str, kb_dict_list, kb_dict_tuple]
theorem eStp_hd (s : Stp) : dIxI 0 (eStp s) = .ok (match s with | .put _ _ => (.str "put") | .get _ => .str "get" | .fence => .str "fence") := by
  cases s <;> simp [eStp, dIxI, at0, ofOpt]
theorem is_fence_ok (s : Stp) : F_is_fence [eStp s] = .ok (.bool (!deed s)) := by
  cases s with
  | put b n => simp [F_is_fence, b_is_fence, eStp, fnP, fnO, ins, retP, retO, sSeq, sIf, sAsg, sRet, sRetO, sSkip, sRetN, sRaise, sDrop, rOut, eOp, eUn, eVar, eC, rget, eArgs, aNil, aCons, eAnd, eOr, eNot, bOf, bNot, bAnd, bOr, bTru, dTru, bYes, eIf, eCall0, eCall, eChain, eSl, oNone, oSome, dSl, dAdd, dSub, dMod, dDiv, dNeg, dLt, dLtU, dLe, dGt, dGe, dIs, dIx, dIxI, d1, dLen1, dTup, dLst, dListOf, dListW, dTupOf, dIntOf, dIsi, isScr, tyName, scrOf, pName, pTup, psCons, psNil, Res.bind, noExc, ofOpt, patOut, loopOut, wipeR, lcTurn, eNL, noList, noListAll, eFlat, flatL, wSeq, wRange1, wRange2, wEnum, wRev, at0, dEq_str so_put so_fence, ne_pf, deed]
  | get b => simp [F_is_fence, b_is_fence, eStp, fnP, fnO, ins, retP, retO, sSeq, sIf, sAsg, sRet, sRetO, sSkip, sRetN, sRaise, sDrop, rOut, eOp, eUn, eVar, eC, rget, eArgs, aNil, aCons, eAnd, eOr, eNot, bOf, bNot, bAnd, bOr, bTru, dTru, bYes, eIf, eCall0, eCall, eChain, eSl, oNone, oSome, dSl, dAdd, dSub, dMod, dDiv, dNeg, dLt, dLtU, dLe, dGt, dGe, dIs, dIx, dIxI, d1, dLen1, dTup, dLst, dListOf, dListW, dTupOf, dIntOf, dIsi, isScr, tyName, scrOf, pName, pTup, psCons, psNil, Res.bind, noExc, ofOpt, patOut, loopOut, wipeR, lcTurn, eNL, noList, noListAll, eFlat, flatL, wSeq, wRange1, wRange2, wEnum, wRev, at0, dEq_str so_get so_fence, ne_gf, deed]
  | fence => simp [F_is_fence, b_is_fence, eStp, fnP, fnO, ins, retP, retO, sSeq, sIf, sAsg, sRet, sRetO, sSkip, sRetN, sRaise, sDrop, rOut, eOp, eUn, eVar, eC, rget, eArgs, aNil, aCons, eAnd, eOr, eNot, bOf, bNot, bAnd, bOr, bTru, dTru, bYes, eIf, eCall0, eCall, eChain, eSl, oNone, oSome, dSl, dAdd, dSub, dMod, dDiv, dNeg, dLt, dLtU, dLe, dGt, dGe, dIs, dIx, dIxI, d1, dLen1, dTup, dLst, dListOf, dListW, dTupOf, dIntOf, dIsi, isScr, tyName, scrOf, pName, pTup, psCons, psNil, Res.bind, noExc, ofOpt, patOut, loopOut, wipeR, lcTurn, eNL, noList, noListAll, eFlat, flatL, wSeq, wRange1, wRange2, wEnum, wRev, at0, dEq_str so_fence so_fence, deed]
theorem filter_map {α β : Type} (f : α → β) (p : β → Bool) (q : α → Bool) (h : ∀ a, p (f a) = q a) : ∀ l : List α, (l.map f).filter p = (l.filter q).map f
  | [] => rfl
  | a :: l => by
    rw [List.map_cons]
    by_cases c : q a = true
    · rw [List.filter_cons_of_pos (by rw [h]; exact c), List.filter_cons_of_pos c, List.map_cons, filter_map f p q h l]
    · rw [List.filter_cons_of_neg (by rw [h]; exact c), List.filter_cons_of_neg c, filter_map f p q h l]
def isDeed : D → Bool
  | .tuple (.str x :: _) => !(x == "fence")
  | _ => false
theorem isDeed_of (s : Stp) : isDeed (eStp s) = deed s := by
  cases s <;> simp [isDeed, eStp, deed, ne_pf, ne_gf]
theorem puts_and_gets_ok {r : List Stp} (hl : r.length ≤ 1000) : F__puts_and_gets [eRow r] = .ok (.int (deeds r : Nat)) := by
  have e := eLc_filter (it := wSeq (eVar 0)) (pat := pName 1) (tt := bNot (bTru (eCall0 F_is_fence (aCons (eVar 1) aNil)))) (elt := eVar 1) (vs := [1]) (ρ := [.p (eRow r), .no]) (ds := r.map eStp) (p := isDeed) (f := id) (by simp [eRow, fnP, fnO, ins, retP, retO, sSeq, sIf, sAsg, sRet, sRetO, sSkip, sRetN, sRaise, sDrop, rOut, eOp, eUn, eVar, eC, rget, eArgs, aNil, aCons, eAnd, eOr, eNot, bOf, bNot, bAnd, bOr, bTru, dTru, bYes, eIf, eCall0, eCall, eChain, eSl, oNone, oSome, dSl, dAdd, dSub, dMod, dDiv, dNeg, dLt, dLtU, dLe, dGt, dGe, dIs, dIx, dIxI, d1, dLen1, dTup, dLst, dListOf, dListW, dTupOf, dIntOf, dIsi, isScr, tyName, scrOf, pName, pTup, psCons, psNil, Res.bind, noExc, ofOpt, patOut, loopOut, wipeR, lcTurn, eNL, noList, noListAll, eFlat, flatL, wSeq, wRange1, wRange2, wEnum, wRev]) (fun d hd => by
      obtain ⟨s, hs, rfl⟩ := List.mem_map.mp hd
      rw [isDeed_of]
      have e1 := is_fence_ok s
      simp [lcTurn, pName, wipeR, fnP, fnO, ins, retP, retO, sSeq, sIf, sAsg, sRet, sRetO, sSkip, sRetN, sRaise, sDrop, rOut, eOp, eUn, eVar, eC, rget, eArgs, aNil, aCons, eAnd, eOr, eNot, bOf, bNot, bAnd, bOr, bTru, dTru, bYes, eIf, eCall0, eCall, eChain, eSl, oNone, oSome, dSl, dAdd, dSub, dMod, dDiv, dNeg, dLt, dLtU, dLe, dGt, dGe, dIs, dIx, dIxI, d1, dLen1, dTup, dLst, dListOf, dListW, dTupOf, dIntOf, dIsi, isScr, tyName, scrOf, pName, pTup, psCons, psNil, Res.bind, noExc, ofOpt, patOut, loopOut, wipeR, lcTurn, eNL, noList, noListAll, eFlat, flatL, wSeq, wRange1, wRange2, wEnum, wRev, e1]
      cases deed s <;> rfl) (by simp [bigv]; omega)
  rw [filter_map eStp isDeed deed isDeed_of, List.map_map] at e
  simp [F__puts_and_gets, b__puts_and_gets, C1__puts_and_gets, fnP, ins, sRet, eArgs, aCons, aNil, e, d1, dLen1, Res.bind, rOut, retP, noExc, deeds]
theorem ints_map {α : Type} (f : α → Int) : ∀ l : List α, intsOf (l.map fun a => PyData.int (f a)) = some (l.map f)
  | [] => rfl
  | a :: l => by rw [List.map_cons, intsOf, ints_map f l]; rfl
theorem sum_cast {α : Type} (f : α → Nat) : ∀ l : List α, (l.map fun a => ((f a : Nat) : Int)).sum = ((l.map f).sum : Nat)
  | [] => rfl
  | a :: l => by
    rw [List.map_cons, List.sum_cons, sum_cast f l, List.map_cons, List.sum_cons]
    omega
theorem flat_map {α β γ : Type} (f : α → β) (g : β → List γ) (h : α → γ) : ∀ l : List α, (∀ a ∈ l, g (f a) = [h a]) → (l.map f).flatMap g = l.map h
  | [], _ => rfl
  | a :: l, e => by
    rw [List.map_cons, List.flatMap_cons, e a List.mem_cons_self, flat_map f g h l fun x hx => e x (List.mem_cons_of_mem _ hx), List.map_cons]
    rfl

/-- a comprehension over what is written of a list -/
theorem eLc_enc {α : Type} {it : AF} {pat : PF} {tt : BF} {elt : EF} {vs : List Nat} {ρ : Rho} {f : α → D} {h : α → D} {l : List α} (hi : it ρ = .ok (l.map f)) (ht : ∀ a ∈ l, lcTurn pat tt elt (wipeR ρ vs) (f a) = .ok [h a]) (hl : l.length ≤ big) :
    eLc it pat tt elt vs ρ = .ok (.list (l.map h)) := by
  have go : ∀ l : List α, (∀ a ∈ l, lcTurn pat tt elt (wipeR ρ vs) (f a) = .ok [h a]) → lcGo (lcTurn pat tt elt (wipeR ρ vs)) (l.map f) = .ok (l.map h) := fun l => by
    induction l with
    | nil => exact fun _ => rfl
    | cons a l ih =>
      intro ht
      show ((lcTurn pat tt elt (wipeR ρ vs) (f a)).bind fun r => (lcGo _ (l.map f)).bind fun rs => Res.ok (r ++ rs)) = _
      rw [ht a List.mem_cons_self, ih fun x hx => ht x (List.mem_cons_of_mem _ hx)]
      rfl
  unfold eLc
  rw [hi]
  show (noExc (lcGo _ (l.map f))).bind dLst = _
  rw [go l ht]
  show dLst _ = _
  unfold dLst
  rw [if_pos (by rw [List.length_map]; exact hl)]
theorem is_web_ok {w : Web} (h : WebOk w) : F_is_web [eWeb w] = .ok (.bool true) := by
  have hb : w.length ≤ big := by have := h.most; rw [bigv]; omega
  have e1 : eLc (wSeq (eVar 0)) (pName 1) bYes (eCall0 F__is_row (aCons (eVar 1) aNil)) [1] [.p (.list (w.map eRow)), .no] = .ok (.list (w.map fun _ => .bool true)) :=
    eLc_enc (f := eRow) (by simp [fnP, fnO, ins, retP, retO, sSeq, sIf, sAsg, sRet, sRetO, sSkip, sRetN, sRaise, sDrop, rOut, eOp, eUn, eVar, eC, rget, eArgs, aNil, aCons, eAnd, eOr, eNot, bOf, bNot, bAnd, bOr, bTru, dTru, bYes, eIf, eCall0, eCall, eChain, eSl, oNone, oSome, dSl, dAdd, dSub, dMod, dDiv, dNeg, dLt, dLtU, dLe, dGt, dGe, dIs, dIx, dIxI, d1, dLen1, dTup, dLst, dListOf, dListW, dTupOf, dIntOf, dIsi, isScr, tyName, scrOf, pName, pTup, psCons, psNil, Res.bind, noExc, ofOpt, patOut, loopOut, wipeR, lcTurn, eNL, noList, noListAll, eFlat, flatL, wSeq, wRange1, wRange2, wEnum, wRev]) (fun r hr => by simp [fnP, fnO, ins, retP, retO, sSeq, sIf, sAsg, sRet, sRetO, sSkip, sRetN, sRaise, sDrop, rOut, eOp, eUn, eVar, eC, rget, eArgs, aNil, aCons, eAnd, eOr, eNot, bOf, bNot, bAnd, bOr, bTru, dTru, bYes, eIf, eCall0, eCall, eChain, eSl, oNone, oSome, dSl, dAdd, dSub, dMod, dDiv, dNeg, dLt, dLtU, dLe, dGt, dGe, dIs, dIx, dIxI, d1, dLen1, dTup, dLst, dListOf, dListW, dTupOf, dIntOf, dIsi, isScr, tyName, scrOf, pName, pTup, psCons, psNil, Res.bind, noExc, ofOpt, patOut, loopOut, wipeR, lcTurn, eNL, noList, noListAll, eFlat, flatL, wSeq, wRange1, wRange2, wEnum, wRev, is_row_ok (h.steps r hr) (h.short r hr)]) hb
  have e3 : eLc (wSeq (eVar 0)) (pName 1) bYes (eCall0 F__puts_and_gets (aCons (eVar 1) aNil)) [1] [.p (.list (w.map eRow)), .no] = .ok (.list (w.map fun r => .int (deeds r : Nat))) :=
    eLc_enc (f := eRow) (by simp [fnP, fnO, ins, retP, retO, sSeq, sIf, sAsg, sRet, sRetO, sSkip, sRetN, sRaise, sDrop, rOut, eOp, eUn, eVar, eC, rget, eArgs, aNil, aCons, eAnd, eOr, eNot, bOf, bNot, bAnd, bOr, bTru, dTru, bYes, eIf, eCall0, eCall, eChain, eSl, oNone, oSome, dSl, dAdd, dSub, dMod, dDiv, dNeg, dLt, dLtU, dLe, dGt, dGe, dIs, dIx, dIxI, d1, dLen1, dTup, dLst, dListOf, dListW, dTupOf, dIntOf, dIsi, isScr, tyName, scrOf, pName, pTup, psCons, psNil, Res.bind, noExc, ofOpt, patOut, loopOut, wipeR, lcTurn, eNL, noList, noListAll, eFlat, flatL, wSeq, wRange1, wRange2, wEnum, wRev]) (fun r hr => by simp [fnP, fnO, ins, retP, retO, sSeq, sIf, sAsg, sRet, sRetO, sSkip, sRetN, sRaise, sDrop, rOut, eOp, eUn, eVar, eC, rget, eArgs, aNil, aCons, eAnd, eOr, eNot, bOf, bNot, bAnd, bOr, bTru, dTru, bYes, eIf, eCall0, eCall, eChain, eSl, oNone, oSome, dSl, dAdd, dSub, dMod, dDiv, dNeg, dLt, dLtU, dLe, dGt, dGe, dIs, dIx, dIxI, d1, dLen1, dTup, dLst, dListOf, dListW, dTupOf, dIntOf, dIsi, isScr, tyName, scrOf, pName, pTup, psCons, psNil, Res.bind, noExc, ofOpt, patOut, loopOut, wipeR, lcTurn, eNL, noList, noListAll, eFlat, flatL, wSeq, wRange1, wRange2, wEnum, wRev, puts_and_gets_ok (h.short r hr)]) hb
  rw [map_rep] at e1
  have e4 := sum_cast deeds w
  have h1 : (1 : Int) ≤ (w.length : Nat) := by have := h.most; omega
  have h3 : ((w.length : Nat) : Int) ≤ 3 := by have := h.most; omega
  have h8 : (((w.map deeds).sum : Nat) : Int) ≤ 8 := by have := h.few; omega
  have h8' : (w.map deeds).sum ≤ 8 := h.few
  have h1' := h.most
  simp [F_is_web, b_is_web, C1_is_web, C2_is_web, eWeb, e1, e3, ints_map, e4, bools_rep, all_rep, fnP, fnO, ins, retP, retO, sSeq, sIf, sAsg, sRet, sRetO, sSkip, sRetN, sRaise, sDrop, rOut, eOp, eUn, eVar, eC, rget, eArgs, aNil, aCons, eAnd, eOr, eNot, bOf, bNot, bAnd, bOr, bTru, dTru, bYes, eIf, eCall0, eCall, eChain, eSl, oNone, oSome, dSl, dAdd, dSub, dMod, dDiv, dNeg, dLt, dLtU, dLe, dGt, dGe, dIs, dIx, dIxI, d1, dLen1, dTup, dLst, dListOf, dListW, dTupOf, dIntOf, dIsi, isScr, tyName, scrOf, pName, pTup, psCons, psNil, Res.bind, noExc, ofOpt, patOut, loopOut, wipeR, lcTurn, eNL, noList, noListAll, eFlat, flatL, wSeq, wRange1, wRange2, wEnum, wRev, kb_NoneType_int, kb_NoneType_bool, kb_NoneType_str, kb_NoneType_list, kb_NoneType_tuple, kb_bool_int, kb_bool_bool, kb_bool_str, kb_bool_list, kb_bool_tuple, kb_int_int, kb_int_bool, kb_int_str, kb_int_list, kb_int_tuple, kb_str_int, kb_str_bool, kb_str_str, kb_str_list, kb_str_tuple, kb_list_int, kb_list_bool, kb_list_str, kb_list_list, kb_list_tuple, kb_tuple_int, kb_tuple_bool, kb_tuple_str, kb_tuple_list, kb_tuple_tuple, kb_dict_int, kb_dict_bool, kb_dict_str, kb_dict_list, kb_dict_tuple, dAll, dSum, h1, h3, h8, h8', h1']
theorem need_web_ok {w : Web} (h : WebOk w) : F_need_web [eWeb w] = .ok (eWeb w) := by
  have hb : w.length ≤ big := by have := h.most; rw [bigv]; omega
  have e1 : eLc (wSeq (eVar 0)) (pName 1) bYes (eArgs (d1 dListW) (aCons (eVar 1) aNil)) [1] [.p (eWeb w), .no] = .ok (.list (w.map eRow)) :=
    eLc_enc (f := eRow) (by simp [fnP, fnO, ins, retP, retO, sSeq, sIf, sAsg, sRet, sRetO, sSkip, sRetN, sRaise, sDrop, rOut, eOp, eUn, eVar, eC, rget, eArgs, aNil, aCons, eAnd, eOr, eNot, bOf, bNot, bAnd, bOr, bTru, dTru, bYes, eIf, eCall0, eCall, eChain, eSl, oNone, oSome, dSl, dAdd, dSub, dMod, dDiv, dNeg, dLt, dLtU, dLe, dGt, dGe, dIs, dIx, dIxI, d1, dLen1, dTup, dLst, dListOf, dListW, dTupOf, dIntOf, dIsi, isScr, tyName, scrOf, pName, pTup, psCons, psNil, Res.bind, noExc, ofOpt, patOut, loopOut, wipeR, lcTurn, eNL, noList, noListAll, eFlat, flatL, wSeq, wRange1, wRange2, wEnum, wRev, eWeb]) (fun r hr => by simp [fnP, fnO, ins, retP, retO, sSeq, sIf, sAsg, sRet, sRetO, sSkip, sRetN, sRaise, sDrop, rOut, eOp, eUn, eVar, eC, rget, eArgs, aNil, aCons, eAnd, eOr, eNot, bOf, bNot, bAnd, bOr, bTru, dTru, bYes, eIf, eCall0, eCall, eChain, eSl, oNone, oSome, dSl, dAdd, dSub, dMod, dDiv, dNeg, dLt, dLtU, dLe, dGt, dGe, dIs, dIx, dIxI, d1, dLen1, dTup, dLst, dListOf, dListW, dTupOf, dIntOf, dIsi, isScr, tyName, scrOf, pName, pTup, psCons, psNil, Res.bind, noExc, ofOpt, patOut, loopOut, wipeR, lcTurn, eNL, noList, noListAll, eFlat, flatL, wSeq, wRange1, wRange2, wEnum, wRev, eRow]) hb
  simp [F_need_web, b_need_web, C1_need_web, e1, is_web_ok h, fnP, ins, sSeq, sIf, bNot, bTru, dTru, eCall0, aCons, aNil, eVar, rget, Res.bind, noExc, rOut, sSkip, sRet, retP]
  rfl
end Pg

set_option Elab.async false
set_option linter.all false
set_option maxRecDepth 100000
set_option maxHeartbeats 4000000
namespace Pg
open PySem PySem.Spec PyProof.Rows L2 Fw
/-! ### states -/
def nth {α : Type} (l : List α) (i : Nat) (z : α) : α := l.getD i z

structure Sv where
  done : List Nat
  lines : List (List (Nat × Int))
  boxes : List Int
  got : List (List Int)
def eNat (n : Nat) : D := .int (n : Nat)
def ePair (p : Nat × Int) : D := .tuple [.int (p.1 : Nat), .int p.2]
def eLine (l : List (Nat × Int)) : D := .tuple (l.map ePair)
def eInts (l : List Int) : D := .tuple (l.map PyData.int)
def eSt (s : Sv) : D := .tuple [.tuple (s.done.map eNat), .tuple (s.lines.map eLine), .tuple (s.boxes.map PyData.int), .tuple (s.got.map eInts)]
structure SvOk (w : Web) (s : Sv) : Prop where
  ld : s.done.length = w.length
  ll : s.lines.length = w.length
  lb : s.boxes.length = 4
  lg : s.got.length = w.length
  d : ∀ (h n : Nat) (r : List Stp), s.done[h]? = some n → w[h]? = some r → n ≤ r.length
  l : ∀ (h n : Nat) (l : List (Nat × Int)), s.done[h]? = some n → s.lines[h]? = some l → l.length ≤ n ∧ ∀ p ∈ l, p.1 < 4
  g : ∀ (h n : Nat) (l : List Int), s.done[h]? = some n → s.got[h]? = some l → l.length ≤ n
def begun (w : Web) : Sv := ⟨w.map fun _ => 0, w.map fun _ => [], [0, 0, 0, 0], w.map fun _ => []⟩
def seen (l : List (Nat × Int)) (boxes : List Int) (b : Nat) : Int := match l.reverse.find? (fun p => p.1 == b) with
  | some p => p.2
  | none => (nth boxes b 0)
def canStep (r : List Stp) (n : Nat) (l : List (Nat × Int)) : Bool := match r[n]? with
  | none => false
  | some .fence => l.isEmpty
  | some _ => true
def can (w : Web) (s : Sv) (h : Nat) (send : Bool) : Bool := if send then !(nth s.lines h []).isEmpty else canStep (nth w h []) (nth s.done h 0) (nth s.lines h [])
def doSend (s : Sv) (h : Nat) : Sv := match (nth s.lines h []) with
  | [] => s
  | (b, n) :: r => { s with lines := s.lines.set h r, boxes := s.boxes.set b n }
def doStep (s : Sv) (h : Nat) (t : Stp) : Sv := match t with
  | .put b n => { s with done := s.done.set h (nth s.done h 0 + 1), lines := s.lines.set h (nth s.lines h [] ++ [(b, n)]) }
  | .get b => { s with done := s.done.set h (nth s.done h 0 + 1), got := s.got.set h (nth s.got h [] ++ [seen (nth s.lines h []) s.boxes b]) }
  | .fence => { s with done := s.done.set h (nth s.done h 0 + 1) }
/-! ### parts of tuples -/
theorem cut_take (ds : List D) (k : Nat) (h : k ≤ ds.length) : cutD ds none (some (k : Int)) = ds.take k := by
  unfold Fw.cutD
  rw [HT.sIx_none, HT.sIx_nat, List.drop_zero, Nat.sub_zero, Nat.min_eq_left h]
theorem cut_drop (ds : List D) (k : Nat) (h : k ≤ ds.length) : cutD ds (some (k : Int)) none = ds.drop k := by
  unfold Fw.cutD
  rw [HT.sIx_none, HT.sIx_nat, Nat.min_eq_left h]
  refine List.take_of_length_le ?_
  rw [List.length_drop]
  exact Nat.le_refl _
theorem set_mid {α : Type} : ∀ (l : List α) (k : Nat) (x : α), k < l.length → l.take k ++ ([x] ++ l.drop (k + 1)) = l.set k x
  | a :: l, 0, x, _ => by simp
  | a :: l, k + 1, x, h => by
    have ih := set_mid l k x (Nat.lt_of_succ_lt_succ h)
    show a :: (List.take k l ++ ([x] ++ List.drop (k + 1) l)) = a :: l.set k x
    rw [ih]
theorem with_ok (ds : List D) (k : Nat) (x : D) (h : k < ds.length) (hb : ds.length ≤ 1000) : F__with [.tuple ds, .int (k : Nat), x] = .ok (.tuple (ds.set k x)) := by
  have h1 := cut_take ds k (by omega)
  have h2 : Fw.cutD ds (some ((k : Int) + 1)) none = ds.drop (k + 1) := by
    have e : ((k : Int) + 1) = ((k + 1 : Nat) : Int) := by omega
    rw [e]
    exact cut_drop ds (k + 1) (by omega)
  have l1 : (ds.take k).length = k := by rw [List.length_take]; omega
  have l2 : (ds.drop (k + 1)).length = ds.length - (k + 1) := by rw [List.length_drop]
  have b1 : k + 1 ≤ 16000000 := by omega
  have b2 : k + 1 + (ds.length - (k + 1)) ≤ 16000000 := by omega
  have s := set_mid ds k x h
  simp [F__with, b__with, fnP, fnO, ins, retP, retO, sSeq, sIf, sAsg, sRet, sRetO, sSkip, sRetN, sRaise, sDrop, rOut, eOp, eUn, eVar, eC, rget, eArgs, aNil, aCons, eAnd, eOr, eNot, bOf, bNot, bAnd, bOr, bTru, dTru, bYes, eIf, eCall0, eCall, eChain, eSl, oNone, oSome, dSl, dAdd, dSub, dMod, dDiv, dNeg, dLt, dLtU, dLe, dGt, dGe, dIs, dIx, dIxI, d1, dLen1, dTup, dLst, dListOf, dListW, dTupOf, dIntOf, dIsi, isScr, tyName, scrOf, pName, pTup, psCons, psNil, Res.bind, noExc, ofOpt, patOut, loopOut, wipeR, lcTurn, eNL, noList, noListAll, eFlat, flatL, wSeq, wRange1, wRange2, wEnum, wRev, h1, h2, l1, l2, bigv, b1, b2]
  exact s
/-! ### the first state -/
theorem begun_ok {w : Web} (h : WebOk w) : F_begun [eWeb w] = .ok (eSt (begun w)) := by
  obtain ⟨h1, h2⟩ := h.most
  have e := need_web_ok h
  have k : ∀ d : D, (List.replicate w.length [d]).flatten = w.map fun _ => d := fun d => by
    rw [map_rep]
    induction w.length with
    | zero => rfl
    | succ n ih => rw [List.replicate_succ, List.flatten_cons, ih, List.replicate_succ]; rfl
  have c1 : (1 : Int) ≤ (w.length : Nat) := by omega
  have c2 : ((w.length : Nat) : Int) ≤ 1000 := by omega
  have e2 : F_need_web [.list (w.map eRow)] = .ok (.list (w.map eRow)) := e
  simp [F_begun, b_begun, fnP, fnO, ins, retP, retO, sSeq, sIf, sAsg, sRet, sRetO, sSkip, sRetN, sRaise, sDrop, rOut, eOp, eUn, eVar, eC, rget, eArgs, aNil, aCons, eAnd, eOr, eNot, bOf, bNot, bAnd, bOr, bTru, dTru, bYes, eIf, eCall0, eCall, eChain, eSl, oNone, oSome, dSl, dAdd, dSub, dMod, dDiv, dNeg, dLt, dLtU, dLe, dGt, dGe, dIs, dIx, dIxI, d1, dLen1, dTup, dLst, dListOf, dListW, dTupOf, dIntOf, dIsi, isScr, tyName, scrOf, pName, pTup, psCons, psNil, Res.bind, noExc, ofOpt, patOut, loopOut, wipeR, lcTurn, eNL, noList, noListAll, eFlat, flatL, wSeq, wRange1, wRange2, wEnum, wRev, eWeb, e2, dMul, bigv, c1, c2, k, h1, h2]
  have c3 : w.length ≤ 1000 := by omega
  simp [h1, c3, eSt, begun, eNat, eLine, eInts]
/-! ### what a hand sees -/
theorem seen_loop (L B : D) (b : Nat) : ∀ (l : List (Nat × Int)) (x y : Sl), ∃ x' y', forGo (pTup 2 (psCons (pName 3) (psCons (pName 4) psNil))) L1__seen (l.map ePair) [.p L, .p B, .p (.int (b : Nat)), x, y] =
    (match l.find? (fun p => p.1 == b) with | some p => .ret (.p (.int p.2)) [.p L, .p B, .p (.int (b : Nat)), x', y'] | none => .nx [.p L, .p B, .p (.int (b : Nat)), x', y'])
  | [], x, y => ⟨x, y, rfl⟩
  | p :: l, x, y => by
    by_cases h : p.1 = b
    · refine ⟨.p (.int (p.1 : Nat)), .p (.int p.2), ?_⟩
      have hb : (p.1 == b) = true := by simp [h]
      rw [List.find?_cons, hb]
      simp [forGo, ePair, L1__seen, fnP, fnO, ins, retP, retO, sSeq, sIf, sAsg, sRet, sRetO, sSkip, sRetN, sRaise, sDrop, rOut, eOp, eUn, eVar, eC, rget, eArgs, aNil, aCons, eAnd, eOr, eNot, bOf, bNot, bAnd, bOr, bTru, dTru, bYes, eIf, eCall0, eCall, eChain, eSl, oNone, oSome, dSl, dAdd, dSub, dMod, dDiv, dNeg, dLt, dLtU, dLe, dGt, dGe, dIs, dIx, dIxI, d1, dLen1, dTup, dLst, dListOf, dListW, dTupOf, dIntOf, dIsi, isScr, tyName, scrOf, pName, pTup, psCons, psNil, Res.bind, noExc, ofOpt, patOut, loopOut, wipeR, lcTurn, eNL, noList, noListAll, eFlat, flatL, wSeq, wRange1, wRange2, wEnum, wRev, dEq_int, h]
    · obtain ⟨x', y', ih⟩ := seen_loop L B b l (.p (.int (p.1 : Nat))) (.p (.int p.2))
      refine ⟨x', y', ?_⟩
      have hb : (p.1 == b) = false := by simp [h]
      have hi : ((p.1 : Int) == (b : Int)) = false := by
        simp
        omega
      rw [List.find?_cons, hb, ← ih]
      simp [forGo, ePair, L1__seen, fnP, fnO, ins, retP, retO, sSeq, sIf, sAsg, sRet, sRetO, sSkip, sRetN, sRaise, sDrop, rOut, eOp, eUn, eVar, eC, rget, eArgs, aNil, aCons, eAnd, eOr, eNot, bOf, bNot, bAnd, bOr, bTru, dTru, bYes, eIf, eCall0, eCall, eChain, eSl, oNone, oSome, dSl, dAdd, dSub, dMod, dDiv, dNeg, dLt, dLtU, dLe, dGt, dGe, dIs, dIx, dIxI, d1, dLen1, dTup, dLst, dListOf, dListW, dTupOf, dIntOf, dIsi, isScr, tyName, scrOf, pName, pTup, psCons, psNil, Res.bind, noExc, ofOpt, patOut, loopOut, wipeR, lcTurn, eNL, noList, noListAll, eFlat, flatL, wSeq, wRange1, wRange2, wEnum, wRev, dEq_int, hi]
theorem seen_ok (l : List (Nat × Int)) (boxes : List Int) (b : Nat) (hb : b < boxes.length) : F__seen [eLine l, .tuple (boxes.map PyData.int), .int (b : Nat)] = .ok (.int (seen l boxes b)) := by
  obtain ⟨x, y, e⟩ := seen_loop (eLine l) (.tuple (boxes.map PyData.int)) b l.reverse .no .no
  have e2 : wRev (eVar 0) [.p (eLine l), .p (.tuple (boxes.map PyData.int)), .p (.int (b : Nat)), .no, .no] = .ok (l.reverse.map ePair) := by
    simp [fnP, fnO, ins, retP, retO, sSeq, sIf, sAsg, sRet, sRetO, sSkip, sRetN, sRaise, sDrop, rOut, eOp, eUn, eVar, eC, rget, eArgs, aNil, aCons, eAnd, eOr, eNot, bOf, bNot, bAnd, bOr, bTru, dTru, bYes, eIf, eCall0, eCall, eChain, eSl, oNone, oSome, dSl, dAdd, dSub, dMod, dDiv, dNeg, dLt, dLtU, dLe, dGt, dGe, dIs, dIx, dIxI, d1, dLen1, dTup, dLst, dListOf, dListW, dTupOf, dIntOf, dIsi, isScr, tyName, scrOf, pName, pTup, psCons, psNil, Res.bind, noExc, ofOpt, patOut, loopOut, wipeR, lcTurn, eNL, noList, noListAll, eFlat, flatL, wSeq, wRange1, wRange2, wEnum, wRev, eLine]
  have at_ : atI (boxes.map PyData.int) (b : Int) = some (.int (nth boxes b 0)) := by
    refine atN ?_
    rw [List.getElem?_map, List.getElem?_eq_getElem hb]
    simp [nth, List.getD, List.getElem?_eq_getElem hb]
  have e3 : b__seen [.p (eLine l), .p (.tuple (boxes.map PyData.int)), .p (.int (b : Nat)), .no, .no] = (match l.reverse.find? (fun p => p.1 == b) with | some p => .ret (.p (.int p.2)) [.p (eLine l), .p (.tuple (boxes.map PyData.int)), .p (.int (b : Nat)), x, y] | none => .ret (.p (.int (nth boxes b 0))) [.p (eLine l), .p (.tuple (boxes.map PyData.int)), .p (.int (b : Nat)), x, y]) := by
    show (match (rOut (wRev (eVar 0) _) _ fun ds => forGo _ L1__seen ds _) with | .nx ρ' => sRet (eOp dIx (eVar 1) (eVar 2)) ρ' | o => o) = _
    rw [e2]
    show (match forGo _ L1__seen (l.reverse.map ePair) _ with | .nx ρ' => sRet (eOp dIx (eVar 1) (eVar 2)) ρ' | o => o) = _
    rw [e]
    cases l.reverse.find? (fun p => p.1 == b) with
    | some p => rfl
    | none => simp [fnP, fnO, ins, retP, retO, sSeq, sIf, sAsg, sRet, sRetO, sSkip, sRetN, sRaise, sDrop, rOut, eOp, eUn, eVar, eC, rget, eArgs, aNil, aCons, eAnd, eOr, eNot, bOf, bNot, bAnd, bOr, bTru, dTru, bYes, eIf, eCall0, eCall, eChain, eSl, oNone, oSome, dSl, dAdd, dSub, dMod, dDiv, dNeg, dLt, dLtU, dLe, dGt, dGe, dIs, dIx, dIxI, d1, dLen1, dTup, dLst, dListOf, dListW, dTupOf, dIntOf, dIsi, isScr, tyName, scrOf, pName, pTup, psCons, psNil, Res.bind, noExc, ofOpt, patOut, loopOut, wipeR, lcTurn, eNL, noList, noListAll, eFlat, flatL, wSeq, wRange1, wRange2, wEnum, wRev, at_]
  show noExc (retP (b__seen [.p (eLine l), .p (.tuple (boxes.map PyData.int)), .p (.int (b : Nat)), .no, .no])) = _
  rw [e3]
  unfold seen
  cases l.reverse.find? (fun p => p.1 == b) <;> rfl
/-! ### moves -/
theorem eNat_at (l : List Nat) (h : Nat) (hh : h < l.length) : atI (l.map eNat) (h : Int) = some (.int ((nth l h 0 : Nat) : Int)) := by
  refine atN ?_
  rw [List.getElem?_map, List.getElem?_eq_getElem hh]
  simp [nth, List.getD, List.getElem?_eq_getElem hh, eNat]
theorem enc_at {α : Type} (f : α → D) (l : List α) (h : Nat) (hh : h < l.length) (z : α) : atI (l.map f) (h : Int) = some (f (nth l h z)) := by
  refine atN ?_
  rw [List.getElem?_map, List.getElem?_eq_getElem hh]
  simp [nth, List.getD, List.getElem?_eq_getElem hh]
theorem set_enc {α : Type} (f : α → D) (l : List α) (h : Nat) (x : α) : (l.map f).set h (f x) = (l.set h x).map f := by
  rw [List.map_set]
theorem sent_ok (s : Sv) (h b : Nat) (n : Int) (r : List (Nat × Int)) (hh : h < s.lines.length) (hl : s.lines.length ≤ 1000) (hb : b < s.boxes.length) (hb2 : s.boxes.length ≤ 1000) (e : (nth s.lines h []) = (b, n) :: r) :
    F__sent [eSt s, .int (h : Nat)] = .ok (eSt (doSend s h)) := by
  have h1 := enc_at eLine s.lines h hh []
  rw [e] at h1
  have w1 := with_ok (s.lines.map eLine) h (eLine r) (by rw [List.length_map]; exact hh) (by rw [List.length_map]; exact hl)
  have w2 := with_ok (s.boxes.map PyData.int) b (.int n) (by rw [List.length_map]; exact hb) (by rw [List.length_map]; exact hb2)
  have c1 : Fw.cutD (PyData.tuple [.int (b : Nat), .int n] :: r.map ePair) (some 1) none = r.map ePair := cut_drop (ePair (b, n) :: r.map ePair) 1 (by rw [List.length_cons]; omega)
  have h2 : atI (s.lines.map eLine) (h : Int) = some (.tuple (PyData.tuple [.int (b : Nat), .int n] :: r.map ePair)) := h1
  have w1' : F__with [.tuple (s.lines.map eLine), .int (h : Nat), .tuple (r.map ePair)] = .ok (.tuple ((s.lines.map eLine).set h (eLine r))) := w1
  have d : doSend s h = { s with lines := s.lines.set h r, boxes := s.boxes.set b n } := by
    unfold doSend
    rw [e]
  rw [d]
  simp [F__sent, b__sent, eSt, fnP, fnO, ins, retP, retO, sSeq, sIf, sAsg, sRet, sRetO, sSkip, sRetN, sRaise, sDrop, rOut, eOp, eUn, eVar, eC, rget, eArgs, aNil, aCons, eAnd, eOr, eNot, bOf, bNot, bAnd, bOr, bTru, dTru, bYes, eIf, eCall0, eCall, eChain, eSl, oNone, oSome, dSl, dAdd, dSub, dMod, dDiv, dNeg, dLt, dLtU, dLe, dGt, dGe, dIs, dIx, dIxI, d1, dLen1, dTup, dLst, dListOf, dListW, dTupOf, dIntOf, dIsi, isScr, tyName, scrOf, pName, pTup, psCons, psNil, Res.bind, noExc, ofOpt, patOut, loopOut, wipeR, lcTurn, eNL, noList, noListAll, eFlat, flatL, wSeq, wRange1, wRange2, wEnum, wRev, h2, at0, at1, c1, w1', w2, bigv]
theorem len_app_le {α : Type} (l : List α) (x : α) (n : Nat) (h : l.length < n) : l.length + 1 ≤ n := h
theorem stepped_ok (s : Sv) (h : Nat) (t : Stp) (ht : StpOk t) (hb : s.boxes.length = 4) (hd : h < s.done.length) (hh : h < s.lines.length) (hg : h < s.got.length) (ld : s.done.length ≤ 1000) (hl : s.lines.length ≤ 1000) (lg : s.got.length ≤ 1000)
    (ll : (nth s.lines h []).length ≤ 1000) (gl : (nth s.got h []).length ≤ 1000) : F__stepped [eSt s, .int (h : Nat), eStp t] = .ok (eSt (doStep s h t)) := by
  have d1 := eNat_at s.done h hd
  have l1 := enc_at eLine s.lines h hh []
  have g1 := enc_at eInts s.got h hg []
  have wd := with_ok (s.done.map eNat) h (eNat (nth s.done h 0 + 1)) (by rw [List.length_map]; exact hd) (by rw [List.length_map]; exact ld)
  have wd' : F__with [.tuple (s.done.map eNat), .int (h : Nat), .int (((nth s.done h 0 : Nat) : Int) + 1)] = .ok (.tuple ((s.done.map eNat).set h (eNat (nth s.done h 0 + 1)))) := wd
  have c1 : (nth s.lines h []).length + 1 ≤ 16000000 := by omega
  have c2 : (nth s.got h []).length + 1 ≤ 16000000 := by omega
  have l2 : atI (s.lines.map eLine) (h : Int) = some (.tuple ((nth s.lines h []).map ePair)) := l1
  have g2 : atI (s.got.map eInts) (h : Int) = some (.tuple ((nth s.got h []).map PyData.int)) := g1
  cases t with
  | put b n =>
    have wl := with_ok (s.lines.map eLine) h (eLine (nth s.lines h [] ++ [(b, n)])) (by rw [List.length_map]; exact hh) (by rw [List.length_map]; exact hl)
    have wl' : F__with [.tuple (s.lines.map eLine), .int (h : Nat), .tuple ((nth s.lines h []).map ePair ++ [.tuple [.int (b : Nat), .int n]])] = .ok (.tuple ((s.lines.map eLine).set h (eLine (nth s.lines h [] ++ [(b, n)])))) := by
      rw [← wl]
      simp [eLine, ePair]
    simp [F__stepped, b__stepped, eSt, eStp, fnP, fnO, ins, retP, retO, sSeq, sIf, sAsg, sRet, sRetO, sSkip, sRetN, sRaise, sDrop, rOut, eOp, eUn, eVar, eC, rget, eArgs, aNil, aCons, eAnd, eOr, eNot, bOf, bNot, bAnd, bOr, bTru, dTru, bYes, eIf, eCall0, eCall, eChain, eSl, oNone, oSome, dSl, dAdd, dSub, dMod, dDiv, dNeg, dLt, dLtU, dLe, dGt, dGe, dIs, dIx, dIxI, d1, dLen1, dTup, dLst, dListOf, dListW, dTupOf, dIntOf, dIsi, isScr, tyName, scrOf, pName, pTup, psCons, psNil, Res.bind, noExc, ofOpt, patOut, loopOut, wipeR, lcTurn, eNL, noList, noListAll, eFlat, flatL, wSeq, wRange1, wRange2, wEnum, wRev, d1, l2, at0, at1, at2, wd', wl', dEq_str so_put so_put, bigv, c1, doStep]
  | get b =>
    have hb2 : b < 4 := ht
    have se := seen_ok (nth s.lines h []) s.boxes b (by omega)
    have se' : F__seen [.tuple ((nth s.lines h []).map ePair), .tuple (s.boxes.map PyData.int), .int (b : Nat)] = .ok (.int (seen (nth s.lines h []) s.boxes b)) := se
    have wg := with_ok (s.got.map eInts) h (eInts (nth s.got h [] ++ [seen (nth s.lines h []) s.boxes b])) (by rw [List.length_map]; exact hg) (by rw [List.length_map]; exact lg)
    have wg' : F__with [.tuple (s.got.map eInts), .int (h : Nat), .tuple ((nth s.got h []).map PyData.int ++ [.int (seen (nth s.lines h []) s.boxes b)])] = .ok (.tuple ((s.got.map eInts).set h (eInts (nth s.got h [] ++ [seen (nth s.lines h []) s.boxes b])))) := by
      rw [← wg]
      simp [eInts]
    simp [F__stepped, b__stepped, eSt, eStp, fnP, fnO, ins, retP, retO, sSeq, sIf, sAsg, sRet, sRetO, sSkip, sRetN, sRaise, sDrop, rOut, eOp, eUn, eVar, eC, rget, eArgs, aNil, aCons, eAnd, eOr, eNot, bOf, bNot, bAnd, bOr, bTru, dTru, bYes, eIf, eCall0, eCall, eChain, eSl, oNone, oSome, dSl, dAdd, dSub, dMod, dDiv, dNeg, dLt, dLtU, dLe, dGt, dGe, dIs, dIx, dIxI, d1, dLen1, dTup, dLst, dListOf, dListW, dTupOf, dIntOf, dIsi, isScr, tyName, scrOf, pName, pTup, psCons, psNil, Res.bind, noExc, ofOpt, patOut, loopOut, wipeR, lcTurn, eNL, noList, noListAll, eFlat, flatL, wSeq, wRange1, wRange2, wEnum, wRev, d1, l2, g2, se', at0, at1, at2, wd', wg', dEq_str so_get so_put, dEq_str so_get so_get, ne_gp, bigv, c2, doStep]
  | fence =>
    simp [F__stepped, b__stepped, eSt, eStp, fnP, fnO, ins, retP, retO, sSeq, sIf, sAsg, sRet, sRetO, sSkip, sRetN, sRaise, sDrop, rOut, eOp, eUn, eVar, eC, rget, eArgs, aNil, aCons, eAnd, eOr, eNot, bOf, bNot, bAnd, bOr, bTru, dTru, bYes, eIf, eCall0, eCall, eChain, eSl, oNone, oSome, dSl, dAdd, dSub, dMod, dDiv, dNeg, dLt, dLtU, dLe, dGt, dGe, dIs, dIx, dIxI, d1, dLen1, dTup, dLst, dListOf, dListW, dTupOf, dIntOf, dIsi, isScr, tyName, scrOf, pName, pTup, psCons, psNil, Res.bind, noExc, ofOpt, patOut, loopOut, wipeR, lcTurn, eNL, noList, noListAll, eFlat, flatL, wSeq, wRange1, wRange2, wEnum, wRev, d1, at0, at1, at2, wd', dEq_str so_fence so_put, dEq_str so_fence so_get, ne_fp, ne_fg, bigv, doStep]
end Pg

set_option Elab.async false
set_option linter.all false
set_option maxRecDepth 100000
set_option maxHeartbeats 4000000
namespace Pg
open PySem PySem.Spec PyProof.Rows L2 Fw
def kd (send : Bool) : Str := if send then "send" else "step"
def eMove (h : Nat) (send : Bool) : D := .tuple [.int (h : Nat), .str (kd send)]
theorem eqv_str (x y : Str) : PyData.eqv (.str x) (.str y) = (x == y) := by simp [PyData.eqv]
theorem is_move_pair (n h : Int) (k : Str) : F__is_move [.int n, .tuple [.int h, .str k]] = .ok (.bool (decide (0 ≤ h ∧ h < n) && (("step" : Str) == k || ("send" : Str) == k))) := by
  by_cases h0 : 0 ≤ h
  · by_cases h1 : h < n
    · simp [F__is_move, b__is_move, fnP, fnO, ins, retP, retO, sSeq, sIf, sAsg, sRet, sRetO, sSkip, sRetN, sRaise, sDrop, rOut, eOp, eUn, eVar, eC, rget, eArgs, aNil, aCons, eAnd, eOr, eNot, bOf, bNot, bAnd, bOr, bTru, dTru, bYes, eIf, eCall0, eCall, eChain, eSl, oNone, oSome, dSl, dAdd, dSub, dMod, dDiv, dNeg, dLt, dLtU, dLe, dGt, dGe, dIs, dIx, dIxI, d1, dLen1, dTup, dLst, dListOf, dListW, dTupOf, dIntOf, dIsi, isScr, tyName, scrOf, pName, pTup, psCons, psNil, Res.bind, noExc, ofOpt, patOut, loopOut, wipeR, lcTurn, eNL, noList, noListAll, eFlat, flatL, wSeq, wRange1, wRange2, wEnum, wRev, kb_NoneType_int, kb_NoneType_bool, kb_NoneType_str, kb_NoneType_list, kb_NoneType_tuple, kb_bool_int, kb_bool_bool, kb_bool_str, kb_bool_list, kb_bool_tuple, kb_int_int, kb_int_bool, kb_int_str, kb_int_list, kb_int_tuple, kb_str_int, kb_str_bool, kb_str_str, kb_str_list, kb_str_tuple, kb_list_int, kb_list_bool, kb_list_str, kb_list_list, kb_list_tuple, kb_tuple_int, kb_tuple_bool, kb_tuple_str, kb_tuple_list, kb_tuple_tuple, kb_dict_int, kb_dict_bool, kb_dict_str, kb_dict_list, kb_dict_tuple, dNe_int, whole_int, bigv, dIn, flatD, eqv_str, h0, h1]
    · simp [F__is_move, b__is_move, fnP, fnO, ins, retP, retO, sSeq, sIf, sAsg, sRet, sRetO, sSkip, sRetN, sRaise, sDrop, rOut, eOp, eUn, eVar, eC, rget, eArgs, aNil, aCons, eAnd, eOr, eNot, bOf, bNot, bAnd, bOr, bTru, dTru, bYes, eIf, eCall0, eCall, eChain, eSl, oNone, oSome, dSl, dAdd, dSub, dMod, dDiv, dNeg, dLt, dLtU, dLe, dGt, dGe, dIs, dIx, dIxI, d1, dLen1, dTup, dLst, dListOf, dListW, dTupOf, dIntOf, dIsi, isScr, tyName, scrOf, pName, pTup, psCons, psNil, Res.bind, noExc, ofOpt, patOut, loopOut, wipeR, lcTurn, eNL, noList, noListAll, eFlat, flatL, wSeq, wRange1, wRange2, wEnum, wRev, kb_NoneType_int, kb_NoneType_bool, kb_NoneType_str, kb_NoneType_list, kb_NoneType_tuple, kb_bool_int, kb_bool_bool, kb_bool_str, kb_bool_list, kb_bool_tuple, kb_int_int, kb_int_bool, kb_int_str, kb_int_list, kb_int_tuple, kb_str_int, kb_str_bool, kb_str_str, kb_str_list, kb_str_tuple, kb_list_int, kb_list_bool, kb_list_str, kb_list_list, kb_list_tuple, kb_tuple_int, kb_tuple_bool, kb_tuple_str, kb_tuple_list, kb_tuple_tuple, kb_dict_int, kb_dict_bool, kb_dict_str, kb_dict_list, kb_dict_tuple, dNe_int, whole_int, bigv, h0, h1]
  · simp [F__is_move, b__is_move, fnP, fnO, ins, retP, retO, sSeq, sIf, sAsg, sRet, sRetO, sSkip, sRetN, sRaise, sDrop, rOut, eOp, eUn, eVar, eC, rget, eArgs, aNil, aCons, eAnd, eOr, eNot, bOf, bNot, bAnd, bOr, bTru, dTru, bYes, eIf, eCall0, eCall, eChain, eSl, oNone, oSome, dSl, dAdd, dSub, dMod, dDiv, dNeg, dLt, dLtU, dLe, dGt, dGe, dIs, dIx, dIxI, d1, dLen1, dTup, dLst, dListOf, dListW, dTupOf, dIntOf, dIsi, isScr, tyName, scrOf, pName, pTup, psCons, psNil, Res.bind, noExc, ofOpt, patOut, loopOut, wipeR, lcTurn, eNL, noList, noListAll, eFlat, flatL, wSeq, wRange1, wRange2, wEnum, wRev, kb_NoneType_int, kb_NoneType_bool, kb_NoneType_str, kb_NoneType_list, kb_NoneType_tuple, kb_bool_int, kb_bool_bool, kb_bool_str, kb_bool_list, kb_bool_tuple, kb_int_int, kb_int_bool, kb_int_str, kb_int_list, kb_int_tuple, kb_str_int, kb_str_bool, kb_str_str, kb_str_list, kb_str_tuple, kb_list_int, kb_list_bool, kb_list_str, kb_list_list, kb_list_tuple, kb_tuple_int, kb_tuple_bool, kb_tuple_str, kb_tuple_list, kb_tuple_tuple, kb_dict_int, kb_dict_bool, kb_dict_str, kb_dict_list, kb_dict_tuple, dNe_int, whole_int, bigv, h0]
theorem is_move_ok (n h : Nat) (send : Bool) (hh : h < n) : F__is_move [.int (n : Nat), eMove h send] = .ok (.bool true) := by
  rw [eMove, is_move_pair]
  have h0 : (0 : Int) ≤ (h : Nat) ∧ ((h : Nat) : Int) < (n : Nat) := by omega
  rw [decide_eq_true h0]
  cases send <;> simp [kd]
theorem can_step_ok (r : List Stp) (n : Nat) (l : List (Nat × Int)) : F__can_step [eRow r, .int (n : Nat), eLine l] = .ok (.bool (canStep r n l)) := by
  by_cases h : n < r.length
  · have h1 : ¬ ((r.length : Int) ≤ (n : Nat)) := by omega
    obtain ⟨t, ht⟩ : ∃ t, r[n]? = some t := ⟨_, List.getElem?_eq_getElem h⟩
    have at_ : atI (r.map eStp) (n : Int) = some (eStp t) := by
      refine atN ?_
      rw [List.getElem?_map, ht]
      rfl
    have c : canStep r n l = (deed t || l.isEmpty) := by
      unfold canStep
      rw [ht]
      cases t <;> simp [deed]
    have le : ((l.length : Int) == 0) = l.isEmpty := by
      cases l with
      | nil => rfl
      | cons a l =>
        simp
        omega
    rw [c]
    have isf := is_fence_ok t
    cases t with
    | put b m => simp [F__can_step, b__can_step, eRow, eLine, fnP, fnO, ins, retP, retO, sSeq, sIf, sAsg, sRet, sRetO, sSkip, sRetN, sRaise, sDrop, rOut, eOp, eUn, eVar, eC, rget, eArgs, aNil, aCons, eAnd, eOr, eNot, bOf, bNot, bAnd, bOr, bTru, dTru, bYes, eIf, eCall0, eCall, eChain, eSl, oNone, oSome, dSl, dAdd, dSub, dMod, dDiv, dNeg, dLt, dLtU, dLe, dGt, dGe, dIs, dIx, dIxI, d1, dLen1, dTup, dLst, dListOf, dListW, dTupOf, dIntOf, dIsi, isScr, tyName, scrOf, pName, pTup, psCons, psNil, Res.bind, noExc, ofOpt, patOut, loopOut, wipeR, lcTurn, eNL, noList, noListAll, eFlat, flatL, wSeq, wRange1, wRange2, wEnum, wRev, h1, at_, isf, deed]
    | get b => simp [F__can_step, b__can_step, eRow, eLine, fnP, fnO, ins, retP, retO, sSeq, sIf, sAsg, sRet, sRetO, sSkip, sRetN, sRaise, sDrop, rOut, eOp, eUn, eVar, eC, rget, eArgs, aNil, aCons, eAnd, eOr, eNot, bOf, bNot, bAnd, bOr, bTru, dTru, bYes, eIf, eCall0, eCall, eChain, eSl, oNone, oSome, dSl, dAdd, dSub, dMod, dDiv, dNeg, dLt, dLtU, dLe, dGt, dGe, dIs, dIx, dIxI, d1, dLen1, dTup, dLst, dListOf, dListW, dTupOf, dIntOf, dIsi, isScr, tyName, scrOf, pName, pTup, psCons, psNil, Res.bind, noExc, ofOpt, patOut, loopOut, wipeR, lcTurn, eNL, noList, noListAll, eFlat, flatL, wSeq, wRange1, wRange2, wEnum, wRev, h1, at_, isf, deed]
    | fence => simp [F__can_step, b__can_step, eRow, eLine, fnP, fnO, ins, retP, retO, sSeq, sIf, sAsg, sRet, sRetO, sSkip, sRetN, sRaise, sDrop, rOut, eOp, eUn, eVar, eC, rget, eArgs, aNil, aCons, eAnd, eOr, eNot, bOf, bNot, bAnd, bOr, bTru, dTru, bYes, eIf, eCall0, eCall, eChain, eSl, oNone, oSome, dSl, dAdd, dSub, dMod, dDiv, dNeg, dLt, dLtU, dLe, dGt, dGe, dIs, dIx, dIxI, d1, dLen1, dTup, dLst, dListOf, dListW, dTupOf, dIntOf, dIsi, isScr, tyName, scrOf, pName, pTup, psCons, psNil, Res.bind, noExc, ofOpt, patOut, loopOut, wipeR, lcTurn, eNL, noList, noListAll, eFlat, flatL, wSeq, wRange1, wRange2, wEnum, wRev, h1, at_, isf, deed, dEq_int, le]
  · have h1 : (r.length : Int) ≤ (n : Nat) := by omega
    have c : canStep r n l = false := by
      unfold canStep
      rw [List.getElem?_eq_none (by omega)]
    rw [c]
    simp [F__can_step, b__can_step, eRow, fnP, fnO, ins, retP, retO, sSeq, sIf, sAsg, sRet, sRetO, sSkip, sRetN, sRaise, sDrop, rOut, eOp, eUn, eVar, eC, rget, eArgs, aNil, aCons, eAnd, eOr, eNot, bOf, bNot, bAnd, bOr, bTru, dTru, bYes, eIf, eCall0, eCall, eChain, eSl, oNone, oSome, dSl, dAdd, dSub, dMod, dDiv, dNeg, dLt, dLtU, dLe, dGt, dGe, dIs, dIx, dIxI, d1, dLen1, dTup, dLst, dListOf, dListW, dTupOf, dIntOf, dIsi, isScr, tyName, scrOf, pName, pTup, psCons, psNil, Res.bind, noExc, ofOpt, patOut, loopOut, wipeR, lcTurn, eNL, noList, noListAll, eFlat, flatL, wSeq, wRange1, wRange2, wEnum, wRev, h1]
theorem so_kd (send : Bool) : PyData.strOk (kd send) = true := by cases send <;> decide +kernel
theorem kd_send (send : Bool) : (kd send == "send") = send := by cases send <;> decide +kernel
theorem can_ok {w : Web} {s : Sv} (ok : SvOk w s) (h : Nat) (hh : h < w.length) (send : Bool) : F_is_doable [eWeb w, eSt s, eMove h send] = .ok (.bool (can w s h send)) := by
  have m := is_move_ok w.length h send hh
  have m' : F__is_move [.int (w.length : Nat), .tuple [.int (h : Nat), .str (kd send)]] = .ok (.bool true) := m
  have l1 := enc_at eLine s.lines h (by rw [ok.ll]; exact hh) []
  have l2 : atI (s.lines.map eLine) (h : Int) = some (.tuple ((nth s.lines h []).map ePair)) := l1
  have dn := eNat_at s.done h (by rw [ok.ld]; exact hh)
  have w1 := enc_at eRow w h hh []
  have cs := can_step_ok (nth w h []) (nth s.done h 0) (nth s.lines h [])
  have cs' : F__can_step [eRow (nth w h []), .int ((nth s.done h 0 : Nat) : Int), .tuple ((nth s.lines h []).map ePair)] = .ok (.bool (canStep (nth w h []) (nth s.done h 0) (nth s.lines h []))) := cs
  have k := dEq_str (so_kd send) so_send
  rw [kd_send] at k
  have le : decide (0 < (nth s.lines h []).length) = !(nth s.lines h []).isEmpty := by
    cases nth s.lines h [] <;> simp
  cases send with
  | true => simp [F_is_doable, b_is_doable, eWeb, eSt, eMove, fnP, fnO, ins, retP, retO, sSeq, sIf, sAsg, sRet, sRetO, sSkip, sRetN, sRaise, sDrop, rOut, eOp, eUn, eVar, eC, rget, eArgs, aNil, aCons, eAnd, eOr, eNot, bOf, bNot, bAnd, bOr, bTru, dTru, bYes, eIf, eCall0, eCall, eChain, eSl, oNone, oSome, dSl, dAdd, dSub, dMod, dDiv, dNeg, dLt, dLtU, dLe, dGt, dGe, dIs, dIx, dIxI, d1, dLen1, dTup, dLst, dListOf, dListW, dTupOf, dIntOf, dIsi, isScr, tyName, scrOf, pName, pTup, psCons, psNil, Res.bind, noExc, ofOpt, patOut, loopOut, wipeR, lcTurn, eNL, noList, noListAll, eFlat, flatL, wSeq, wRange1, wRange2, wEnum, wRev, m', l2, dn, w1, k, at0, at1, can, le]
  | false => simp [F_is_doable, b_is_doable, eWeb, eSt, eMove, fnP, fnO, ins, retP, retO, sSeq, sIf, sAsg, sRet, sRetO, sSkip, sRetN, sRaise, sDrop, rOut, eOp, eUn, eVar, eC, rget, eArgs, aNil, aCons, eAnd, eOr, eNot, bOf, bNot, bAnd, bOr, bTru, dTru, bYes, eIf, eCall0, eCall, eChain, eSl, oNone, oSome, dSl, dAdd, dSub, dMod, dDiv, dNeg, dLt, dLtU, dLe, dGt, dGe, dIs, dIx, dIxI, d1, dLen1, dTup, dLst, dListOf, dListW, dTupOf, dIntOf, dIsi, isScr, tyName, scrOf, pName, pTup, psCons, psNil, Res.bind, noExc, ofOpt, patOut, loopOut, wipeR, lcTurn, eNL, noList, noListAll, eFlat, flatL, wSeq, wRange1, wRange2, wEnum, wRev, m', l2, dn, w1, cs', k, at0, at1, can]
theorem can_no {w : Web} {s : Sv} {m : D} (h : F__is_move [.int (w.length : Nat), m] = .ok (.bool false)) : F_is_doable [eWeb w, eSt s, m] = .ok (.bool false) := by
  simp [F_is_doable, b_is_doable, eWeb, fnP, fnO, ins, retP, retO, sSeq, sIf, sAsg, sRet, sRetO, sSkip, sRetN, sRaise, sDrop, rOut, eOp, eUn, eVar, eC, rget, eArgs, aNil, aCons, eAnd, eOr, eNot, bOf, bNot, bAnd, bOr, bTru, dTru, bYes, eIf, eCall0, eCall, eChain, eSl, oNone, oSome, dSl, dAdd, dSub, dMod, dDiv, dNeg, dLt, dLtU, dLe, dGt, dGe, dIs, dIx, dIxI, d1, dLen1, dTup, dLst, dListOf, dListW, dTupOf, dIntOf, dIsi, isScr, tyName, scrOf, pName, pTup, psCons, psNil, Res.bind, noExc, ofOpt, patOut, loopOut, wipeR, lcTurn, eNL, noList, noListAll, eFlat, flatL, wSeq, wRange1, wRange2, wEnum, wRev, h]
theorem can1_ok {w : Web} {s : Sv} {m : D} {b : Bool} (ok : WebOk w) (h : F_is_doable [eWeb w, eSt s, m] = .ok (.bool b)) : F_can [eWeb w, eSt s, m] = .ok (.bool b) := by
  simp [F_can, b_can, fnP, fnO, ins, retP, retO, sSeq, sIf, sAsg, sRet, sRetO, sSkip, sRetN, sRaise, sDrop, rOut, eOp, eUn, eVar, eC, rget, eArgs, aNil, aCons, eAnd, eOr, eNot, bOf, bNot, bAnd, bOr, bTru, dTru, bYes, eIf, eCall0, eCall, eChain, eSl, oNone, oSome, dSl, dAdd, dSub, dMod, dDiv, dNeg, dLt, dLtU, dLe, dGt, dGe, dIs, dIx, dIxI, d1, dLen1, dTup, dLst, dListOf, dListW, dTupOf, dIntOf, dIsi, isScr, tyName, scrOf, pName, pTup, psCons, psNil, Res.bind, noExc, ofOpt, patOut, loopOut, wipeR, lcTurn, eNL, noList, noListAll, eFlat, flatL, wSeq, wRange1, wRange2, wEnum, wRev, need_web_ok ok, h]
/-- what a move does -/
def doMove (w : Web) (s : Sv) (h : Nat) (send : Bool) : Sv := if send then doSend s h else doStep s h ((nth w h []).getD (nth s.done h 0) .fence)
theorem moved_no {w : Web} {s : Sv} {m : D} (ok : WebOk w) (h : F_is_doable [eWeb w, eSt s, m] = .ok (.bool false)) : F_moved [eWeb w, eSt s, m] = .exc 1 := by
  simp [F_moved, b_moved, fnP, fnO, ins, retP, retO, sSeq, sIf, sAsg, sRet, sRetO, sSkip, sRetN, sRaise, sDrop, rOut, eOp, eUn, eVar, eC, rget, eArgs, aNil, aCons, eAnd, eOr, eNot, bOf, bNot, bAnd, bOr, bTru, dTru, bYes, eIf, eCall0, eCall, eChain, eSl, oNone, oSome, dSl, dAdd, dSub, dMod, dDiv, dNeg, dLt, dLtU, dLe, dGt, dGe, dIs, dIx, dIxI, d1, dLen1, dTup, dLst, dListOf, dListW, dTupOf, dIntOf, dIsi, isScr, tyName, scrOf, pName, pTup, psCons, psNil, Res.bind, noExc, ofOpt, patOut, loopOut, wipeR, lcTurn, eNL, noList, noListAll, eFlat, flatL, wSeq, wRange1, wRange2, wEnum, wRev, need_web_ok ok, h]
theorem behind_ok {w : Web} {s : Sv} (okw : WebOk w) (ok : SvOk w s) (h : Nat) (hh : h < w.length) (send : Bool) (c : can w s h send = true) : F_behind [eWeb w, eSt s, eMove h send] = .ok (eSt (doMove w s h send)) := by
  have w3 := okw.most
  have hd : h < s.done.length := by rw [ok.ld]; exact hh
  have hl : h < s.lines.length := by rw [ok.ll]; exact hh
  have hg : h < s.got.length := by rw [ok.lg]; exact hh
  have k := dEq_str (so_kd send) so_send
  rw [kd_send] at k
  have ix : ∀ {α : Type} (l : List α) (z : α), h < l.length → l[h]? = some (nth l h z) := fun l z hh => by
    rw [List.getElem?_eq_getElem hh]
    simp [nth, List.getD, List.getElem?_eq_getElem hh]
  cases send with
  | true =>
    obtain ⟨⟨b, n⟩, r, e⟩ : ∃ p r, nth s.lines h [] = p :: r := by
      have c' : (!(nth s.lines h []).isEmpty) = true := c
      cases q : nth s.lines h [] with
      | nil => rw [q] at c'; cases c'
      | cons p r => exact ⟨p, r, rfl⟩
    have lb := (ok.l h _ _ (ix s.done 0 hd) (ix s.lines [] hl)).2
    rw [e] at lb
    have hb := lb (b, n) List.mem_cons_self
    have se := sent_ok s h b n r hl (by rw [ok.ll]; omega) (by rw [ok.lb]; exact hb) (by rw [ok.lb]; decide) e
    simp [F_behind, b_behind, eMove, fnP, fnO, ins, retP, retO, sSeq, sIf, sAsg, sRet, sRetO, sSkip, sRetN, sRaise, sDrop, rOut, eOp, eUn, eVar, eC, rget, eArgs, aNil, aCons, eAnd, eOr, eNot, bOf, bNot, bAnd, bOr, bTru, dTru, bYes, eIf, eCall0, eCall, eChain, eSl, oNone, oSome, dSl, dAdd, dSub, dMod, dDiv, dNeg, dLt, dLtU, dLe, dGt, dGe, dIs, dIx, dIxI, d1, dLen1, dTup, dLst, dListOf, dListW, dTupOf, dIntOf, dIsi, isScr, tyName, scrOf, pName, pTup, psCons, psNil, Res.bind, noExc, ofOpt, patOut, loopOut, wipeR, lcTurn, eNL, noList, noListAll, eFlat, flatL, wSeq, wRange1, wRange2, wEnum, wRev, k, se, doMove]
  | false =>
    have c' : canStep (nth w h []) (nth s.done h 0) (nth s.lines h []) = true := c
    obtain ⟨t, ht⟩ : ∃ t, (nth w h [])[nth s.done h 0]? = some t := by
      unfold canStep at c'
      cases q : (nth w h [])[nth s.done h 0]? with
      | none => rw [q] at c'; cases c'
      | some t => exact ⟨t, rfl⟩
    have hr : nth w h [] ∈ w := List.mem_of_getElem? (ix w [] hh)
    have st := okw.steps _ hr t (List.mem_of_getElem? ht)
    have rl := okw.short _ hr
    have dl := ok.d h _ _ (ix s.done 0 hd) (ix w [] hh)
    have ll := (ok.l h _ _ (ix s.done 0 hd) (ix s.lines [] hl)).1
    have gl := ok.g h _ _ (ix s.done 0 hd) (ix s.got [] hg)
    have se := stepped_ok s h t st ok.lb hd hl hg (by rw [ok.ld]; omega) (by rw [ok.ll]; omega) (by rw [ok.lg]; omega) (by omega) (by omega)
    have w1 := enc_at eRow w h hh []
    have w2 : atI (w.map eRow) (h : Int) = some (.list ((nth w h []).map eStp)) := w1
    have dn := eNat_at s.done h hd
    have t1 : atI ((nth w h []).map eStp) ((nth s.done h 0 : Nat) : Int) = some (eStp t) := by
      refine atN ?_
      rw [List.getElem?_map, ht]
      rfl
    have dd : (nth w h [])[nth s.done h 0]?.getD .fence = t := by rw [ht]; rfl
    have sc : F__stepped [eSt s, .int (h : Nat), eStp t] = .ok (eSt (doStep s h t)) := se
    have go : F_behind [.list (w.map eRow), eSt s, .tuple [.int (h : Nat), .str (kd false)]] = .ok (eSt (doStep s h t)) := by
      simp only [eSt] at sc ⊢
      simp [F_behind, b_behind, fnP, fnO, ins, retP, retO, sSeq, sIf, sAsg, sRet, sRetO, sSkip, sRetN, sRaise, sDrop, rOut, eOp, eUn, eVar, eC, rget, eArgs, aNil, aCons, eAnd, eOr, eNot, bOf, bNot, bAnd, bOr, bTru, dTru, bYes, eIf, eCall0, eCall, eChain, eSl, oNone, oSome, dSl, dAdd, dSub, dMod, dDiv, dNeg, dLt, dLtU, dLe, dGt, dGe, dIs, dIx, dIxI, d1, dLen1, dTup, dLst, dListOf, dListW, dTupOf, dIntOf, dIsi, isScr, tyName, scrOf, pName, pTup, psCons, psNil, Res.bind, noExc, ofOpt, patOut, loopOut, wipeR, lcTurn, eNL, noList, noListAll, eFlat, flatL, wSeq, wRange1, wRange2, wEnum, wRev, k, w2, dn, t1, at0, sc]
    have dm : doMove w s h false = doStep s h t := by
      simp [doMove, dd]
    rw [dm]
    exact go
theorem moved_ok {w : Web} {s : Sv} (okw : WebOk w) (ok : SvOk w s) (h : Nat) (hh : h < w.length) (send : Bool) (c : can w s h send = true) : F_moved [eWeb w, eSt s, eMove h send] = .ok (eSt (doMove w s h send)) := by
  have hc := can_ok ok h hh send
  rw [c] at hc
  simp [F_moved, b_moved, fnP, fnO, ins, retP, retO, sSeq, sIf, sAsg, sRet, sRetO, sSkip, sRetN, sRaise, sDrop, rOut, eOp, eUn, eVar, eC, rget, eArgs, aNil, aCons, eAnd, eOr, eNot, bOf, bNot, bAnd, bOr, bTru, dTru, bYes, eIf, eCall0, eCall, eChain, eSl, oNone, oSome, dSl, dAdd, dSub, dMod, dDiv, dNeg, dLt, dLtU, dLe, dGt, dGe, dIs, dIx, dIxI, d1, dLen1, dTup, dLst, dListOf, dListW, dTupOf, dIntOf, dIsi, isScr, tyName, scrOf, pName, pTup, psCons, psNil, Res.bind, noExc, ofOpt, patOut, loopOut, wipeR, lcTurn, eNL, noList, noListAll, eFlat, flatL, wSeq, wRange1, wRange2, wEnum, wRev, need_web_ok okw, hc, behind_ok okw ok h hh send c]
end Pg

set_option Elab.async false
set_option linter.all false
set_option maxRecDepth 100000
set_option maxHeartbeats 4000000
namespace Pg
open PySem PySem.Spec PyProof.Rows L2 Fw
def Bd (B : Nat) (z : Int) : Prop := z.natAbs < 2 ^ B
theorem bd_of {z : Int} {B : Nat} (h : Builtin.Int.intBits z ≤ B) : Bd B z := by
  unfold Bd
  unfold Builtin.Int.intBits at h
  by_cases e : z = 0
  · subst e
    exact Nat.two_pow_pos B
  · have e2 : (z == 0) = false := by simp [e]
    rw [e2] at h
    have h2 : z.natAbs.log2 + 1 ≤ B := h
    exact Nat.lt_of_lt_of_le Nat.lt_log2_self (Nat.pow_le_pow_right (by decide) h2)
theorem Bd.add {z k : Int} {B : Nat} (h : Bd B z) (hk : 0 ≤ k ∧ k ≤ 30) : Bd (B + 5) (z + k) := by
  unfold Bd at *
  have e : 2 ^ (B + 5) = 2 ^ B * 32 := Nat.pow_add 2 B 5
  have p := Nat.two_pow_pos B
  rw [e]
  omega
theorem fdiv_abs (z : Int) (n : Nat) (hn : 0 < n) : (z.fdiv (n : Nat)).natAbs ≤ z.natAbs := by
  rw [Int.fdiv_eq_ediv_of_nonneg _ (by omega)]
  have := Int.natAbs_ediv_le_natAbs z (n : Nat)
  exact this
theorem Bd.div {z : Int} {B : Nat} (h : Bd B z) (n : Nat) (hn : 0 < n) : Bd B (z.fdiv (n : Nat)) := Nat.lt_of_le_of_lt (fdiv_abs z n hn) h
theorem Bd.bits {z : Int} {B : Nat} (h : Bd B z) (hB : 0 < B) : Builtin.Int.intBits z ≤ B := by
  unfold Builtin.Int.intBits
  split
  · omega
  · exact PySem.Flt.log2_lt_of hB h
theorem fmod_lt (z : Int) (n : Nat) (hn : 0 < n) : 0 ≤ z.fmod (n : Nat) ∧ z.fmod (n : Nat) < (n : Nat) := ⟨Int.fmod_nonneg_of_pos _ (by omega), Int.fmod_lt_of_pos _ (by omega)⟩
def cell (ns : List Int) (k : Nat) : Int := nth ns k 0
theorem cell_bd {ns : List Int} {B : Nat} (hb : ∀ z ∈ ns, Builtin.Int.intBits z ≤ B) (k : Nat) : Bd B (cell ns k) := by
  unfold cell nth
  by_cases h : k < ns.length
  · have e : ns.getD k 0 = ns[k] := by simp [List.getD, List.getElem?_eq_getElem h]
    rw [e]
    exact bd_of (hb _ (List.getElem_mem h))
  · have h2 : ns.getD k 0 = 0 := by simp [List.getD, List.getElem?_eq_none (Nat.le_of_not_lt h)]
    rw [h2]
    exact Nat.two_pow_pos B
theorem Bd.log {z : Int} {B : Nat} (h : Bd B z) (hB : 0 < B) : z.natAbs.log2 < B := PySem.Flt.log2_lt_of hB h
theorem mul_ok {c : Int} {B : Nat} (h : Bd B c) (hB : 0 < B ∧ B ≤ 2000000) : Fw.CMulX c (48271 ^ 7) := by
  have b1 := h.log hB.1
  have b2 : (48271 ^ 7 : Int).natAbs.log2 ≤ 112 := by decide +kernel
  show c.natAbs.log2 + (48271 ^ 7 : Int).natAbs.log2 < 100000000
  generalize c.natAbs.log2 = x at b1 ⊢
  generalize (48271 ^ 7 : Int).natAbs.log2 = y at b2 ⊢
  omega
structure WInv (m n : Nat) (w : Web) : Prop where
  len : w.length = m
  ok : ∀ r ∈ w, ∀ s ∈ r, StpOk s
  few : (w.map List.length).sum ≤ n
theorem sum_set (w : Web) (j : Nat) (r : List Stp) (s : Stp) (h : w[j]? = some r) : ((w.set j (r ++ [s])).map List.length).sum = (w.map List.length).sum + 1 := by
  induction w generalizing j with
  | nil => cases h
  | cons a w ih =>
    cases j with
    | zero =>
      cases h
      simp
      omega
    | succ j =>
      have e := ih j h
      rw [List.set_cons_succ, List.map_cons, List.sum_cons, e, List.map_cons, List.sum_cons]
      omega
theorem ixN_nat {n j : Nat} (h : j < n) : ixN n (j : Int) = some j := by
  unfold ixN
  rw [if_pos (by omega), if_pos (by omega)]
  rfl
theorem WInv.add {m n : Nat} {w : Web} (i : WInv m n w) {j : Nat} {r : List Stp} {s : Stp} (h : w[j]? = some r) (hs : StpOk s) : WInv m (n + 1) (w.set j (r ++ [s])) where
  len := by rw [List.length_set]; exact i.len
  ok := fun r' hr s' hs' => by
    rcases List.mem_or_eq_of_mem_set hr with z | z
    · exact i.ok r' z s' hs'
    · subst z
      rcases List.mem_append.mp hs' with y | y
      · exact i.ok r (List.mem_of_getElem? h) s' y
      · rw [List.mem_singleton.mp y]
        exact hs
  few := by
    rw [sum_set w j r s h]
    exact Nat.succ_le_succ i.few
theorem deeds_sum : ∀ w : Web, (w.map deeds).sum ≤ (w.map List.length).sum
  | [] => Nat.le_refl _
  | r :: w => by
    have h1 : deeds r ≤ r.length := List.length_filter_le _ _
    have h2 := deeds_sum w
    simp
    omega
theorem mem_sum : ∀ {w : Web} {r : List Stp}, r ∈ w → r.length ≤ (w.map List.length).sum
  | a :: w, r, h => by
    rcases List.mem_cons.mp h with z | z
    · subst z
      simp
    · have := mem_sum z
      simp
      omega
theorem WInv.web {m n : Nat} {w : Web} (i : WInv m n w) (hm : 1 ≤ m ∧ m ≤ 3) (hn : n ≤ 8) : WebOk w where
  most := by rw [i.len]; exact hm
  steps := i.ok
  few := Nat.le_trans (deeds_sum w) (Nat.le_trans i.few hn)
  short := fun r hr => Nat.le_trans (mem_sum hr) (Nat.le_trans i.few (by omega))
theorem range0 (n : Nat) : rangeD 0 n = (List.range n).map fun (i : Nat) => PyData.int (i : Int) := by
  unfold rangeD
  congr 1
  funext i
  rw [Int.zero_add]
def oLine (l : List (Nat × Int)) : D := .list (l.map ePair)
def oInts (l : List Int) : D := .list (l.map PyData.int)
def eOwn (s : Sv) : D := .list [.list (s.done.map eNat), .list (s.lines.map oLine), .list (s.boxes.map PyData.int), .list (s.got.map oInts)]
theorem noList_ints (l : List Int) : noListAll (l.map PyData.int) = true := by
  induction l with
  | nil => rfl
  | cons a l ih => rw [List.map_cons, noListAll, ih]; rfl
theorem flatL_ints (l : List D) (h : noListAll l = true) : flatL (.list l) = true := h
theorem eArgs1 {g : List D → Res D} {f1 : EF} {ρ : Rho} {d1 : D} (h1 : f1 ρ = .ok d1) : eArgs g (aCons f1 aNil) ρ = g [d1] := by
  unfold eArgs
  simp only [aCons, aNil, Res.bind, h1]
theorem sAsg_nm {i : Nat} {f : EF} {ρ : Rho} {d : D} (h : f ρ = .ok d) : sAsg (pName i) f ρ = .nx (ρ.set i (.p d)) := by
  unfold sAsg
  rw [h]
  rfl
theorem sSeq_nx {f g : SF} {ρ ρ' : Rho} (h : f ρ = .nx ρ') : sSeq f g ρ = g ρ' := by
  unfold sSeq
  rw [h]
theorem sRet_ok {f : EF} {ρ : Rho} {d : D} (h : f ρ = .ok d) : sRet f ρ = .ret (.p d) ρ := by
  unfold sRet
  rw [h]
  rfl
theorem eArgs2 {g : List D → Res D} {f1 f2 : EF} {ρ : Rho} {d1 d2 : D} (h1 : f1 ρ = .ok d1) (h2 : f2 ρ = .ok d2) : eArgs g (aCons f1 (aCons f2 aNil)) ρ = g [d1, d2] := by
  unfold eArgs
  simp only [aCons, aNil, Res.bind, h1, h2]
theorem eArgs3 {g : List D → Res D} {f1 f2 f3 : EF} {ρ : Rho} {d1 d2 d3 : D} (h1 : f1 ρ = .ok d1) (h2 : f2 ρ = .ok d2) (h3 : f3 ρ = .ok d3) : eArgs g (aCons f1 (aCons f2 (aCons f3 aNil))) ρ = g [d1, d2, d3] := by
  unfold eArgs
  simp only [aCons, aNil, Res.bind, h1, h2, h3]
theorem eArgs4 {g : List D → Res D} {f1 f2 f3 f4 : EF} {ρ : Rho} {d1 d2 d3 d4 : D} (h1 : f1 ρ = .ok d1) (h2 : f2 ρ = .ok d2) (h3 : f3 ρ = .ok d3) (h4 : f4 ρ = .ok d4) :
    eArgs g (aCons f1 (aCons f2 (aCons f3 (aCons f4 aNil)))) ρ = g [d1, d2, d3, d4] := by
  unfold eArgs
  simp only [aCons, aNil, Res.bind, h1, h2, h3, h4]
theorem sh_pair (p : Nat × Int) : Sh 1 (ePair p) := .tuple (n := 0) fun d hd => by
  rcases List.mem_cons.mp hd with z | z
  · subst z; exact .int _
  · rw [List.mem_singleton.mp z]; exact .int _
theorem sh_oLine (l : List (Nat × Int)) : Sh 2 (oLine l) := .list (n := 1) fun d hd => by
  obtain ⟨p, _, rfl⟩ := List.mem_map.mp hd
  exact sh_pair p
theorem sh_nil {n : Nat} : Sh (n + 1) (.list []) := .list fun d hd => absurd hd List.not_mem_nil
theorem ne_nil_line (l : List (Nat × Int)) : dNe (.list (l.map ePair)) (.list []) = .ok (.bool (!l.isEmpty)) := by
  have h : Sh 2 (.list (l.map ePair)) := sh_oLine l
  rw [dNe_sh (n := 2) h sh_nil (by decide)]
  cases l <;> simp [PyData.eqv, PyData.eqvAll]
theorem eq_nil_line (l : List (Nat × Int)) : dEq (.list (l.map ePair)) (.list []) = .ok (.bool l.isEmpty) := by
  have h : Sh 2 (.list (l.map ePair)) := sh_oLine l
  rw [dEq_sh (n := 2) h sh_nil (by decide)]
  cases l <;> simp [PyData.eqv, PyData.eqvAll]
theorem plVar_ok {ρ : Rho} {i : Nat} {r : Option Nat} {b : Bool} {d : D} (h : ρ[i]? = some (.o r b d)) : plVar i ρ = .ok ⟨b, d, fun d' => ρ.set i (.o r b d')⟩ := by
  unfold plVar
  rw [h]
theorem plIx_ok {p : PlF} {ρ : Rho} {j : Nat} {es : List D} {x : D} {up : D → Rho} {f : EF} (e : p ρ = .ok ⟨true, .list es, up⟩) (h2 : f ρ = .ok (.int (j : Nat))) (hj : es[j]? = some x) : plIx p f ρ = .ok ⟨true, x, fun d' => up (.list (es.set j d'))⟩ := by
  have l2 := (List.getElem?_eq_some_iff.mp hj).1
  unfold plIx
  rw [e]
  simp only [Res.bind, h2]
  simp only [plStep, plAt, if_true, ixN_nat l2, ofOpt, Res.bind, hj]
theorem getN {α : Type} (l : List α) (h : Nat) (z : α) (hh : h < l.length) : l[h]? = some (nth l h z) := by
  rw [List.getElem?_eq_getElem hh]
  simp [nth, List.getD, List.getElem?_eq_getElem hh]
theorem enc_get {α : Type} (f : α → D) (l : List α) (h : Nat) (z : α) (hh : h < l.length) : (l.map f)[h]? = some (f (nth l h z)) := by
  rw [List.getElem?_map, getN l h z hh]
  rfl
theorem sPopI_ok {pl : PlF} {x : Nat} {ρ : Rho} {d : D} {ds : List D} {up : D → Rho} (h : pl ρ = .ok ⟨true, .list (d :: ds), up⟩) (hn : noList d = true) : sPopI pl 0 x ρ = .nx ((up (.list ds)).set x (.p d)) := by
  unfold sPopI
  rw [h]
  simp only [rOut]
  have ix : ixN (d :: ds).length 0 = some 0 := ixN_nat (j := 0) (by simp)
  unfold sPopK
  show (if true = true ∧ -1000 ≤ (0 : Int) ∧ (0 : Int) ≤ 1000 then (match ixN (d :: ds).length 0 with | some j => (match (d :: ds)[j]? with | some e => if noList e = true then Out.nx ((up (.list ((d :: ds).eraseIdx j))).set x (.p e)) else .bad | none => .bad) | none => .bad) else .bad) = _
  rw [if_pos ⟨rfl, by decide, by decide⟩, ix]
  show (if noList d = true then _ else _) = _
  rw [if_pos hn]
  rfl
theorem sSetI_ok {pl : PlF} {k f : EF} {ρ : Rho} {e : D} {ds : List D} {j : Nat} {up : D → Rho} (hf : f ρ = .ok e) (h : pl ρ = .ok ⟨true, .list ds, up⟩) (hk : k ρ = .ok (.int (j : Nat))) (hj : j < ds.length) (hn : noList e = true) : sSetI true pl k f ρ = .nx (up (.list (ds.set j e))) := by
  unfold sSetI
  rw [hf]
  show (rOut (pl ρ) ρ _) = _
  rw [h]
  show (rOut (k ρ) ρ _) = _
  rw [hk]
  show (if true = true ∧ noList e = true then (match ixN ds.length (j : Int) with | some j => Out.nx (up (.list (ds.set j e))) | none => .bad) else .bad) = _
  rw [if_pos ⟨rfl, hn⟩, ixN_nat hj]
theorem sSetO_ok {b : Bool} {pl : PlF} {k f : EF} {ρ : Rho} {e : D} {ds : List D} {j : Nat} {up : D → Rho} (hf : f ρ = .ok e) (h : pl ρ = .ok ⟨b, .list ds, up⟩) (hk : k ρ = .ok (.int (j : Nat))) (hj : j < ds.length) : sSetO b pl k f ρ = .nx (up (.list (ds.set j e))) := by
  unfold sSetO
  rw [hf]
  show (rOut (pl ρ) ρ _) = _
  rw [h]
  show (rOut (k ρ) ρ _) = _
  rw [hk]
  show (if b = b then (match ixN ds.length (j : Int) with | some j => if j < ds.length then Out.nx (up (.list (ds.set j e))) else .bad | none => .bad) else .bad) = _
  rw [if_pos rfl, ixN_nat hj]
  show (if j < ds.length then _ else _) = _
  rw [if_pos hj]
theorem sApp_ok {pl : PlF} {f : EF} {ρ : Rho} {e : D} {ds : List D} {up : D → Rho} (h : pl ρ = .ok ⟨true, .list ds, up⟩) (hf : f ρ = .ok e) (hl : ds.length < 16000000) : sApp true pl f ρ = .nx (up (.list (ds ++ [e]))) := by
  unfold sApp
  rw [h]
  show sAppK ⟨true, .list ds, up⟩ true (f ρ) ρ = _
  rw [hf]
  show (if true = true then (if ds.length < big then Out.nx _ else .bad) else .bad) = _
  rw [if_pos rfl, if_pos (show ds.length < big from hl)]
theorem sIf_t {c : BF} {f g : SF} {ρ : Rho} (h : c ρ = .ok true) : sIf c f g ρ = f ρ := by
  unfold sIf
  rw [h]
  rfl
theorem sIf_f {c : BF} {f g : SF} {ρ : Rho} (h : c ρ = .ok false) : sIf c f g ρ = g ρ := by
  unfold sIf
  rw [h]
  rfl
theorem sIf_skip {c : BF} {f : SF} {ρ : Rho} (h : c ρ = .ok false) : sIf c f sSkip ρ = .nx ρ := sIf_f h
theorem sSeq_ret {f g : SF} {ρ ρ' : Rho} {s : Sl} (h : f ρ = .ret s ρ') : sSeq f g ρ = .ret s ρ' := by
  unfold sSeq
  rw [h]
theorem sIf_retC {c : BF} {g : SF} {ρ : Rho} {d : D} (h : c ρ = .ok true) : sSeq (sIf c (sRet (eC d)) sSkip) g ρ = .ret (.p d) ρ := by
  unfold sSeq
  rw [sIf_t h]
  rfl
def thenS (g : SF) (o : Out) : Out := match o with
  | .nx ρ => g ρ
  | o => o
theorem sSeq_then {f g : SF} {ρ : Rho} : sSeq f g ρ = thenS g (f ρ) := by
  unfold sSeq thenS
  rfl
abbrev own4 (a b c d : D) : D := .list [a, b, c, d]
theorem eOp_ok {g : D → D → Res D} {f1 f2 : EF} {ρ : Rho} {x y : D} (h1 : f1 ρ = .ok x) (h2 : f2 ρ = .ok y) : eOp g f1 f2 ρ = g x y := by
  unfold eOp
  rw [h1]
  show (f2 ρ).bind _ = _
  rw [h2]
  rfl
theorem eIf_t {c : BF} {f g : EF} {ρ : Rho} (h : c ρ = .ok true) : eIf c f g ρ = f ρ := by
  unfold eIf
  rw [h]
  rfl
theorem eIf_f {c : BF} {f g : EF} {ρ : Rho} (h : c ρ = .ok false) : eIf c f g ρ = g ρ := by
  unfold eIf
  rw [h]
  rfl
theorem eBor_ok {i : Nat} {f : EF} {ρ : Rho} {d : D} (h : f (Fw.frz i ρ) = .ok d) (hn : noList d = true) : eBor i f ρ = .ok d := by
  unfold eBor
  rw [h]
  show (if noList d = true then _ else _) = _
  rw [if_pos hn]
theorem eNL_ok {f : EF} {ρ : Rho} {d : D} (h : f ρ = .ok d) (hn : noList d = true) : eNL f ρ = .ok d := by
  unfold eNL
  rw [h]
  show (if noList d = true then _ else _) = _
  rw [if_pos hn]
theorem nl_stp (t : Stp) : noList (eStp t) = true := by cases t <;> rfl
theorem seen_filter (l : List (Nat × Int)) (b : Nat) : l.reverse.find? (fun p => p.1 == b) = (l.filter fun p => p.1 == b).getLast? := by
  rw [List.getLast?_filter]
theorem getLast_app {α : Type} (f : α → D) (l : List α) (z : α) : (l ++ [z]).map f ≠ [] := by simp
def isBox (b : Nat) : D → Bool
  | .tuple (.int x :: _) => x == (b : Int)
  | _ => false
def worth : D → D
  | .tuple [_, y] => y
  | d => d
theorem at_last {α : Type} (l : List α) : atI l (-1) = l.getLast? := by
  unfold atI ixN
  rw [if_neg (by decide)]
  cases l with
  | nil => rfl
  | cons a l =>
    have e : ((-1 : Int) + ((a :: l).length : Nat)).toNat = (a :: l).length - 1 := by
      rw [List.length_cons]
      omega
    rw [if_pos (by rw [List.length_cons]; omega), e, List.getLast?_eq_getElem?]
    rfl
theorem sh_ints {α : Type} (f : α → Int) (l : List α) : Sh 1 (.list (l.map fun p => PyData.int (f p))) := .list (n := 0) fun d hd => by
  obtain ⟨p, _, rfl⟩ := List.mem_map.mp hd
  exact .int _
theorem ne_nil_ints {α : Type} (f : α → Int) (l : List α) : dNe (.list (l.map fun p => PyData.int (f p))) (.list []) = .ok (.bool (!l.isEmpty)) := by
  rw [dNe_sh (n := 1) (sh_ints f l) sh_nil (by decide)]
  cases l <;> simp [PyData.eqv, PyData.eqvAll]
mutual
theorem eqv_self : ∀ d : D, PyData.canLay0 d = true → PyData.eqv d d = true
  | .none, _ => rfl
  | .bool b, _ => by cases b <;> rfl
  | .int i, _ => by simp [PyData.eqv]
  | .str x, _ => by simp [PyData.eqv]
  | .list ds, h => by
    have h' : PyData.canLayAll0 ds = true := by simpa [PyData.canLay0] using h
    simpa [PyData.eqv] using eqvAll_self ds h'
  | .tuple ds, h => by
    have h' : PyData.canLayAll0 ds = true := by simpa [PyData.canLay0] using h
    simpa [PyData.eqv] using eqvAll_self ds h'
  | .dict ds, h => by simp [PyData.canLay0] at h
theorem eqvAll_self : ∀ ds : List D, PyData.canLayAll0 ds = true → PyData.eqvAll ds ds = true
  | [], _ => rfl
  | d :: ds, h => by
    have h' : PyData.canLay0 d = true ∧ PyData.canLayAll0 ds = true := by simpa [PyData.canLayAll0] using h
    rw [PyData.eqvAll, eqv_self d h'.1, eqvAll_self ds h'.2]
    rfl
end
theorem sh_mem {α : Type} {n : Nat} {f : α → D} {l : List α} (h : ∀ a, Sh n (f a)) : ∀ d ∈ l.map f, Sh n d := fun d hd => by
  obtain ⟨p, _, rfl⟩ := List.mem_map.mp hd
  exact h p
theorem Sh.up {n m : Nat} {d : D} (h : Sh n d) (hm : n ≤ m) : Sh m d := ⟨h.1, Nat.le_trans h.2 hm⟩
theorem sh_st (s : Sv) : Sh 4 (eSt s) := .tuple (n := 3) fun d hd => by
  have h1 : Sh 3 (.tuple (s.done.map eNat)) := .tuple (n := 2) (sh_mem fun a => .int _)
  have h2 : Sh 3 (.tuple (s.lines.map eLine)) := .tuple (n := 2) (sh_mem fun a => .tuple (n := 1) (sh_mem fun p => sh_pair p))
  have h3 : Sh 3 (.tuple (s.boxes.map PyData.int)) := .tuple (n := 2) (sh_mem fun a => .int _)
  have h4 : Sh 3 (.tuple (s.got.map eInts)) := .tuple (n := 2) (sh_mem fun a => .tuple (n := 1) (sh_mem fun p => .int _))
  simp only [List.mem_cons, List.not_mem_nil, or_false] at hd
  rcases hd with rfl | rfl | rfl | rfl
  · exact h1
  · exact h2
  · exact h3
  · exact h4
theorem sh_stp (t : Stp) : Sh 1 (eStp t) := by
  cases t with
  | put b n =>
    exact .tuple (n := 0) fun d hd => by
      simp only [List.mem_cons, List.not_mem_nil, or_false] at hd
      rcases hd with rfl | rfl | rfl
      · exact .str so_put
      · exact .int _
      · exact .int _
  | get b =>
    exact .tuple (n := 0) fun d hd => by
      simp only [List.mem_cons, List.not_mem_nil, or_false] at hd
      rcases hd with rfl | rfl
      · exact .str so_get
      · exact .int _
  | fence =>
    exact .tuple (n := 0) fun d hd => by
      simp only [List.mem_cons, List.not_mem_nil, or_false] at hd
      rcases hd with rfl
      exact .str so_fence
theorem sh_web (w : Web) : Sh 3 (eWeb w) := .list (n := 2) (sh_mem fun r => .list (n := 1) (sh_mem fun t => sh_stp t))
theorem sFor_ok {it : AF} {pat : PF} {body : SF} {ρ : Rho} {ds : List D} (h : it ρ = .ok ds) : sFor it pat body ρ = forGo pat body ds ρ := by
  unfold sFor
  rw [h]
  rfl
theorem set_nth {α : Type} : ∀ (l : List α) (h : Nat) (z : α), h < l.length → l.set h (nth l h z) = l
  | a :: l, 0, z, _ => rfl
  | a :: l, h + 1, z, hh => by
    have e : nth (a :: l) (h + 1) z = nth l h z := rfl
    rw [e, List.set_cons_succ, set_nth l h z (Nat.lt_of_succ_lt_succ hh)]
theorem get_set {α : Type} {l : List α} {h k : Nat} {x y : α} (e : (l.set h x)[k]? = some y) : (k = h ∧ y = x) ∨ (k ≠ h ∧ l[k]? = some y) := by
  rw [List.getElem?_set] at e
  by_cases c : h = k
  · rw [if_pos c] at e
    split at e
    · exact .inl ⟨c.symm, (Option.some.inj e).symm⟩
    · cases e
  · rw [if_neg c] at e
    exact .inr ⟨fun z => c z.symm, e⟩
theorem sv_upd {w : Web} {s : Sv} (ok : SvOk w s) (h : Nat) (hh : h < w.length) (n' : Nat) (l' : List (Nat × Int)) (b' : List Int) (g' : List Int) (hn : n' ≤ (nth w h []).length) (hl : l'.length ≤ n' ∧ ∀ p ∈ l', p.1 < 4) (hg : g'.length ≤ n') (hb : b'.length = 4) :
    SvOk w ⟨s.done.set h n', s.lines.set h l', b', s.got.set h g'⟩ where
  ld := by rw [List.length_set]; exact ok.ld
  ll := by rw [List.length_set]; exact ok.ll
  lb := hb
  lg := by rw [List.length_set]; exact ok.lg
  d := fun k n r e1 e2 => by
    rcases get_set e1 with ⟨rfl, rfl⟩ | ⟨c, e⟩
    · have q := getN w k [] hh
      rw [e2] at q
      rw [Option.some.inj q]
      exact hn
    · exact ok.d k n r e e2
  l := fun k n l e1 e2 => by
    rcases get_set e1 with ⟨rfl, rfl⟩ | ⟨c, e⟩
    · rcases get_set e2 with ⟨_, rfl⟩ | ⟨c, _⟩
      · exact hl
      · exact absurd rfl c
    · rcases get_set e2 with ⟨z, _⟩ | ⟨_, e3⟩
      · exact absurd z c
      · exact ok.l k n l e e3
  g := fun k n l e1 e2 => by
    rcases get_set e1 with ⟨rfl, rfl⟩ | ⟨c, e⟩
    · rcases get_set e2 with ⟨_, rfl⟩ | ⟨c, _⟩
      · exact hg
      · exact absurd rfl c
    · rcases get_set e2 with ⟨z, _⟩ | ⟨_, e3⟩
      · exact absurd z c
      · exact ok.g k n l e e3
theorem sv_move {w : Web} {s : Sv} (okw : WebOk w) (ok : SvOk w s) (h : Nat) (hh : h < w.length) (send : Bool) (c : can w s h send = true) : SvOk w (doMove w s h send) := by
  have hd : h < s.done.length := by rw [ok.ld]; exact hh
  have hl : h < s.lines.length := by rw [ok.ll]; exact hh
  have hg : h < s.got.length := by rw [ok.lg]; exact hh
  have dl := ok.d h _ _ (getN s.done h 0 hd) (getN w h [] hh)
  have ll := ok.l h _ _ (getN s.done h 0 hd) (getN s.lines h [] hl)
  have gl := ok.g h _ _ (getN s.done h 0 hd) (getN s.got h [] hg)
  have e1 := set_nth s.done h 0 hd
  have e2 := set_nth s.lines h [] hl
  have e3 := set_nth s.got h [] hg
  cases send with
  | true =>
    obtain ⟨⟨b, n⟩, r, e⟩ : ∃ p r, nth s.lines h [] = p :: r := by
      have c' : (!(nth s.lines h []).isEmpty) = true := c
      cases q : nth s.lines h [] with
      | nil => rw [q] at c'; cases c'
      | cons p r => exact ⟨p, r, rfl⟩
    have dm : doMove w s h true = ⟨s.done.set h (nth s.done h 0), s.lines.set h r, s.boxes.set b n, s.got.set h (nth s.got h [])⟩ := by
      show doSend s h = _
      unfold doSend
      rw [e, e1, e3]
    rw [dm]
    rw [e] at ll
    have l1 : (r.length + 1) ≤ nth s.done h 0 := ll.1
    exact sv_upd ok h hh _ _ _ _ dl ⟨by omega, fun p hp => ll.2 p (List.mem_cons_of_mem _ hp)⟩ gl (by rw [List.length_set]; exact ok.lb)
  | false =>
    have c' : canStep (nth w h []) (nth s.done h 0) (nth s.lines h []) = true := c
    obtain ⟨t, ht⟩ : ∃ t, (nth w h [])[nth s.done h 0]? = some t := by
      unfold canStep at c'
      cases q : (nth w h [])[nth s.done h 0]? with
      | none => rw [q] at c'; cases c'
      | some t => exact ⟨t, rfl⟩
    have n1 : nth s.done h 0 + 1 ≤ (nth w h []).length := (List.getElem?_eq_some_iff.mp ht).1
    have st := okw.steps _ (List.mem_of_getElem? (getN w h [] hh)) t (List.mem_of_getElem? ht)
    have dm : doMove w s h false = doStep s h t := by
      have dd : (nth w h [])[nth s.done h 0]?.getD .fence = t := by rw [ht]; rfl
      simp [doMove, dd]
    rw [dm]
    cases t with
    | put b n =>
      have z : doStep s h (.put b n) = ⟨s.done.set h (nth s.done h 0 + 1), s.lines.set h (nth s.lines h [] ++ [(b, n)]), s.boxes, s.got.set h (nth s.got h [])⟩ := by
        rw [e3]
        rfl
      rw [z]
      have b4 : b < 4 := st.1
      refine sv_upd ok h hh _ _ _ _ n1 ⟨?_, fun p hp => ?_⟩ (by omega) ok.lb
      · rw [List.length_append, List.length_singleton]
        omega
      · rcases List.mem_append.mp hp with y | y
        · exact ll.2 p y
        · rw [List.mem_singleton.mp y]
          exact b4
    | get b =>
      have z : doStep s h (.get b) = ⟨s.done.set h (nth s.done h 0 + 1), s.lines.set h (nth s.lines h []), s.boxes, s.got.set h (nth s.got h [] ++ [seen (nth s.lines h []) s.boxes b])⟩ := by
        rw [e2]
        rfl
      rw [z]
      exact sv_upd ok h hh _ _ _ _ n1 ⟨by omega, ll.2⟩ (by rw [List.length_append, List.length_singleton]; omega) ok.lb
    | fence =>
      have z : doStep s h .fence = ⟨s.done.set h (nth s.done h 0 + 1), s.lines.set h (nth s.lines h []), s.boxes, s.got.set h (nth s.got h [])⟩ := by
        rw [e2, e3]
        rfl
      rw [z]
      exact sv_upd ok h hh _ _ _ _ n1 ⟨by omega, ll.2⟩ (by omega) ok.lb
theorem get_const {α β : Type} {l : List α} {b y : β} {k : Nat} (e : (l.map fun _ => b)[k]? = some y) : y = b := by
  rw [List.getElem?_map] at e
  cases q : l[k]? with
  | none => rw [q] at e; cases e
  | some a => rw [q] at e; exact (Option.some.inj e).symm
theorem begun_sv (w : Web) : SvOk w (begun w) where
  ld := List.length_map _
  ll := List.length_map _
  lb := rfl
  lg := List.length_map _
  d := fun h n r e _ => by rw [get_const e]; exact Nat.zero_le _
  l := fun h n l e e2 => by
    rw [get_const e2]
    exact ⟨Nat.zero_le _, fun p hp => absurd hp List.not_mem_nil⟩
  g := fun h n l e e2 => by rw [get_const e2]; exact Nat.zero_le _
theorem dNe_bool (a b : Bool) : dNe (.bool a) (.bool b) = .ok (.bool (!(a == b))) := by
  rw [dNe_sh (n := 0) (.bool _) (.bool _) (by decide)]
  simp [PyData.eqv]
end Pg

set_option Elab.async false
set_option linter.all false
set_option maxRecDepth 100000
set_option maxHeartbeats 4000000
namespace Pg
open PySem PySem.Spec PyProof.Rows L2 Fw
theorem cell_at_ok (ns : List Int) (k : Nat) : F__law_cell_at [scr ns, .int (k : Nat)] = .ok (.int (cell ns k)) := by
  unfold cell nth
  by_cases h : k < ns.length
  · have at_ : atI (ns.map PyData.int) (k : Int) = some (.int (ns.getD k 0)) := by
      refine atN ?_
      rw [List.getElem?_map, List.getElem?_eq_getElem h]
      simp [List.getD, List.getElem?_eq_getElem h]
    have h1 : (k : Int) < (ns.length : Nat) := by omega
    generalize ns.getD k 0 = x at at_ ⊢
    simp [F__law_cell_at, b__law_cell_at, scr, fnP, fnO, ins, retP, retO, sSeq, sIf, sAsg, sRet, sRetO, sSkip, sRetN, sRaise, sDrop, rOut, eOp, eUn, eVar, eC, rget, eArgs, aNil, aCons, eAnd, eOr, eNot, bOf, bNot, bAnd, bOr, bTru, dTru, bYes, eIf, eCall0, eCall, eChain, eSl, oNone, oSome, dSl, dAdd, dSub, dMod, dDiv, dNeg, dLt, dLtU, dLe, dGt, dGe, dIs, dIx, dIxI, d1, dLen1, dTup, dLst, dListOf, dListW, dTupOf, dIntOf, dIsi, isScr, tyName, scrOf, pName, pTup, psCons, psNil, Res.bind, noExc, ofOpt, patOut, loopOut, wipeR, lcTurn, eNL, noList, noListAll, eFlat, flatL, wSeq, wRange1, wRange2, wEnum, wRev, scrOf, h, at_]
  · have h2 : ns.getD k 0 = 0 := by simp [List.getD, List.getElem?_eq_none (Nat.le_of_not_lt h)]
    rw [h2]
    simp [F__law_cell_at, b__law_cell_at, scr, fnP, fnO, ins, retP, retO, sSeq, sIf, sAsg, sRet, sRetO, sSkip, sRetN, sRaise, sDrop, rOut, eOp, eUn, eVar, eC, rget, eArgs, aNil, aCons, eAnd, eOr, eNot, bOf, bNot, bAnd, bOr, bTru, dTru, bYes, eIf, eCall0, eCall, eChain, eSl, oNone, oSome, dSl, dAdd, dSub, dMod, dDiv, dNeg, dLt, dLtU, dLe, dGt, dGe, dIs, dIx, dIxI, d1, dLen1, dTup, dLst, dListOf, dListW, dTupOf, dIntOf, dIsi, isScr, tyName, scrOf, pName, pTup, psCons, psNil, Res.bind, noExc, ofOpt, patOut, loopOut, wipeR, lcTurn, eNL, noList, noListAll, eFlat, flatL, wSeq, wRange1, wRange2, wEnum, wRev, scrOf, h]
/-! ### a web of the script's cells: up to eight steps, each put behind one of the rows -/
def webBody (sf : List D → Res D) (dv : Int) : SF := (sSeq (sAsg (pName 4) (eCall0 F__law_cell_at (aCons (eVar 0) (aCons (eOp dAdd (eC (.int 2)) (eVar 3)) aNil)))) (sApp true (plIx (plVar 2) (eOp dMod (eOp dDiv (eVar 4) (eC (.int dv))) (eBor 2 (eArgs (d1 dLen1) (aCons (eVar 2) aNil))))) (eNL (eCall0 sf (aCons (eOp dAdd (eVar 4) (eOp dMul (eC (.int 3)) (eVar 3))) aNil)))))
def newRows : EF := (eLc (wRange1 (aCons (eOp dAdd (eC (.int 1)) (eOp dMod (eVar 1) (eC (.int 3)))) aNil)) (pName 3) bYes (eArgs dLst aNil) [3])
def webBy (sf : List D → Res D) (dv : Int) : SF := (sSeq (sAsg (pName 1) (eCall0 F__law_cell_at (aCons (eVar 0) (aCons (eC (.int 0)) aNil)))) (sSeq (sAsgO true 2 newRows) (sSeq (sFor (wRange1 (aCons (eOp dMod (eOp dDiv (eVar 1) (eC (.int 3))) (eC (.int 9))) aNil)) (pName 3) (webBody sf dv)) (sFrz 2 (sRet (eVar 2))))))
def StepBy (sf : List D → Res D) : Prop := ∀ (c : Int) (B : Nat), Bd B c → 0 < B ∧ B ≤ 2000000 → ∃ s, StpOk s ∧ sf [.int c] = .ok (eStp s)
theorem web_turn {sf : List D → Res D} (hs : StepBy sf) {dv : Nat} (hv : 0 < dv ∧ dv < 1000000) {ns : List Int} {B m n : Nat} (hb : ∀ z ∈ ns, Builtin.Int.intBits z ≤ B) (hB : B ≤ 1048576) {w : Web} (hm : 1 ≤ m ∧ m ≤ 3) (hn : n < 8) (I : WInv m n w) (i : Nat) (hi : i ≤ 8) (f y : Sl) :
    ∃ w', WInv m (n + 1) w' ∧ (webBody sf (dv : Nat)) [.p (scr ns), f, .o none true (eWeb w), .p (.int (i : Nat)), y] = .nx [.p (scr ns), f, .o none true (eWeb w'), .p (.int (i : Nat)), .p (.int (cell ns (2 + i)))] := by
  have c1 := cell_at_ok ns (2 + i)
  have b1 := cell_bd hb (2 + i)
  generalize cell ns (2 + i) = c at c1 b1 ⊢
  have c2 : F__law_cell_at [scr ns, .int (2 + (i : Int))] = .ok (.int c) := by
    rw [← c1]
    congr 1
  have b2 : Bd (B + 5) (c + 3 * (i : Int)) := b1.add (by omega)
  obtain ⟨s, hs, es⟩ := hs _ _ b2 (by omega)
  have f1 := fmod_lt (c.fdiv (dv : Nat)) m (by omega)
  obtain ⟨j, hj⟩ : ∃ j : Nat, (c.fdiv (dv : Nat)).fmod (w.length : Nat) = (j : Int) := ⟨((c.fdiv (dv : Nat)).fmod (m : Nat)).toNat, by rw [I.len]; omega⟩
  have jl : j < w.length := by
    rw [I.len] at hj ⊢
    omega
  have gj : w[j]? = some w[j] := List.getElem?_eq_getElem jl
  have hr := Nat.le_trans (mem_sum (List.mem_of_getElem? gj)) I.few
  have nz : ¬ (w.length = 0) := by have := I.len; omega
  have nz' : ¬ (w = []) := fun z => nz (by rw [z]; rfl)
  refine ⟨_, I.add gj hs, ?_⟩
  have ix : ixN w.length (j : Int) = some j := ixN_nat jl
  have ge : (w.map eRow)[j]? = some (eRow w[j]) := by rw [List.getElem?_map, gj]; rfl
  have mu : Fw.CMulX 3 (i : Int) := by
    have : i = 0 ∨ i = 1 ∨ i = 2 ∨ i = 3 ∨ i = 4 ∨ i = 5 ∨ i = 6 ∨ i = 7 ∨ i = 8 := by omega
    unfold Fw.CMulX
    rcases this with z | z | z | z | z | z | z | z | z <;> subst z <;> decide +kernel
  have dv0 : ¬ (dv = 0) := by omega
  have dv1 : dv < 1073741824 := by omega
  have pl : plIx (plVar 2) (eOp dMod (eOp dDiv (eVar 4) (eC (.int (dv : Nat)))) (eBor 2 (eArgs (d1 dLen1) (aCons (eVar 2) aNil)))) [.p (scr ns), f, .o none true (eWeb w), .p (.int (i : Nat)), .p (.int c)] = .ok ⟨true, eRow w[j], fun d' => [.p (scr ns), f, .o none true (.list ((w.map eRow).set j d')), .p (.int (i : Nat)), .p (.int c)]⟩ := by
    simp [plIx, plVar, eBor, Fw.frz, eWeb, fnP, fnO, ins, retP, retO, sSeq, sIf, sAsg, sRet, sRetO, sSkip, sRetN, sRaise, sDrop, rOut, eOp, eUn, eVar, eC, rget, eArgs, aNil, aCons, eAnd, eOr, eNot, bOf, bNot, bAnd, bOr, bTru, dTru, bYes, eIf, eCall0, eCall, eChain, eSl, oNone, oSome, dSl, dAdd, dSub, dMod, dDiv, dNeg, dLt, dLtU, dLe, dGt, dGe, dIs, dIx, dIxI, d1, dLen1, dTup, dLst, dListOf, dListW, dTupOf, dIntOf, dIsi, isScr, tyName, scrOf, pName, pTup, psCons, psNil, Res.bind, noExc, ofOpt, patOut, loopOut, wipeR, lcTurn, eNL, noList, noListAll, eFlat, flatL, wSeq, wRange1, wRange2, wEnum, wRev, nz', hj, plStep, plAt, ix, gj, dv0, dv1]
  have nl : noList (eStp s) = true := by cases s <;> rfl
  have hr2 : w[j].length < 16000000 := by omega
  have st : (w.map eRow).set j (.list (w[j].map eStp ++ [eStp s])) = (w.set j (w[j] ++ [s])).map eRow := by
    have e := set_enc eRow w j (w[j] ++ [s])
    rw [← e]
    simp [eRow]
  have es' : sf [PyData.int (c + 3 * (i : Int))] = .ok (eStp s) := es
  have a1 : sAsg (pName 4) (eCall0 F__law_cell_at (aCons (eVar 0) (aCons (eOp dAdd (eC (.int 2)) (eVar 3)) aNil))) [.p (scr ns), f, .o none true (eWeb w), .p (.int (i : Nat)), y] = .nx [.p (scr ns), f, .o none true (eWeb w), .p (.int (i : Nat)), .p (.int c)] := by
    simp [fnP, fnO, ins, retP, retO, sSeq, sIf, sAsg, sRet, sRetO, sSkip, sRetN, sRaise, sDrop, rOut, eOp, eUn, eVar, eC, rget, eArgs, aNil, aCons, eAnd, eOr, eNot, bOf, bNot, bAnd, bOr, bTru, dTru, bYes, eIf, eCall0, eCall, eChain, eSl, oNone, oSome, dSl, dAdd, dSub, dMod, dDiv, dNeg, dLt, dLtU, dLe, dGt, dGe, dIs, dIx, dIxI, d1, dLen1, dTup, dLst, dListOf, dListW, dTupOf, dIntOf, dIsi, isScr, tyName, scrOf, pName, pTup, psCons, psNil, Res.bind, noExc, ofOpt, patOut, loopOut, wipeR, lcTurn, eNL, noList, noListAll, eFlat, flatL, wSeq, wRange1, wRange2, wEnum, wRev, c2]
  unfold webBody
  show (match sAsg _ _ _ with | .nx ρ' => sApp _ _ _ ρ' | o => o) = _
  rw [a1]
  show sApp true _ _ _ = _
  unfold sApp
  rw [pl]
  simp only [rOut]
  have e3 : eNL (eCall0 sf (aCons (eOp dAdd (eVar 4) (eOp dMul (eC (.int 3)) (eVar 3))) aNil)) [.p (scr ns), f, .o none true (eWeb w), .p (.int (i : Nat)), .p (.int c)] = .ok (eStp s) := by
    simp [fnP, fnO, ins, retP, retO, sSeq, sIf, sAsg, sRet, sRetO, sSkip, sRetN, sRaise, sDrop, rOut, eOp, eUn, eVar, eC, rget, eArgs, aNil, aCons, eAnd, eOr, eNot, bOf, bNot, bAnd, bOr, bTru, dTru, bYes, eIf, eCall0, eCall, eChain, eSl, oNone, oSome, dSl, dAdd, dSub, dMod, dDiv, dNeg, dLt, dLtU, dLe, dGt, dGe, dIs, dIx, dIxI, d1, dLen1, dTup, dLst, dListOf, dListW, dTupOf, dIntOf, dIsi, isScr, tyName, scrOf, pName, pTup, psCons, psNil, Res.bind, noExc, ofOpt, patOut, loopOut, wipeR, lcTurn, eNL, noList, noListAll, eFlat, flatL, wSeq, wRange1, wRange2, wEnum, wRev, dMul, mu, es', nl]
  rw [e3]
  simp [sAppK, eRow, rOut, bigv, hr2]
  have z : PyData.list ((w.map eRow).set j (.list (w[j].map eStp ++ [eStp s]))) = eWeb (w.set j (w[j] ++ [s])) := by rw [st]; rfl
  exact z
theorem web_loop {sf : List D → Res D} (hs : StepBy sf) {dv : Nat} (hv : 0 < dv ∧ dv < 1000000) {ns : List Int} {B m : Nat} (hb : ∀ z ∈ ns, Builtin.Int.intBits z ≤ B) (hB : B ≤ 1048576) (hm : 1 ≤ m ∧ m ≤ 3) (f : Sl) : ∀ (l : List Nat) (n : Nat) (w : Web) (x y : Sl), n + l.length ≤ 8 → (∀ i ∈ l, i ≤ 8) → WInv m n w →
    ∃ w' x' y', WInv m 8 w' ∧ forGo (pName 3) (webBody sf (dv : Nat)) (l.map fun (i : Nat) => PyData.int (i : Int)) [.p (scr ns), f, .o none true (eWeb w), x, y] = .nx [.p (scr ns), f, .o none true (eWeb w'), x', y']
  | [], n, w, x, y, hn, _, I => ⟨w, x, y, ⟨I.len, I.ok, Nat.le_trans I.few (by simpa using hn)⟩, rfl⟩
  | i :: l, n, w, x, y, hn, hi, I => by
    have hn' : n + (l.length + 1) ≤ 8 := hn
    obtain ⟨w1, I1, e1⟩ := web_turn hs hv hb hB hm (by omega) I i (hi i List.mem_cons_self) f y
    obtain ⟨w2, x2, y2, I2, e2⟩ := web_loop hs hv hb hB hm f l (n + 1) w1 _ _ (by omega) (fun k hk => hi k (List.mem_cons_of_mem _ hk)) I1
    refine ⟨w2, x2, y2, I2, ?_⟩
    show loopOut ((webBody sf (dv : Nat)) _) (forGo (pName 3) (webBody sf (dv : Nat)) (l.map _)) = _
    refine Eq.trans (congrArg (fun o => loopOut o _) e1) ?_
    exact e2
theorem web_run {sf : List D → Res D} (hs : StepBy sf) {dv : Nat} (hv : 0 < dv ∧ dv < 1000000) {ns : List Int} {B : Nat} (hb : ∀ z ∈ ns, Builtin.Int.intBits z ≤ B) (hB : B ≤ 1048576) : ∃ (w : Web) (m : Nat) (x y : Sl), (1 ≤ m ∧ m ≤ 3) ∧ WInv m 8 w ∧ ∀ f : SF, (sSeq (sAsg (pName 1) (eCall0 F__law_cell_at (aCons (eVar 0) (aCons (eC (.int 0)) aNil)))) (sSeq (sAsgO true 2 newRows) (sSeq (sFor (wRange1 (aCons (eOp dMod (eOp dDiv (eVar 1) (eC (.int 3))) (eC (.int 9))) aNil)) (pName 3) (webBody sf (dv : Nat))) f))) [.p (scr ns), .no, .no, .no, .no] = f [.p (scr ns), .p (.int (cell ns 0)), .o none true (eWeb w), x, y] := by
  have c0 := cell_at_ok ns 0
  have c0' : F__law_cell_at [scr ns, .int 0] = .ok (.int (cell ns 0)) := c0
  generalize cell ns 0 = c at c0 c0'
  have f3 := fmod_lt c 3 (by decide)
  have f9 := fmod_lt (c.fdiv 3) 9 (by decide)
  obtain ⟨m, hm⟩ : ∃ m : Nat, c.fmod 3 = (m : Int) := ⟨(c.fmod 3).toNat, by
    have : 0 ≤ c.fmod 3 := f3.1
    omega⟩
  have m3 : m < 3 := by
    have : c.fmod 3 < 3 := f3.2
    omega
  obtain ⟨k, hk⟩ : ∃ k : Nat, (c.fdiv 3).fmod 9 = (k : Int) := ⟨((c.fdiv 3).fmod 9).toNat, by
    have : 0 ≤ (c.fdiv 3).fmod 9 := f9.1
    omega⟩
  have k9 : k < 9 := by
    have : (c.fdiv 3).fmod 9 < 9 := f9.2
    omega
  have o1 : okI (1 + (m : Int)) = true := decide_eq_true (by omega)
  have o2 : okI (k : Int) = true := decide_eq_true (by omega)
  have t1 : (1 + (m : Int)).toNat = m + 1 := by omega
  have I0 : WInv (m + 1) 0 (List.replicate (m + 1) []) := ⟨List.length_replicate, fun r hr s hs => by
    rw [List.eq_of_mem_replicate hr] at hs
    exact absurd hs (List.not_mem_nil), by simp⟩
  have e0 : eLc (wRange1 (aCons (eOp dAdd (eC (.int 1)) (eOp dMod (eVar 1) (eC (.int 3)))) aNil)) (pName 3) bYes (eArgs dLst aNil) [3] [.p (scr ns), .p (.int c), .no, .no, .no] = .ok (eWeb (List.replicate (m + 1) [])) := by
    have e := eLc_enc (α := Nat) (it := wRange1 (aCons (eOp dAdd (eC (.int 1)) (eOp dMod (eVar 1) (eC (.int 3)))) aNil)) (pat := pName 3) (tt := bYes) (elt := eArgs dLst aNil) (vs := [3]) (ρ := [.p (scr ns), .p (.int c), .no, .no, .no]) (f := fun (i : Nat) => PyData.int (i : Int)) (h := fun _ => PyData.list []) (l := List.range (m + 1)) (by simp [fnP, fnO, ins, retP, retO, sSeq, sIf, sAsg, sRet, sRetO, sSkip, sRetN, sRaise, sDrop, rOut, eOp, eUn, eVar, eC, rget, eArgs, aNil, aCons, eAnd, eOr, eNot, bOf, bNot, bAnd, bOr, bTru, dTru, bYes, eIf, eCall0, eCall, eChain, eSl, oNone, oSome, dSl, dAdd, dSub, dMod, dDiv, dNeg, dLt, dLtU, dLe, dGt, dGe, dIs, dIx, dIxI, d1, dLen1, dTup, dLst, dListOf, dListW, dTupOf, dIntOf, dIsi, isScr, tyName, scrOf, pName, pTup, psCons, psNil, Res.bind, noExc, ofOpt, patOut, loopOut, wipeR, lcTurn, eNL, noList, noListAll, eFlat, flatL, wSeq, wRange1, wRange2, wEnum, wRev, hm, o1, t1, range0]) (fun a _ => by simp [fnP, fnO, ins, retP, retO, sSeq, sIf, sAsg, sRet, sRetO, sSkip, sRetN, sRaise, sDrop, rOut, eOp, eUn, eVar, eC, rget, eArgs, aNil, aCons, eAnd, eOr, eNot, bOf, bNot, bAnd, bOr, bTru, dTru, bYes, eIf, eCall0, eCall, eChain, eSl, oNone, oSome, dSl, dAdd, dSub, dMod, dDiv, dNeg, dLt, dLtU, dLe, dGt, dGe, dIs, dIx, dIxI, d1, dLen1, dTup, dLst, dListOf, dListW, dTupOf, dIntOf, dIsi, isScr, tyName, scrOf, pName, pTup, psCons, psNil, Res.bind, noExc, ofOpt, patOut, loopOut, wipeR, lcTurn, eNL, noList, noListAll, eFlat, flatL, wSeq, wRange1, wRange2, wEnum, wRev, bigv]) (by rw [List.length_range, bigv]; omega)
    rw [e, map_rep, List.length_range]
    simp [eWeb, eRow, List.map_replicate]
  obtain ⟨w, x, y, I, el⟩ := web_loop hs hv hb hB (m := m + 1) (by omega) (.p (.int c)) (List.range k) 0 _ .no .no (by rw [List.length_range]; omega) (fun i hi => by have := List.mem_range.mp hi; omega) I0
  refine ⟨w, m + 1, x, y, by omega, I, fun f => ?_⟩
  have a1 : sAsgO true 2 newRows [.p (scr ns), .p (.int c), .no, .no, .no] = .nx [.p (scr ns), .p (.int c), .o none true (eWeb (List.replicate (m + 1) [])), .no, .no] := by
    unfold sAsgO
    rw [show newRows _ = _ from e0]
    rfl
  have a2 : sFor (wRange1 (aCons (eOp dMod (eOp dDiv (eVar 1) (eC (.int 3))) (eC (.int 9))) aNil)) (pName 3) (webBody sf (dv : Nat)) [.p (scr ns), .p (.int c), .o none true (eWeb (List.replicate (m + 1) [])), .no, .no] = .nx [.p (scr ns), .p (.int c), .o none true (eWeb w), x, y] := by
    have r : wRange1 (aCons (eOp dMod (eOp dDiv (eVar 1) (eC (.int 3))) (eC (.int 9))) aNil) [.p (scr ns), .p (.int c), .o none true (eWeb (List.replicate (m + 1) [])), .no, .no] = .ok ((List.range k).map fun (i : Nat) => PyData.int (i : Int)) := by
      simp [fnP, fnO, ins, retP, retO, sSeq, sIf, sAsg, sRet, sRetO, sSkip, sRetN, sRaise, sDrop, rOut, eOp, eUn, eVar, eC, rget, eArgs, aNil, aCons, eAnd, eOr, eNot, bOf, bNot, bAnd, bOr, bTru, dTru, bYes, eIf, eCall0, eCall, eChain, eSl, oNone, oSome, dSl, dAdd, dSub, dMod, dDiv, dNeg, dLt, dLtU, dLe, dGt, dGe, dIs, dIx, dIxI, d1, dLen1, dTup, dLst, dListOf, dListW, dTupOf, dIntOf, dIsi, isScr, tyName, scrOf, pName, pTup, psCons, psNil, Res.bind, noExc, ofOpt, patOut, loopOut, wipeR, lcTurn, eNL, noList, noListAll, eFlat, flatL, wSeq, wRange1, wRange2, wEnum, wRev, hk, o2, range0]
    unfold sFor
    rw [r]
    exact el
  have n1 : sAsg (pName 1) (eCall0 F__law_cell_at (aCons (eVar 0) (aCons (eC (.int 0)) aNil))) [.p (scr ns), .no, .no, .no, .no] = .nx [.p (scr ns), .p (.int c), .no, .no, .no] := by
    simp [fnP, fnO, ins, retP, retO, sSeq, sIf, sAsg, sRet, sRetO, sSkip, sRetN, sRaise, sDrop, rOut, eOp, eUn, eVar, eC, rget, eArgs, aNil, aCons, eAnd, eOr, eNot, bOf, bNot, bAnd, bOr, bTru, dTru, bYes, eIf, eCall0, eCall, eChain, eSl, oNone, oSome, dSl, dAdd, dSub, dMod, dDiv, dNeg, dLt, dLtU, dLe, dGt, dGe, dIs, dIx, dIxI, d1, dLen1, dTup, dLst, dListOf, dListW, dTupOf, dIntOf, dIsi, isScr, tyName, scrOf, pName, pTup, psCons, psNil, Res.bind, noExc, ofOpt, patOut, loopOut, wipeR, lcTurn, eNL, noList, noListAll, eFlat, flatL, wSeq, wRange1, wRange2, wEnum, wRev, c0']
  rw [sSeq_nx n1, sSeq_nx a1, sSeq_nx a2]
theorem web_by_gen {sf : List D → Res D} (hs : StepBy sf) {dv : Nat} (hv : 0 < dv ∧ dv < 1000000) {ns : List Int} {B : Nat} (hb : ∀ z ∈ ns, Builtin.Int.intBits z ≤ B) (hB : B ≤ 1048576) : ∃ w, WebOk w ∧ noExc (fnP (webBy sf (dv : Nat)) 5 1 [scr ns]) = .ok (eWeb w) := by
  obtain ⟨w, m, x, y, hm, I, e⟩ := web_run hs hv hb hB
  refine ⟨w, I.web hm (by decide), ?_⟩
  show noExc (retP (webBy sf (dv : Nat) [.p (scr ns), .no, .no, .no, .no])) = _
  unfold webBy
  rw [e]
  rfl
end Pg

set_option Elab.async false
set_option linter.all false
set_option maxRecDepth 100000
set_option maxHeartbeats 4000000
namespace Pg
open PySem PySem.Spec PyProof.Rows L2 Fw
/-! ### places -/
abbrev Plc := Nat × Nat
def ePl (p : Plc) : D := .tuple [.int (p.1 : Nat), .int (p.2 : Nat)]
def ats (n : Nat) : List Nat := (List.range (n - 1)).map (· + 1)
def placesW (w : Web) : List Plc := (List.range w.length).flatMap fun h => (ats (nth w h []).length).map fun a => (h, a)
def ePls (l : List Plc) : D := .list (l.map ePl)
def PlOk (w : Web) (p : Plc) : Prop := p.1 < w.length ∧ 1 ≤ p.2 ∧ p.2 < (nth w p.1 []).length
theorem mem_ats {n a : Nat} : a ∈ ats n ↔ 1 ≤ a ∧ a < n := by
  unfold ats
  rw [List.mem_map]
  constructor
  · rintro ⟨b, hb, rfl⟩
    have := List.mem_range.mp hb
    omega
  · rintro ⟨h1, h2⟩
    exact ⟨a - 1, List.mem_range.mpr (by omega), by omega⟩
theorem mem_places {w : Web} {p : Plc} : p ∈ placesW w ↔ PlOk w p := by
  unfold placesW
  rw [List.mem_flatMap]
  constructor
  · rintro ⟨h, hh, hp⟩
    obtain ⟨a, ha, rfl⟩ := List.mem_map.mp hp
    exact ⟨List.mem_range.mp hh, mem_ats.mp ha⟩
  · rintro ⟨h1, h2⟩
    exact ⟨p.1, List.mem_range.mpr h1, List.mem_map.mpr ⟨p.2, mem_ats.mpr h2, rfl⟩⟩
theorem ats_len (n : Nat) : (ats n).length = n - 1 := by simp [ats]
theorem range1_ats (n : Nat) : rangeD 1 (n - 1) = (ats n).map fun (a : Nat) => PyData.int (a : Int) := by
  unfold rangeD ats
  rw [List.map_map]
  refine List.map_congr_left fun a _ => ?_
  show PyData.int (1 + (a : Int)) = PyData.int ((a + 1 : Nat) : Int)
  congr 1
  omega
theorem enum_nth : ∀ (w : Web), enumD (w.map eRow) = (List.range w.length).map fun (h : Nat) => PyData.tuple [.int (h : Int), eRow (nth w h [])] := fun w => by
  refine List.ext_getElem? fun i => ?_
  by_cases h : i < w.length
  · simp [enumD, List.getElem?_map, List.getElem?_range h, List.getElem?_eq_getElem h, nth, List.getD]
  · simp [enumD, List.getElem?_eq_none (Nat.le_of_not_lt h), List.getElem?_map, List.getElem?_eq_none (show (List.range w.length).length ≤ i by simp; omega), h]
theorem lcGo_enc {α : Type} {body : D → Res (List D)} {f : α → D} {g : α → List D} : ∀ {l : List α}, (∀ a ∈ l, body (f a) = .ok (g a)) → lcGo body (l.map f) = .ok (l.flatMap g)
  | [], _ => rfl
  | a :: l, h => by
    show ((body (f a)).bind fun r => (lcGo body (l.map f)).bind fun rs => Res.ok (r ++ rs)) = _
    rw [h a List.mem_cons_self, lcGo_enc fun x hx => h x (List.mem_cons_of_mem _ hx), List.flatMap_cons]
    rfl
theorem eLcF_enc {α : Type} {it : AF} {pat : PF} {tt : BF} {elt : EF} {vs : List Nat} {ρ : Rho} {f : α → D} {g : α → List D} {l : List α} (hi : it ρ = .ok (l.map f)) (ht : ∀ a ∈ l, lcTurn pat tt elt (wipeR ρ vs) (f a) = .ok (g a)) (hl : (l.flatMap g).length ≤ big) :
    eLc it pat tt elt vs ρ = .ok (.list (l.flatMap g)) := by
  unfold eLc
  rw [hi]
  show (noExc (lcGo _ (l.map f))).bind dLst = _
  rw [lcGo_enc ht]
  show dLst _ = _
  unfold dLst
  rw [if_pos hl]
theorem eLc2_enc {α : Type} {it : AF} {pat : PF} {tt : BF} {it1 : AF} {pat1 : PF} {tt1 : BF} {elt : EF} {vs vs1 : List Nat} {ρ : Rho} {f : α → D} {g : α → List D} {l : List α} (hi : it ρ = .ok (l.map f)) (ht : ∀ a ∈ l, lcTurn2 pat tt it1 pat1 tt1 elt vs1 (wipeR ρ vs) (f a) = .ok (g a)) (hl : (l.flatMap g).length ≤ big) :
    eLc2 it pat tt it1 pat1 tt1 elt vs vs1 ρ = .ok (.list (l.flatMap g)) := by
  unfold eLc2
  rw [hi]
  show (noExc (lcGo _ (l.map f))).bind dLst = _
  rw [lcGo_enc ht]
  show dLst _ = _
  unfold dLst
  rw [if_pos hl]
theorem flat_len {α β : Type} (g : α → List β) (n : Nat) : ∀ l : List α, (∀ a ∈ l, (g a).length ≤ n) → (l.flatMap g).length ≤ l.length * n
  | [], _ => by simp
  | a :: l, h => by
    have h1 := h a List.mem_cons_self
    have h2 := flat_len g n l fun x hx => h x (List.mem_cons_of_mem _ hx)
    rw [List.flatMap_cons, List.length_append, List.length_cons, Nat.succ_mul]
    omega
theorem row_short {w : Web} (h : WebOk w) {k : Nat} (hk : k < w.length) : (nth w k []).length ≤ 1000 := h.short _ (List.mem_of_getElem? (getN w k [] hk))
theorem places_len {w : Web} (h : WebOk w) : (placesW w).length ≤ 3000 := by
  have m := h.most
  have := flat_len (fun h => (ats (nth w h []).length).map fun a => (h, a)) 1000 (List.range w.length) fun k hk => by
    have := row_short h (List.mem_range.mp hk)
    rw [List.length_map, ats_len]
    omega
  rw [List.length_range] at this
  unfold placesW
  have : w.length * 1000 ≤ 3 * 1000 := Nat.mul_le_mul_right _ m.2
  omega
theorem places_ok {w : Web} (h : WebOk w) : F_places [eWeb w] = .ok (ePls (placesW w)) := by
  have m := h.most
  have i : wEnum (aCons (eVar 1) aNil) [.p (eWeb w), .p (eWeb w), .no, .no, .no] = .ok ((List.range w.length).map fun (h : Nat) => PyData.tuple [.int (h : Int), eRow (nth w h [])]) := by
    rw [← enum_nth]
    simp [fnP, fnO, ins, retP, retO, sSeq, sIf, sAsg, sRet, sRetO, sSkip, sRetN, sRaise, sDrop, rOut, eOp, eUn, eVar, eC, rget, eArgs, aNil, aCons, eAnd, eOr, eNot, bOf, bNot, bAnd, bOr, bTru, dTru, bYes, eIf, eCall0, eCall, eChain, eSl, oNone, oSome, dSl, dAdd, dSub, dMod, dDiv, dNeg, dLt, dLtU, dLe, dGt, dGe, dIs, dIx, dIxI, d1, dLen1, dTup, dLst, dListOf, dListW, dTupOf, dIntOf, dIsi, isScr, tyName, scrOf, pName, pTup, psCons, psNil, Res.bind, noExc, ofOpt, patOut, loopOut, wipeR, lcTurn, eNL, noList, noListAll, eFlat, flatL, wSeq, wRange1, wRange2, wEnum, wRev, eWeb]
  have pl := places_len h
  have e0 : ((List.range w.length).flatMap fun h => (ats (nth w h []).length).map fun a => ePl (h, a)) = (placesW w).map ePl := by
    unfold placesW
    rw [List.map_flatMap]
    simp only [List.map_map]
    rfl
  have e : C1_places [.p (eWeb w), .p (eWeb w), .no, .no, .no] = .ok (ePls (placesW w)) := by
    unfold ePls
    rw [← e0]
    refine eLc2_enc i (fun k hk => ?_) (by rw [e0, List.length_map, bigv]; omega)
    have hk' := List.mem_range.mp hk
    have rs := row_short h hk'
    have o1 : okI ((nth w k []).length : Nat) = true := decide_eq_true (by omega)
    have o2 : okI 1 = true := by decide +kernel
    have r := range1_ats (nth w k []).length
    have g := lcGo_enc (body := lcTurn (pName 4) bYes (eArgs dTup (aCons (eVar 2) (aCons (eVar 4) aNil))) [.p (eWeb w), .p (eWeb w), .p (.int (k : Nat)), .p (eRow (nth w k [])), .no]) (f := fun (a : Nat) => PyData.int (a : Int)) (g := fun a => [ePl (k, a)]) (l := ats (nth w k []).length) (fun a _ => by simp [fnP, fnO, ins, retP, retO, sSeq, sIf, sAsg, sRet, sRetO, sSkip, sRetN, sRaise, sDrop, rOut, eOp, eUn, eVar, eC, rget, eArgs, aNil, aCons, eAnd, eOr, eNot, bOf, bNot, bAnd, bOr, bTru, dTru, bYes, eIf, eCall0, eCall, eChain, eSl, oNone, oSome, dSl, dAdd, dSub, dMod, dDiv, dNeg, dLt, dLtU, dLe, dGt, dGe, dIs, dIx, dIxI, d1, dLen1, dTup, dLst, dListOf, dListW, dTupOf, dIntOf, dIsi, isScr, tyName, scrOf, pName, pTup, psCons, psNil, Res.bind, noExc, ofOpt, patOut, loopOut, wipeR, lcTurn, eNL, noList, noListAll, eFlat, flatL, wSeq, wRange1, wRange2, wEnum, wRev, bigv, ePl])
    rw [flat_one] at g
    simp [lcTurn2, fnP, fnO, ins, retP, retO, sSeq, sIf, sAsg, sRet, sRetO, sSkip, sRetN, sRaise, sDrop, rOut, eOp, eUn, eVar, eC, rget, eArgs, aNil, aCons, eAnd, eOr, eNot, bOf, bNot, bAnd, bOr, bTru, dTru, bYes, eIf, eCall0, eCall, eChain, eSl, oNone, oSome, dSl, dAdd, dSub, dMod, dDiv, dNeg, dLt, dLtU, dLe, dGt, dGe, dIs, dIx, dIxI, d1, dLen1, dTup, dLst, dListOf, dListW, dTupOf, dIntOf, dIsi, isScr, tyName, scrOf, pName, pTup, psCons, psNil, Res.bind, noExc, ofOpt, patOut, loopOut, wipeR, lcTurn, eNL, noList, noListAll, eFlat, flatL, wSeq, wRange1, wRange2, wEnum, wRev, eRow, o1, o2] at g ⊢
    rw [r]
    exact g
  simp [F_places, b_places, fnP, fnO, ins, retP, retO, sSeq, sIf, sAsg, sRet, sRetO, sSkip, sRetN, sRaise, sDrop, rOut, eOp, eUn, eVar, eC, rget, eArgs, aNil, aCons, eAnd, eOr, eNot, bOf, bNot, bAnd, bOr, bTru, dTru, bYes, eIf, eCall0, eCall, eChain, eSl, oNone, oSome, dSl, dAdd, dSub, dMod, dDiv, dNeg, dLt, dLtU, dLe, dGt, dGe, dIs, dIx, dIxI, d1, dLen1, dTup, dLst, dListOf, dListW, dTupOf, dIntOf, dIsi, isScr, tyName, scrOf, pName, pTup, psCons, psNil, Res.bind, noExc, ofOpt, patOut, loopOut, wipeR, lcTurn, eNL, noList, noListAll, eFlat, flatL, wSeq, wRange1, wRange2, wEnum, wRev, need_web_ok h, e]
end Pg

set_option Elab.async false
set_option linter.all false
set_option maxRecDepth 100000
set_option maxHeartbeats 4000000
namespace Pg
open PySem PySem.Spec PyProof.Rows L2 Fw
/-! ### dicts by keys that tell them apart -/
structure KeyEnc {α : Type} (f : α → D) : Prop where
  tup : ∀ a, ∃ ds, f a = .tuple ds
  key : ∀ a, ∃ k, nk (f a) = some k ∧ k.depth ≤ 8
  inj : ∀ a b, nk (f a) = nk (f b) → a = b
section
variable {α β : Type} [DecidableEq α] {f : α → D} {g : β → D}
def dOf (f : α → D) (g : β → D) (l : List (α × β)) : List (D × D) := l.map fun p => (f p.1, g p.2)
def aPut (l : List (α × β)) (a : α) (b : β) : List (α × β) := if (l.any fun p => decide (p.1 = a)) = true then l.map (fun p => if p.1 = a then (p.1, b) else p) else l ++ [(a, b)]
theorem KeyEnc.iff (E : KeyEnc f) (a b : α) : nk (f a) = nk (f b) ↔ a = b := ⟨E.inj a b, fun e => by rw [e]⟩
theorem KeyEnc.ok (E : KeyEnc f) (a : α) : keyOk (f a) = true := by
  obtain ⟨ds, e⟩ := E.tup a
  obtain ⟨k, e2, h⟩ := E.key a
  unfold keyOk
  rw [e2, e]
  simp [isTup, h]
theorem any_dOf (E : KeyEnc f) (l : List (α × β)) (a : α) : ((dOf f g l).any fun kv => decide (nk kv.1 = nk (f a))) = l.any fun p => decide (p.1 = a) := by
  unfold dOf
  rw [List.any_map]
  congr 1
  funext p
  show decide (nk (f p.1) = nk (f a)) = decide (p.1 = a)
  by_cases h : p.1 = a
  · rw [h]
    simp
  · have : ¬ (nk (f p.1) = nk (f a)) := fun z => h (E.inj _ _ z)
    simp [h, this]
theorem dPut_dOf (E : KeyEnc f) (l : List (α × β)) (a : α) (b : β) : dPutK (dOf f g l) (f a) (g b) = dOf f g (aPut l a b) := by
  unfold dPutK aPut
  rw [any_dOf E]
  split
  · unfold dOf
    rw [List.map_map, List.map_map]
    refine List.map_congr_left fun p _ => ?_
    show (if nk (f p.1) = nk (f a) then (f p.1, g b) else (f p.1, g p.2)) = (fun p => (f p.1, g p.2)) (if p.1 = a then (p.1, b) else p)
    by_cases h : p.1 = a
    · rw [if_pos (by rw [h]), if_pos h]
    · rw [if_neg (fun z => h (E.inj _ _ z)), if_neg h]
  · unfold dOf
    rw [List.map_append]
    rfl
theorem isDic_dOf (E : KeyEnc f) (l : List (α × β)) : isDic (dOf f g l) = true := by
  cases l with
  | nil => rfl
  | cons p l =>
    obtain ⟨ds, e⟩ := E.tup p.1
    show isDic ((f p.1, g p.2) :: dOf f g l) = true
    rw [e]
    cases dOf f g l <;> rfl
theorem dIn_dOf (E : KeyEnc f) (neg : Bool) (l : List (α × β)) (a : α) : dIn neg (f a) (.dict (dOf f g l)) = .ok (.bool ((l.any fun p => decide (p.1 = a)) != neg)) := by
  obtain ⟨ds, e⟩ := E.tup a
  obtain ⟨k, e2, h⟩ := E.key a
  show dInD neg (f a) (dOf f g l) = _
  unfold dInD
  rw [if_pos ⟨by rw [e]; rfl, isDic_dOf E l⟩, e2]
  show (if k.depth ≤ 8 then _ else _) = _
  rw [if_pos h, ← any_dOf (g := g) E l a, e2]
theorem dGet_dOf (E : KeyEnc f) {l : List (α × β)} {a : α} {b : β} (h : l.find? (fun p => decide (p.1 = a)) = some (a, b)) : dGet (.dict (dOf f g l)) (f a) = .ok (g b) := by
  have e : (dOf f g l).find? (fun kv => decide (nk kv.1 = nk (f a))) = some (f a, g b) := by
    unfold dOf
    rw [List.find?_map]
    have : ((fun kv : D × D => decide (nk kv.1 = nk (f a))) ∘ fun p : α × β => (f p.1, g p.2)) = fun p => decide (p.1 = a) := by
      funext p
      show decide (nk (f p.1) = nk (f a)) = decide (p.1 = a)
      by_cases h : p.1 = a
      · rw [h]
        simp
      · have : ¬ (nk (f p.1) = nk (f a)) := fun z => h (E.inj _ _ z)
        simp [h, this]
    rw [this, h]
    rfl
  show (if isDic (dOf f g l) = true ∧ keyOk (f a) = true then (ofOpt ((dOf f g l).find? fun kv => decide (nk kv.1 = nk (f a)))).bind _ else .bad) = _
  rw [if_pos ⟨isDic_dOf E l, E.ok a⟩, e]
  rfl
theorem aPut_mem (l : List (α × β)) (a : α) (b : β) (x : α) : ((aPut l a b).any fun p => decide (p.1 = x)) = ((l.any fun p => decide (p.1 = x)) || decide (a = x)) := by
  unfold aPut
  split
  · rename_i h
    rw [List.any_map]
    have e : ((fun p : α × β => decide (p.1 = x)) ∘ fun p => if p.1 = a then (p.1, b) else p) = fun p => decide (p.1 = x) := by
      funext p
      show decide ((if p.1 = a then (p.1, b) else p).1 = x) = _
      split <;> rfl
    rw [e]
    by_cases c : a = x
    · subst c
      rw [h]
      rfl
    · simp [c]
  · rw [List.any_append]
    simp
theorem aPut_len (l : List (α × β)) (a : α) (b : β) : (aPut l a b).length ≤ l.length + 1 := by
  unfold aPut
  split
  · rw [List.length_map]
    omega
  · rw [List.length_append]
    exact Nat.le_refl _
end
theorem nk_ePl (p : Plc) : nk (ePl p) = some (.tup [.num p.1, .num p.2]) := by simp [ePl, nk, nks]
theorem enc_pl : KeyEnc ePl where
  tup := fun a => ⟨_, rfl⟩
  key := fun a => ⟨_, nk_ePl a, by simp [NestedKey.depth, NestedKey.depthAll]⟩
  inj := fun a b e => by
    rw [nk_ePl, nk_ePl] at e
    have e1 := Option.some.inj e
    injection e1 with e1
    injection e1 with h1 h2
    injection h2 with h2 _
    injection h1 with h1
    injection h2 with h2
    exact Prod.ext (by omega) (by omega)
/-! ### fenced -/
def fenR (h : Nat) (some : List Plc) : Nat → List Stp → List Stp
  | _, [] => []
  | a, t :: r => (if (h, a) ∈ some then [.fence] else []) ++ t :: fenR h some (a + 1) r
def fenW (some : List Plc) (w : Web) : Web := (List.range w.length).map fun h => fenR h some 0 (nth w h [])
def chosen (some : List Plc) : List (Plc × Bool) := some.foldl (fun l p => aPut l p true) []
theorem chosen_go (some : List Plc) : ∀ (l : List (Plc × Bool)) (x : Plc), ((some.foldl (fun l p => aPut l p true) l).any fun p => decide (p.1 = x)) = ((l.any fun p => decide (p.1 = x)) || decide (x ∈ some)) := by
  induction some with
  | nil => intro l x; simp
  | cons q s ih =>
    intro l x
    rw [List.foldl_cons, ih, aPut_mem]
    by_cases c : q = x
    · subst c
      simp
    · have : ¬ (x = q) := fun z => c z.symm
      simp [c, this]
theorem chosen_mem (some : List Plc) (x : Plc) : ((chosen some).any fun p => decide (p.1 = x)) = decide (x ∈ some) := by
  unfold chosen
  rw [chosen_go]
  rfl
def eDct (some : List Plc) : D := .dict (dOf ePl PyData.bool (chosen some))
theorem dcGo_pl {turn : List (D × D) → D → Res (List (D × D))} : ∀ (some : List Plc) (l : List (Plc × Bool)), l.length + some.length ≤ big → (∀ p ∈ some, ∀ l : List (Plc × Bool), l.length < big → turn (dOf ePl PyData.bool l) (ePl p) = .ok (dPutK (dOf ePl PyData.bool l) (ePl p) (.bool true))) →
    dcGo turn (some.map ePl) (dOf ePl PyData.bool l) = .ok (dOf ePl PyData.bool (some.foldl (fun l p => aPut l p true) l))
  | [], l, _, _ => rfl
  | p :: s, l, hl, h => by
    have hl' : l.length + (s.length + 1) ≤ big := hl
    show ((turn (dOf ePl PyData.bool l) (ePl p)).bind fun kvs' => dcGo turn (s.map ePl) kvs') = _
    rw [h p List.mem_cons_self l (by omega), dPut_dOf enc_pl]
    have := aPut_len l p true
    exact dcGo_pl s (aPut l p true) (by omega) fun q hq => h q (List.mem_cons_of_mem _ hq)
theorem eDc_pl {it : AF} {i : Nat} {ρ : Rho} {some : List Plc} (hi : it ρ = .ok (some.map ePl)) (hr : i < ρ.length) (hl : some.length ≤ big) : eDc it (pName i) bYes (eVar i) (eC (.bool true)) [i] ρ = .ok (eDct some) := by
  unfold eDc
  rw [hi]
  have e := dcGo_pl (turn := dcTurn (pName i) bYes (eVar i) (eC (.bool true)) (wipeR ρ [i])) some [] (by simpa using hl) (fun p _ l hl => by
    have k := enc_pl.ok p
    have hr' : i < (ρ.set i .no).length := by rw [List.length_set]; exact hr
    have g : ((ρ.set i Sl.no).set i (.p (ePl p)))[i]? = Option.some (.p (ePl p)) := List.getElem?_set_self hr'
    have dl : (dOf ePl PyData.bool l).length < big := by unfold dOf; rw [List.length_map]; exact hl
    simp only [dcTurn, pName, wipeR, bYes, eVar, rget, eC, Res.bind, g, k, dl, and_self, if_true])
  show (noExc (dcGo _ (some.map ePl) (dOf ePl PyData.bool []))).bind _ = _
  rw [e]
  rfl
def enumF : Nat → List Stp → List D
  | _, [] => []
  | a, t :: r => .tuple [.int (a : Nat), eStp t] :: enumF (a + 1) r
theorem enumF_zip : ∀ (r : List Stp) (a : Nat), ((r.map eStp).zipIdx a).map (fun p => PyData.tuple [.int (p.2 : Nat), p.1]) = enumF a r
  | [], _ => rfl
  | t :: r, a => by
    rw [List.map_cons, List.zipIdx_cons, List.map_cons, enumF_zip r (a + 1)]
    rfl
theorem enum_enumF (r : List Stp) : enumD (r.map eStp) = enumF 0 r := enumF_zip r 0
theorem fenR_len (h : Nat) (some : List Plc) : ∀ (r : List Stp) (a : Nat), (fenR h some a r).length ≤ 2 * r.length
  | [], _ => Nat.zero_le _
  | t :: r, a => by
    have := fenR_len h some r (a + 1)
    unfold fenR
    split <;> simp <;> omega
theorem ePl_dIn (some : List Plc) (p : Plc) : dIn false (ePl p) (eDct some) = .ok (.bool (decide (p ∈ some))) := by
  unfold eDct
  rw [dIn_dOf enc_pl, chosen_mem]
  cases decide (p ∈ some) <;> rfl
theorem fenced_row_go (h : Nat) (w : D) (some : List Plc) : ∀ (r : List Stp) (a : Nat) (acc : List Stp) (x y : Sl), acc.length + 2 * r.length ≤ 10000 →
    ∃ x' y', forGo (pTup 2 (psCons (pName 4) (psCons (pName 5) psNil))) L1__fenced_row (enumF a r) [.p (.int (h : Nat)), .p w, .p (eDct some), .o none true (eRow acc), x, y] = .nx [.p (.int (h : Nat)), .p w, .p (eDct some), .o none true (eRow (acc ++ fenR h some a r)), x', y']
  | [], a, acc, x, y, _ => ⟨x, y, by simp [fenR, enumF, forGo]⟩
  | t :: r, a, acc, x, y, hl => by
    have hl' : acc.length + 2 * (r.length + 1) ≤ 10000 := hl
    obtain ⟨x', y', e⟩ := fenced_row_go h w some r (a + 1) (acc ++ ((if (h, a) ∈ some then [Stp.fence] else []) ++ [t])) (.p (.int (a : Nat))) (.p (eStp t)) (by
      rw [List.length_append, List.length_append]
      split <;> simp <;> omega)
    refine ⟨x', y', ?_⟩
    have pd := ePl_dIn some (h, a)
    have pd' : dIn false (.tuple [.int (h : Nat), .int (a : Nat)]) (eDct some) = .ok (.bool (decide ((h, a) ∈ some))) := pd
    have nl := nl_stp t
    have b1 : acc.length < 16000000 := by omega
    have b2 : acc.length + 1 < 16000000 := by omega
    have b3 : acc.length < 15999999 := by omega
    have turn : L1__fenced_row [.p (.int (h : Nat)), .p w, .p (eDct some), .o none true (eRow acc), .p (.int (a : Nat)), .p (eStp t)] = .nx [.p (.int (h : Nat)), .p w, .p (eDct some), .o none true (eRow (acc ++ ((if (h, a) ∈ some then [Stp.fence] else []) ++ [t]))), .p (.int (a : Nat)), .p (eStp t)] := by
      by_cases c : (h, a) ∈ some
      · have pd2 : dIn false (.tuple [.int (h : Nat), .int (a : Nat)]) (eDct some) = .ok (.bool true) := by rw [pd', decide_eq_true c]
        simp [L1__fenced_row, fnP, fnO, ins, retP, retO, sSeq, sIf, sAsg, sRet, sRetO, sSkip, sRetN, sRaise, sDrop, rOut, eOp, eUn, eVar, eC, rget, eArgs, aNil, aCons, eAnd, eOr, eNot, bOf, bNot, bAnd, bOr, bTru, dTru, bYes, eIf, eCall0, eCall, eChain, eSl, oNone, oSome, dSl, dAdd, dSub, dMod, dDiv, dNeg, dLt, dLtU, dLe, dGt, dGe, dIs, dIx, dIxI, d1, dLen1, dTup, dLst, dListOf, dListW, dTupOf, dIntOf, dIsi, isScr, tyName, scrOf, pName, pTup, psCons, psNil, Res.bind, noExc, ofOpt, patOut, loopOut, wipeR, lcTurn, eNL, noList, noListAll, eFlat, flatL, wSeq, wRange1, wRange2, wEnum, wRev, pd2, bigv, sApp, sAppK, plVar, eRow, b1, b2, b3, nl, c]
        rfl
      · have pd2 : dIn false (.tuple [.int (h : Nat), .int (a : Nat)]) (eDct some) = .ok (.bool false) := by rw [pd', decide_eq_false c]
        simp [L1__fenced_row, fnP, fnO, ins, retP, retO, sSeq, sIf, sAsg, sRet, sRetO, sSkip, sRetN, sRaise, sDrop, rOut, eOp, eUn, eVar, eC, rget, eArgs, aNil, aCons, eAnd, eOr, eNot, bOf, bNot, bAnd, bOr, bTru, dTru, bYes, eIf, eCall0, eCall, eChain, eSl, oNone, oSome, dSl, dAdd, dSub, dMod, dDiv, dNeg, dLt, dLtU, dLe, dGt, dGe, dIs, dIx, dIxI, d1, dLen1, dTup, dLst, dListOf, dListW, dTupOf, dIntOf, dIsi, isScr, tyName, scrOf, pName, pTup, psCons, psNil, Res.bind, noExc, ofOpt, patOut, loopOut, wipeR, lcTurn, eNL, noList, noListAll, eFlat, flatL, wSeq, wRange1, wRange2, wEnum, wRev, pd2, bigv, sApp, sAppK, plVar, eRow, b1, b2, b3, nl, c]
    have pt : pTup 2 (psCons (pName 4) (psCons (pName 5) psNil)) (.tuple [.int (a : Nat), eStp t]) [.p (.int (h : Nat)), .p w, .p (eDct some), .o none true (eRow acc), x, y] = .ok [.p (.int (h : Nat)), .p w, .p (eDct some), .o none true (eRow acc), .p (.int (a : Nat)), .p (eStp t)] := by simp [fnP, fnO, ins, retP, retO, sSeq, sIf, sAsg, sRet, sRetO, sSkip, sRetN, sRaise, sDrop, rOut, eOp, eUn, eVar, eC, rget, eArgs, aNil, aCons, eAnd, eOr, eNot, bOf, bNot, bAnd, bOr, bTru, dTru, bYes, eIf, eCall0, eCall, eChain, eSl, oNone, oSome, dSl, dAdd, dSub, dMod, dDiv, dNeg, dLt, dLtU, dLe, dGt, dGe, dIs, dIx, dIxI, d1, dLen1, dTup, dLst, dListOf, dListW, dTupOf, dIntOf, dIsi, isScr, tyName, scrOf, pName, pTup, psCons, psNil, Res.bind, noExc, ofOpt, patOut, loopOut, wipeR, lcTurn, eNL, noList, noListAll, eFlat, flatL, wSeq, wRange1, wRange2, wEnum, wRev]
    show patOut (pTup 2 (psCons (pName 4) (psCons (pName 5) psNil)) (.tuple [.int (a : Nat), eStp t]) [.p (.int (h : Nat)), .p w, .p (eDct some), .o none true (eRow acc), x, y]) (fun ρ1 => loopOut (L1__fenced_row ρ1) (forGo _ _ (enumF (a + 1) r))) = _
    rw [pt]
    show loopOut (L1__fenced_row _) _ = _
    rw [turn]
    refine e.trans ?_
    have q : acc ++ ((if (h, a) ∈ some then [Stp.fence] else []) ++ [t]) ++ fenR h some (a + 1) r = acc ++ fenR h some a (t :: r) := by
      show _ = acc ++ ((if (h, a) ∈ some then [Stp.fence] else []) ++ t :: fenR h some (a + 1) r)
      simp
    rw [q]
theorem fenced_row_ok (h : Nat) (r : List Stp) (some : List Plc) (hl : r.length ≤ 1000) : F__fenced_row [.int (h : Nat), eRow r, eDct some] = .ok (eRow (fenR h some 0 r)) := by
  obtain ⟨x', y', e⟩ := fenced_row_go h (eRow r) some r 0 [] .no .no (by simp; omega)
  have i : wEnum (aCons (eVar 1) aNil) [.p (.int (h : Nat)), .p (eRow r), .p (eDct some), .o none true (.list []), .no, .no] = .ok (enumF 0 r) := by
    rw [← enum_enumF]
    simp [fnP, fnO, ins, retP, retO, sSeq, sIf, sAsg, sRet, sRetO, sSkip, sRetN, sRaise, sDrop, rOut, eOp, eUn, eVar, eC, rget, eArgs, aNil, aCons, eAnd, eOr, eNot, bOf, bNot, bAnd, bOr, bTru, dTru, bYes, eIf, eCall0, eCall, eChain, eSl, oNone, oSome, dSl, dAdd, dSub, dMod, dDiv, dNeg, dLt, dLtU, dLe, dGt, dGe, dIs, dIx, dIxI, d1, dLen1, dTup, dLst, dListOf, dListW, dTupOf, dIntOf, dIsi, isScr, tyName, scrOf, pName, pTup, psCons, psNil, Res.bind, noExc, ofOpt, patOut, loopOut, wipeR, lcTurn, eNL, noList, noListAll, eFlat, flatL, wSeq, wRange1, wRange2, wEnum, wRev, eRow]
  have n1 : sAsgO true 3 (eArgs dLst aNil) [.p (.int (h : Nat)), .p (eRow r), .p (eDct some), .no, .no, .no] = .nx [.p (.int (h : Nat)), .p (eRow r), .p (eDct some), .o none true (.list []), .no, .no] := by simp [sAsgO, fnP, fnO, ins, retP, retO, sSeq, sIf, sAsg, sRet, sRetO, sSkip, sRetN, sRaise, sDrop, rOut, eOp, eUn, eVar, eC, rget, eArgs, aNil, aCons, eAnd, eOr, eNot, bOf, bNot, bAnd, bOr, bTru, dTru, bYes, eIf, eCall0, eCall, eChain, eSl, oNone, oSome, dSl, dAdd, dSub, dMod, dDiv, dNeg, dLt, dLtU, dLe, dGt, dGe, dIs, dIx, dIxI, d1, dLen1, dTup, dLst, dListOf, dListW, dTupOf, dIntOf, dIsi, isScr, tyName, scrOf, pName, pTup, psCons, psNil, Res.bind, noExc, ofOpt, patOut, loopOut, wipeR, lcTurn, eNL, noList, noListAll, eFlat, flatL, wSeq, wRange1, wRange2, wEnum, wRev, bigv]
  show noExc (retO true (b__fenced_row [.p (.int (h : Nat)), .p (eRow r), .p (eDct some), .no, .no, .no])) = _
  unfold b__fenced_row
  rw [sSeq_nx n1, sSeq_nx ((sFor_ok i).trans e)]
  rfl
end Pg

set_option Elab.async false
set_option linter.all false
set_option maxRecDepth 100000
set_option maxHeartbeats 4000000
namespace Pg
open PySem PySem.Spec PyProof.Rows L2 Fw
theorem is_place_nat (w : Web) (h : Nat) (a : Int) (hh : h < w.length) : F__is_place [eWeb w, .tuple [.int (h : Nat), .int a]] = .ok (.bool (decide (1 ≤ a ∧ a < (nth w h []).length))) := by
  have w1 := enc_at eRow w h hh []
  have w2 : atI (w.map eRow) (h : Int) = some (.list ((nth w h []).map eStp)) := w1
  have h1 : (h : Int) < (w.length : Nat) := by omega
  by_cases c : 1 ≤ a
  · simp [F__is_place, b__is_place, fnP, fnO, ins, retP, retO, sSeq, sIf, sAsg, sRet, sRetO, sSkip, sRetN, sRaise, sDrop, rOut, eOp, eUn, eVar, eC, rget, eArgs, aNil, aCons, eAnd, eOr, eNot, bOf, bNot, bAnd, bOr, bTru, dTru, bYes, eIf, eCall0, eCall, eChain, eSl, oNone, oSome, dSl, dAdd, dSub, dMod, dDiv, dNeg, dLt, dLtU, dLe, dGt, dGe, dIs, dIx, dIxI, d1, dLen1, dTup, dLst, dListOf, dListW, dTupOf, dIntOf, dIsi, isScr, tyName, scrOf, pName, pTup, psCons, psNil, Res.bind, noExc, ofOpt, patOut, loopOut, wipeR, lcTurn, eNL, noList, noListAll, eFlat, flatL, wSeq, wRange1, wRange2, wEnum, wRev, kb_NoneType_int, kb_NoneType_bool, kb_NoneType_str, kb_NoneType_list, kb_NoneType_tuple, kb_bool_int, kb_bool_bool, kb_bool_str, kb_bool_list, kb_bool_tuple, kb_int_int, kb_int_bool, kb_int_str, kb_int_list, kb_int_tuple, kb_str_int, kb_str_bool, kb_str_str, kb_str_list, kb_str_tuple, kb_list_int, kb_list_bool, kb_list_str, kb_list_list, kb_list_tuple, kb_tuple_int, kb_tuple_bool, kb_tuple_str, kb_tuple_list, kb_tuple_tuple, kb_dict_int, kb_dict_bool, kb_dict_str, kb_dict_list, kb_dict_tuple, dNe_int, whole_int, eWeb, h1, hh, c, w2]
  · simp [F__is_place, b__is_place, fnP, fnO, ins, retP, retO, sSeq, sIf, sAsg, sRet, sRetO, sSkip, sRetN, sRaise, sDrop, rOut, eOp, eUn, eVar, eC, rget, eArgs, aNil, aCons, eAnd, eOr, eNot, bOf, bNot, bAnd, bOr, bTru, dTru, bYes, eIf, eCall0, eCall, eChain, eSl, oNone, oSome, dSl, dAdd, dSub, dMod, dDiv, dNeg, dLt, dLtU, dLe, dGt, dGe, dIs, dIx, dIxI, d1, dLen1, dTup, dLst, dListOf, dListW, dTupOf, dIntOf, dIsi, isScr, tyName, scrOf, pName, pTup, psCons, psNil, Res.bind, noExc, ofOpt, patOut, loopOut, wipeR, lcTurn, eNL, noList, noListAll, eFlat, flatL, wSeq, wRange1, wRange2, wEnum, wRev, kb_NoneType_int, kb_NoneType_bool, kb_NoneType_str, kb_NoneType_list, kb_NoneType_tuple, kb_bool_int, kb_bool_bool, kb_bool_str, kb_bool_list, kb_bool_tuple, kb_int_int, kb_int_bool, kb_int_str, kb_int_list, kb_int_tuple, kb_str_int, kb_str_bool, kb_str_str, kb_str_list, kb_str_tuple, kb_list_int, kb_list_bool, kb_list_str, kb_list_list, kb_list_tuple, kb_tuple_int, kb_tuple_bool, kb_tuple_str, kb_tuple_list, kb_tuple_tuple, kb_dict_int, kb_dict_bool, kb_dict_str, kb_dict_list, kb_dict_tuple, dNe_int, whole_int, eWeb, h1, hh, c]
theorem is_place_out (w : Web) (h a : Int) (hh : ¬ (0 ≤ h ∧ h < w.length)) : F__is_place [eWeb w, .tuple [.int h, .int a]] = .ok (.bool false) := by
  by_cases c : 0 ≤ h
  · have h1 : ¬ (h < (w.length : Nat)) := fun z => hh ⟨c, z⟩
    simp [F__is_place, b__is_place, fnP, fnO, ins, retP, retO, sSeq, sIf, sAsg, sRet, sRetO, sSkip, sRetN, sRaise, sDrop, rOut, eOp, eUn, eVar, eC, rget, eArgs, aNil, aCons, eAnd, eOr, eNot, bOf, bNot, bAnd, bOr, bTru, dTru, bYes, eIf, eCall0, eCall, eChain, eSl, oNone, oSome, dSl, dAdd, dSub, dMod, dDiv, dNeg, dLt, dLtU, dLe, dGt, dGe, dIs, dIx, dIxI, d1, dLen1, dTup, dLst, dListOf, dListW, dTupOf, dIntOf, dIsi, isScr, tyName, scrOf, pName, pTup, psCons, psNil, Res.bind, noExc, ofOpt, patOut, loopOut, wipeR, lcTurn, eNL, noList, noListAll, eFlat, flatL, wSeq, wRange1, wRange2, wEnum, wRev, kb_NoneType_int, kb_NoneType_bool, kb_NoneType_str, kb_NoneType_list, kb_NoneType_tuple, kb_bool_int, kb_bool_bool, kb_bool_str, kb_bool_list, kb_bool_tuple, kb_int_int, kb_int_bool, kb_int_str, kb_int_list, kb_int_tuple, kb_str_int, kb_str_bool, kb_str_str, kb_str_list, kb_str_tuple, kb_list_int, kb_list_bool, kb_list_str, kb_list_list, kb_list_tuple, kb_tuple_int, kb_tuple_bool, kb_tuple_str, kb_tuple_list, kb_tuple_tuple, kb_dict_int, kb_dict_bool, kb_dict_str, kb_dict_list, kb_dict_tuple, dNe_int, whole_int, eWeb, h1, c]
  · simp [F__is_place, b__is_place, fnP, fnO, ins, retP, retO, sSeq, sIf, sAsg, sRet, sRetO, sSkip, sRetN, sRaise, sDrop, rOut, eOp, eUn, eVar, eC, rget, eArgs, aNil, aCons, eAnd, eOr, eNot, bOf, bNot, bAnd, bOr, bTru, dTru, bYes, eIf, eCall0, eCall, eChain, eSl, oNone, oSome, dSl, dAdd, dSub, dMod, dDiv, dNeg, dLt, dLtU, dLe, dGt, dGe, dIs, dIx, dIxI, d1, dLen1, dTup, dLst, dListOf, dListW, dTupOf, dIntOf, dIsi, isScr, tyName, scrOf, pName, pTup, psCons, psNil, Res.bind, noExc, ofOpt, patOut, loopOut, wipeR, lcTurn, eNL, noList, noListAll, eFlat, flatL, wSeq, wRange1, wRange2, wEnum, wRev, kb_NoneType_int, kb_NoneType_bool, kb_NoneType_str, kb_NoneType_list, kb_NoneType_tuple, kb_bool_int, kb_bool_bool, kb_bool_str, kb_bool_list, kb_bool_tuple, kb_int_int, kb_int_bool, kb_int_str, kb_int_list, kb_int_tuple, kb_str_int, kb_str_bool, kb_str_str, kb_str_list, kb_str_tuple, kb_list_int, kb_list_bool, kb_list_str, kb_list_list, kb_list_tuple, kb_tuple_int, kb_tuple_bool, kb_tuple_str, kb_tuple_list, kb_tuple_tuple, kb_dict_int, kb_dict_bool, kb_dict_str, kb_dict_list, kb_dict_tuple, dNe_int, whole_int, eWeb, c]
theorem is_place_ok {w : Web} {p : Plc} (h : PlOk w p) : F__is_place [eWeb w, ePl p] = .ok (.bool true) := by
  have := is_place_nat w p.1 (p.2 : Int) h.1
  have e : decide (1 ≤ (p.2 : Int) ∧ (p.2 : Int) < (nth w p.1 []).length) = true := decide_eq_true (by have := h.2; omega)
  rw [e] at this
  exact this
theorem fen_ok {w : Web} {l : List Plc} (h : WebOk w) (hs : ∀ p ∈ l, PlOk w p) (hl : l.length ≤ 10000) : F_fenced [eWeb w, ePls l] = .ok (eWeb (fenW l w)) := by
  have m := h.most
  have e1 : C1_fenced [.p (eWeb w), .p (ePls l), .p (eWeb w), .no, .no, .no, .no] = .ok (.list (l.map fun _ => .bool true)) :=
    eLc_enc (f := ePl) (by simp [fnP, fnO, ins, retP, retO, sSeq, sIf, sAsg, sRet, sRetO, sSkip, sRetN, sRaise, sDrop, rOut, eOp, eUn, eVar, eC, rget, eArgs, aNil, aCons, eAnd, eOr, eNot, bOf, bNot, bAnd, bOr, bTru, dTru, bYes, eIf, eCall0, eCall, eChain, eSl, oNone, oSome, dSl, dAdd, dSub, dMod, dDiv, dNeg, dLt, dLtU, dLe, dGt, dGe, dIs, dIx, dIxI, d1, dLen1, dTup, dLst, dListOf, dListW, dTupOf, dIntOf, dIsi, isScr, tyName, scrOf, pName, pTup, psCons, psNil, Res.bind, noExc, ofOpt, patOut, loopOut, wipeR, lcTurn, eNL, noList, noListAll, eFlat, flatL, wSeq, wRange1, wRange2, wEnum, wRev, ePls]) (fun p hp => by simp [fnP, fnO, ins, retP, retO, sSeq, sIf, sAsg, sRet, sRetO, sSkip, sRetN, sRaise, sDrop, rOut, eOp, eUn, eVar, eC, rget, eArgs, aNil, aCons, eAnd, eOr, eNot, bOf, bNot, bAnd, bOr, bTru, dTru, bYes, eIf, eCall0, eCall, eChain, eSl, oNone, oSome, dSl, dAdd, dSub, dMod, dDiv, dNeg, dLt, dLtU, dLe, dGt, dGe, dIs, dIx, dIxI, d1, dLen1, dTup, dLst, dListOf, dListW, dTupOf, dIntOf, dIsi, isScr, tyName, scrOf, pName, pTup, psCons, psNil, Res.bind, noExc, ofOpt, patOut, loopOut, wipeR, lcTurn, eNL, noList, noListAll, eFlat, flatL, wSeq, wRange1, wRange2, wEnum, wRev, is_place_ok (hs p hp)]) (by rw [bigv]; omega)
  rw [map_rep] at e1
  have e2 : eDc (wSeq (eVar 1)) (pName 4) bYes (eVar 4) (eC (.bool true)) [4] [.p (eWeb w), .p (ePls l), .p (eWeb w), .no, .no, .no, .no] = .ok (eDct l) :=
    eDc_pl (by simp [fnP, fnO, ins, retP, retO, sSeq, sIf, sAsg, sRet, sRetO, sSkip, sRetN, sRaise, sDrop, rOut, eOp, eUn, eVar, eC, rget, eArgs, aNil, aCons, eAnd, eOr, eNot, bOf, bNot, bAnd, bOr, bTru, dTru, bYes, eIf, eCall0, eCall, eChain, eSl, oNone, oSome, dSl, dAdd, dSub, dMod, dDiv, dNeg, dLt, dLtU, dLe, dGt, dGe, dIs, dIx, dIxI, d1, dLen1, dTup, dLst, dListOf, dListW, dTupOf, dIntOf, dIsi, isScr, tyName, scrOf, pName, pTup, psCons, psNil, Res.bind, noExc, ofOpt, patOut, loopOut, wipeR, lcTurn, eNL, noList, noListAll, eFlat, flatL, wSeq, wRange1, wRange2, wEnum, wRev, ePls]) (by simp) (by rw [bigv]; omega)
  have i : wEnum (aCons (eVar 2) aNil) [.p (eWeb w), .p (ePls l), .p (eWeb w), .p (eDct l), .no, .no, .no] = .ok ((List.range w.length).map fun (h : Nat) => PyData.tuple [.int (h : Int), eRow (nth w h [])]) := by
    rw [← enum_nth]
    simp [fnP, fnO, ins, retP, retO, sSeq, sIf, sAsg, sRet, sRetO, sSkip, sRetN, sRaise, sDrop, rOut, eOp, eUn, eVar, eC, rget, eArgs, aNil, aCons, eAnd, eOr, eNot, bOf, bNot, bAnd, bOr, bTru, dTru, bYes, eIf, eCall0, eCall, eChain, eSl, oNone, oSome, dSl, dAdd, dSub, dMod, dDiv, dNeg, dLt, dLtU, dLe, dGt, dGe, dIs, dIx, dIxI, d1, dLen1, dTup, dLst, dListOf, dListW, dTupOf, dIntOf, dIsi, isScr, tyName, scrOf, pName, pTup, psCons, psNil, Res.bind, noExc, ofOpt, patOut, loopOut, wipeR, lcTurn, eNL, noList, noListAll, eFlat, flatL, wSeq, wRange1, wRange2, wEnum, wRev, eWeb]
  have e3 : C2_fenced [.p (eWeb w), .p (ePls l), .p (eWeb w), .p (eDct l), .no, .no, .no] = .ok (.list ((List.range w.length).map fun h => eRow (fenR h l 0 (nth w h [])))) :=
    eLc_enc (h := fun h => eRow (fenR h l 0 (nth w h []))) i (fun k hk => by
      have hk' := List.mem_range.mp hk
      simp [fnP, fnO, ins, retP, retO, sSeq, sIf, sAsg, sRet, sRetO, sSkip, sRetN, sRaise, sDrop, rOut, eOp, eUn, eVar, eC, rget, eArgs, aNil, aCons, eAnd, eOr, eNot, bOf, bNot, bAnd, bOr, bTru, dTru, bYes, eIf, eCall0, eCall, eChain, eSl, oNone, oSome, dSl, dAdd, dSub, dMod, dDiv, dNeg, dLt, dLtU, dLe, dGt, dGe, dIs, dIx, dIxI, d1, dLen1, dTup, dLst, dListOf, dListW, dTupOf, dIntOf, dIsi, isScr, tyName, scrOf, pName, pTup, psCons, psNil, Res.bind, noExc, ofOpt, patOut, loopOut, wipeR, lcTurn, eNL, noList, noListAll, eFlat, flatL, wSeq, wRange1, wRange2, wEnum, wRev, fenced_row_ok k (nth w k []) l (row_short h hk')]) (by rw [List.length_range, bigv]; omega)
  have e4 : PyData.list ((List.range w.length).map fun h => eRow (fenR h l 0 (nth w h []))) = eWeb (fenW l w) := by
    unfold eWeb fenW
    rw [List.map_map]
    rfl
  rw [e4] at e3
  have n1 : sAsg (pName 2) (eCall F_need_web (aCons (eVar 0) aNil)) [.p (eWeb w), .p (ePls l), .no, .no, .no, .no, .no] = .nx [.p (eWeb w), .p (ePls l), .p (eWeb w), .no, .no, .no, .no] := sAsg_nm (by simp [fnP, fnO, ins, retP, retO, sSeq, sIf, sAsg, sRet, sRetO, sSkip, sRetN, sRaise, sDrop, rOut, eOp, eUn, eVar, eC, rget, eArgs, aNil, aCons, eAnd, eOr, eNot, bOf, bNot, bAnd, bOr, bTru, dTru, bYes, eIf, eCall0, eCall, eChain, eSl, oNone, oSome, dSl, dAdd, dSub, dMod, dDiv, dNeg, dLt, dLtU, dLe, dGt, dGe, dIs, dIx, dIxI, d1, dLen1, dTup, dLst, dListOf, dListW, dTupOf, dIntOf, dIsi, isScr, tyName, scrOf, pName, pTup, psCons, psNil, Res.bind, noExc, ofOpt, patOut, loopOut, wipeR, lcTurn, eNL, noList, noListAll, eFlat, flatL, wSeq, wRange1, wRange2, wEnum, wRev, need_web_ok h])
  have n2 : bOr (bNot (bTru (eUn (dIsi "list") (eVar 1)))) (bNot (bTru (eArgs (d1 dAll) (aCons C1_fenced aNil)))) [.p (eWeb w), .p (ePls l), .p (eWeb w), .no, .no, .no, .no] = .ok false := by
    simp [ePls] at e1 ⊢
    simp [fnP, fnO, ins, retP, retO, sSeq, sIf, sAsg, sRet, sRetO, sSkip, sRetN, sRaise, sDrop, rOut, eOp, eUn, eVar, eC, rget, eArgs, aNil, aCons, eAnd, eOr, eNot, bOf, bNot, bAnd, bOr, bTru, dTru, bYes, eIf, eCall0, eCall, eChain, eSl, oNone, oSome, dSl, dAdd, dSub, dMod, dDiv, dNeg, dLt, dLtU, dLe, dGt, dGe, dIs, dIx, dIxI, d1, dLen1, dTup, dLst, dListOf, dListW, dTupOf, dIntOf, dIsi, isScr, tyName, scrOf, pName, pTup, psCons, psNil, Res.bind, noExc, ofOpt, patOut, loopOut, wipeR, lcTurn, eNL, noList, noListAll, eFlat, flatL, wSeq, wRange1, wRange2, wEnum, wRev, kb_NoneType_int, kb_NoneType_bool, kb_NoneType_str, kb_NoneType_list, kb_NoneType_tuple, kb_bool_int, kb_bool_bool, kb_bool_str, kb_bool_list, kb_bool_tuple, kb_int_int, kb_int_bool, kb_int_str, kb_int_list, kb_int_tuple, kb_str_int, kb_str_bool, kb_str_str, kb_str_list, kb_str_tuple, kb_list_int, kb_list_bool, kb_list_str, kb_list_list, kb_list_tuple, kb_tuple_int, kb_tuple_bool, kb_tuple_str, kb_tuple_list, kb_tuple_tuple, kb_dict_int, kb_dict_bool, kb_dict_str, kb_dict_list, kb_dict_tuple, e1, dAll, bools_rep, all_rep]
  have n3 := sAsg_nm (i := 3) e2
  show retO true (b_fenced [.p (eWeb w), .p (ePls l), .no, .no, .no, .no, .no]) = _
  unfold b_fenced
  rw [sSeq_nx n1, sSeq_nx (sIf_skip n2), sSeq_nx n3]
  show retO true (sRetO true C2_fenced [.p (eWeb w), .p (ePls l), .p (eWeb w), .p (eDct l), .no, .no, .no]) = _
  unfold sRetO
  rw [e3]
  rfl
theorem bools_of {α : Type} (f : α → Bool) : ∀ l : List α, boolsOf (l.map fun a => PyData.bool (f a)) = some (l.map f)
  | [] => rfl
  | a :: l => by rw [List.map_cons, boolsOf, bools_of f l]; rfl
/-- something among them is no place -/
theorem fen_no {w : Web} {ds : List D} {q : D → Bool} (h : WebOk w) (hq : ∀ d ∈ ds, F__is_place [eWeb w, d] = .ok (.bool (q d))) (hl : ds.length ≤ 10000) (hn : ds.all q = false) : F_fenced [eWeb w, .list ds] = .exc 3 := by
  have e1 : C1_fenced [.p (eWeb w), .p (.list ds), .p (eWeb w), .no, .no, .no, .no] = .ok (.list (ds.map fun d => .bool (q d))) :=
    eLc_enc (f := fun d => d) (by simp [fnP, fnO, ins, retP, retO, sSeq, sIf, sAsg, sRet, sRetO, sSkip, sRetN, sRaise, sDrop, rOut, eOp, eUn, eVar, eC, rget, eArgs, aNil, aCons, eAnd, eOr, eNot, bOf, bNot, bAnd, bOr, bTru, dTru, bYes, eIf, eCall0, eCall, eChain, eSl, oNone, oSome, dSl, dAdd, dSub, dMod, dDiv, dNeg, dLt, dLtU, dLe, dGt, dGe, dIs, dIx, dIxI, d1, dLen1, dTup, dLst, dListOf, dListW, dTupOf, dIntOf, dIsi, isScr, tyName, scrOf, pName, pTup, psCons, psNil, Res.bind, noExc, ofOpt, patOut, loopOut, wipeR, lcTurn, eNL, noList, noListAll, eFlat, flatL, wSeq, wRange1, wRange2, wEnum, wRev]) (fun p hp => by simp [fnP, fnO, ins, retP, retO, sSeq, sIf, sAsg, sRet, sRetO, sSkip, sRetN, sRaise, sDrop, rOut, eOp, eUn, eVar, eC, rget, eArgs, aNil, aCons, eAnd, eOr, eNot, bOf, bNot, bAnd, bOr, bTru, dTru, bYes, eIf, eCall0, eCall, eChain, eSl, oNone, oSome, dSl, dAdd, dSub, dMod, dDiv, dNeg, dLt, dLtU, dLe, dGt, dGe, dIs, dIx, dIxI, d1, dLen1, dTup, dLst, dListOf, dListW, dTupOf, dIntOf, dIsi, isScr, tyName, scrOf, pName, pTup, psCons, psNil, Res.bind, noExc, ofOpt, patOut, loopOut, wipeR, lcTurn, eNL, noList, noListAll, eFlat, flatL, wSeq, wRange1, wRange2, wEnum, wRev, hq p hp]) (by rw [bigv]; omega)
  have n1 : sAsg (pName 2) (eCall F_need_web (aCons (eVar 0) aNil)) [.p (eWeb w), .p (.list ds), .no, .no, .no, .no, .no] = .nx [.p (eWeb w), .p (.list ds), .p (eWeb w), .no, .no, .no, .no] := sAsg_nm (by simp [fnP, fnO, ins, retP, retO, sSeq, sIf, sAsg, sRet, sRetO, sSkip, sRetN, sRaise, sDrop, rOut, eOp, eUn, eVar, eC, rget, eArgs, aNil, aCons, eAnd, eOr, eNot, bOf, bNot, bAnd, bOr, bTru, dTru, bYes, eIf, eCall0, eCall, eChain, eSl, oNone, oSome, dSl, dAdd, dSub, dMod, dDiv, dNeg, dLt, dLtU, dLe, dGt, dGe, dIs, dIx, dIxI, d1, dLen1, dTup, dLst, dListOf, dListW, dTupOf, dIntOf, dIsi, isScr, tyName, scrOf, pName, pTup, psCons, psNil, Res.bind, noExc, ofOpt, patOut, loopOut, wipeR, lcTurn, eNL, noList, noListAll, eFlat, flatL, wSeq, wRange1, wRange2, wEnum, wRev, need_web_ok h])
  have n2 : bOr (bNot (bTru (eUn (dIsi "list") (eVar 1)))) (bNot (bTru (eArgs (d1 dAll) (aCons C1_fenced aNil)))) [.p (eWeb w), .p (.list ds), .p (eWeb w), .no, .no, .no, .no] = .ok true := by
    have a : dAll (.list (ds.map fun d => .bool (q d))) = .ok (.bool false) := by
      show ((ofOpt (boolsOf (ds.map fun d => PyData.bool (q d)))).bind fun bs => Res.ok (PyData.bool (bs.all id))) = _
      rw [bools_of]
      show Res.ok (PyData.bool ((ds.map q).all id)) = _
      rw [List.all_map]
      have : ds.all (id ∘ q) = ds.all q := rfl
      rw [this, hn]
    simp [fnP, fnO, ins, retP, retO, sSeq, sIf, sAsg, sRet, sRetO, sSkip, sRetN, sRaise, sDrop, rOut, eOp, eUn, eVar, eC, rget, eArgs, aNil, aCons, eAnd, eOr, eNot, bOf, bNot, bAnd, bOr, bTru, dTru, bYes, eIf, eCall0, eCall, eChain, eSl, oNone, oSome, dSl, dAdd, dSub, dMod, dDiv, dNeg, dLt, dLtU, dLe, dGt, dGe, dIs, dIx, dIxI, d1, dLen1, dTup, dLst, dListOf, dListW, dTupOf, dIntOf, dIsi, isScr, tyName, scrOf, pName, pTup, psCons, psNil, Res.bind, noExc, ofOpt, patOut, loopOut, wipeR, lcTurn, eNL, noList, noListAll, eFlat, flatL, wSeq, wRange1, wRange2, wEnum, wRev, kb_NoneType_int, kb_NoneType_bool, kb_NoneType_str, kb_NoneType_list, kb_NoneType_tuple, kb_bool_int, kb_bool_bool, kb_bool_str, kb_bool_list, kb_bool_tuple, kb_int_int, kb_int_bool, kb_int_str, kb_int_list, kb_int_tuple, kb_str_int, kb_str_bool, kb_str_str, kb_str_list, kb_str_tuple, kb_list_int, kb_list_bool, kb_list_str, kb_list_list, kb_list_tuple, kb_tuple_int, kb_tuple_bool, kb_tuple_str, kb_tuple_list, kb_tuple_tuple, kb_dict_int, kb_dict_bool, kb_dict_str, kb_dict_list, kb_dict_tuple, e1, a]
  show retO true (b_fenced [.p (eWeb w), .p (.list ds), .no, .no, .no, .no, .no]) = _
  unfold b_fenced
  rw [sSeq_nx n1]
  show retO true (sSeq (sIf _ _ _) _ _) = _
  unfold sSeq
  rw [sIf_t n2]
  rfl
end Pg

set_option Elab.async false
set_option linter.all false
set_option maxRecDepth 100000
set_option maxHeartbeats 4000000
namespace Pg
open PySem PySem.Spec PyProof.Rows L2 Fw
theorem sh_pl (p : Plc) : Sh 1 (ePl p) := .tuple (n := 0) fun d hd => by
  simp only [List.mem_cons, List.not_mem_nil, or_false] at hd
  rcases hd with rfl | rfl <;> exact .int _
theorem sh_pls (l : List Plc) : Sh 2 (ePls l) := .list (n := 1) (sh_mem sh_pl)
theorem dEq_self {n : Nat} {d : D} (h : Sh n d) (hn : n ≤ 64) : dEq d d = .ok (.bool true) := by rw [dEq_sh h h hn, eqv_self _ h.1]
theorem dNe_self {n : Nat} {d : D} (h : Sh n d) (hn : n ≤ 64) : dNe d d = .ok (.bool false) := by rw [dNe_sh h h hn, eqv_self _ h.1]; rfl
theorem eqv_pl (p q : Plc) : PyData.eqv (ePl p) (ePl q) = decide (p = q) := by
  have h : (p = q) ↔ ((p.1 : Int) = (q.1 : Int) ∧ (p.2 : Int) = (q.2 : Int)) := by
    constructor
    · rintro rfl
      exact ⟨rfl, rfl⟩
    · rintro ⟨h1, h2⟩
      exact Prod.ext (by omega) (by omega)
  by_cases c : p = q
  · subst c
    rw [eqv_self _ (sh_pl p).1]
    simp
  · have c2 : ¬ ((p.1 : Int) = (q.1 : Int) ∧ (p.2 : Int) = (q.2 : Int)) := fun z => c (h.mpr z)
    rw [decide_eq_false c]
    simp only [ePl, PyData.eqv, PyData.eqvAll, Bool.and_true]
    by_cases c3 : (p.1 : Int) = (q.1 : Int)
    · have c4 : ¬ ((p.2 : Int) = (q.2 : Int)) := fun z => c2 ⟨c3, z⟩
      have c5 : ((p.2 : Int) == (q.2 : Int)) = false := beq_eq_false_iff_ne.mpr c4
      rw [c5, Bool.and_false]
    · have c5 : ((p.1 : Int) == (q.1 : Int)) = false := beq_eq_false_iff_ne.mpr c3
      rw [c5, Bool.false_and]
theorem dIn_pls (neg : Bool) (p : Plc) (l : List Plc) : dIn neg (ePl p) (ePls l) = .ok (.bool (if neg then !decide (p ∈ l) else decide (p ∈ l))) := by
  have e : ((l.map ePl).any fun z => PyData.eqv z (ePl p)) = decide (p ∈ l) := by
    rw [List.any_map]
    induction l with
    | nil => simp
    | cons q l ih =>
      rw [List.any_cons, ih]
      show (PyData.eqv (ePl q) (ePl p) || decide (p ∈ l)) = _
      rw [eqv_pl]
      by_cases c : q = p
      · subst c; simp
      · have : ¬ (p = q) := fun z => c z.symm
        simp [c, this]
  show (if SeqAt.shaped (ePl p) = true ∧ SeqAt.shaped (ePls l) = true then Res.ok (PyData.bool (if neg then !((l.map ePl).any fun z => PyData.eqv z (ePl p)) else (l.map ePl).any fun z => PyData.eqv z (ePl p))) else .bad) = _
  rw [if_pos ⟨(sh_pl p).ok (by decide), (sh_pls l).ok (by decide)⟩, e]
def fenB (h : Nat) (l : List Plc) (a : Nat) (t : Stp) : List Stp := (if (h, a) ∈ l then [Stp.fence] else []) ++ [t]
theorem fenR_ix (h : Nat) (l : List Plc) : ∀ (r : List Stp) (a : Nat), fenR h l a r = (List.range r.length).flatMap fun i => fenB h l (a + i) (nth r i .fence)
  | [], _ => rfl
  | t :: r, a => by
    rw [List.length_cons, List.range_succ_eq_map, List.flatMap_cons, List.flatMap_map]
    show (if (h, a) ∈ l then [Stp.fence] else []) ++ t :: fenR h l (a + 1) r = _
    rw [fenR_ix h l r (a + 1)]
    have e : (fun i => fenB h l (a + 1 + i) (nth r i .fence)) = fun i => fenB h l (a + (i + 1)) (nth (t :: r) (i + 1) .fence) := by
      funext i
      have e1 : a + 1 + i = a + (i + 1) := by omega
      rw [e1]
      rfl
    rw [e]
    have e2 : fenB h l (a + 0) (nth (t :: r) 0 .fence) = (if (h, a) ∈ l then [Stp.fence] else []) ++ [t] := rfl
    rw [e2]
    simp
theorem stp_at {w : Web} {h i : Nat} (hh : h < w.length) (hi : i < (nth w h []).length) : atI ((nth w h []).map eStp) (i : Int) = some (eStp (nth (nth w h []) i .fence)) := enc_at eStp _ i hi .fence
theorem lfen_in (w : Web) (l : List Plc) (h : Nat) (hh : h < w.length) (X : Sl) : ∀ (is : List Nat) (acc : List Stp) (y : Sl), (∀ i ∈ is, i < (nth w h []).length) → acc.length + 2 * is.length ≤ 10000 →
    ∃ y', forGo (pName 5) L1__law_fenced_by (is.map fun (i : Nat) => PyData.int (i : Int)) [.p (eWeb w), .p (ePls l), X, .p (.int (h : Nat)), .p (eRow acc), y] = .nx [.p (eWeb w), .p (ePls l), X, .p (.int (h : Nat)), .p (eRow (acc ++ is.flatMap fun i => fenB h l i (nth (nth w h []) i .fence))), y']
  | [], acc, y, _, _ => ⟨y, by simp [forGo]⟩
  | i :: is, acc, y, hi, hl => by
    have hl' : acc.length + 2 * (is.length + 1) ≤ 10000 := hl
    have hi0 := hi i List.mem_cons_self
    have bl : (fenB h l i (nth (nth w h []) i .fence)).length ≤ 2 := by unfold fenB; split <;> simp
    obtain ⟨y', e⟩ := lfen_in w l h hh X is (acc ++ fenB h l i (nth (nth w h []) i .fence)) (.p (.int (i : Nat))) (fun j hj => hi j (List.mem_cons_of_mem _ hj)) (by rw [List.length_append]; omega)
    refine ⟨y', ?_⟩
    have w1 := enc_at eRow w h hh []
    have w2 : atI (w.map eRow) (h : Int) = some (.list ((nth w h []).map eStp)) := w1
    have s1 := stp_at hh hi0
    have pd := dIn_pls false (h, i) l
    have pd' : dIn false (.tuple [.int (h : Nat), .int (i : Nat)]) (ePls l) = .ok (.bool (decide ((h, i) ∈ l))) := pd
    have b1 : acc.length ≤ 16000000 := by omega
    have b2 : acc.length + 1 ≤ 16000000 := by omega
    have b3 : acc.length ≤ 15999999 := by omega
    have b4 : acc.length + 2 ≤ 16000000 := by omega
    have b5 : acc.length ≤ 15999998 := by omega
    have t : L1__law_fenced_by [.p (eWeb w), .p (ePls l), X, .p (.int (h : Nat)), .p (eRow acc), .p (.int (i : Nat))] = .nx [.p (eWeb w), .p (ePls l), X, .p (.int (h : Nat)), .p (eRow (acc ++ fenB h l i (nth (nth w h []) i .fence))), .p (.int (i : Nat))] := by
      generalize nth (nth w h []) i .fence = t at s1 ⊢
      by_cases c : (h, i) ∈ l
      · have pd2 : dIn false (.tuple [.int (h : Nat), .int (i : Nat)]) (ePls l) = .ok (.bool true) := by rw [pd', decide_eq_true c]
        simp [L1__law_fenced_by, fnP, fnO, ins, retP, retO, sSeq, sIf, sAsg, sRet, sRetO, sSkip, sRetN, sRaise, sDrop, rOut, eOp, eUn, eVar, eC, rget, eArgs, aNil, aCons, eAnd, eOr, eNot, bOf, bNot, bAnd, bOr, bTru, dTru, bYes, eIf, eCall0, eCall, eChain, eSl, oNone, oSome, dSl, dAdd, dSub, dMod, dDiv, dNeg, dLt, dLtU, dLe, dGt, dGe, dIs, dIx, dIxI, d1, dLen1, dTup, dLst, dListOf, dListW, dTupOf, dIntOf, dIsi, isScr, tyName, scrOf, pName, pTup, psCons, psNil, Res.bind, noExc, ofOpt, patOut, loopOut, wipeR, lcTurn, eNL, noList, noListAll, eFlat, flatL, wSeq, wRange1, wRange2, wEnum, wRev, dMul, pd2, bigv, eWeb, eRow, w2, s1, b1, b2, b3, b4, b5, fenB, c]
        rfl
      · have pd2 : dIn false (.tuple [.int (h : Nat), .int (i : Nat)]) (ePls l) = .ok (.bool false) := by rw [pd', decide_eq_false c]
        simp [L1__law_fenced_by, fnP, fnO, ins, retP, retO, sSeq, sIf, sAsg, sRet, sRetO, sSkip, sRetN, sRaise, sDrop, rOut, eOp, eUn, eVar, eC, rget, eArgs, aNil, aCons, eAnd, eOr, eNot, bOf, bNot, bAnd, bOr, bTru, dTru, bYes, eIf, eCall0, eCall, eChain, eSl, oNone, oSome, dSl, dAdd, dSub, dMod, dDiv, dNeg, dLt, dLtU, dLe, dGt, dGe, dIs, dIx, dIxI, d1, dLen1, dTup, dLst, dListOf, dListW, dTupOf, dIntOf, dIsi, isScr, tyName, scrOf, pName, pTup, psCons, psNil, Res.bind, noExc, ofOpt, patOut, loopOut, wipeR, lcTurn, eNL, noList, noListAll, eFlat, flatL, wSeq, wRange1, wRange2, wEnum, wRev, dMul, pd2, bigv, eWeb, eRow, w2, s1, b1, b2, b3, b4, b5, fenB, c]
    refine Eq.trans (congrArg (fun o => loopOut o (forGo (pName 5) L1__law_fenced_by (is.map fun (i : Nat) => PyData.int (i : Int)))) t) ?_
    rw [List.flatMap_cons, ← List.append_assoc]
    exact e
theorem lfen_out (w : Web) (okw : WebOk w) (l : List Plc) : ∀ (hs : List Nat) (acc : Web) (x y z : Sl), (∀ h ∈ hs, h < w.length) → acc.length + hs.length ≤ 10000 →
    ∃ x' y' z', forGo (pName 3) L2__law_fenced_by (hs.map fun (i : Nat) => PyData.int (i : Int)) [.p (eWeb w), .p (ePls l), .o none false (eWeb acc), x, y, z] = .nx [.p (eWeb w), .p (ePls l), .o none false (eWeb (acc ++ hs.map fun h => fenR h l 0 (nth w h []))), x', y', z']
  | [], acc, x, y, z, _, _ => ⟨x, y, z, by simp [forGo]⟩
  | h :: hs, acc, x, y, z, hh, hl => by
    have hl' : acc.length + (hs.length + 1) ≤ 10000 := hl
    have hk := hh h List.mem_cons_self
    have rs := row_short okw hk
    obtain ⟨z1, e1⟩ := lfen_in w l h hk (.o none false (eWeb acc)) (List.range (nth w h []).length) [] z (fun i hi => List.mem_range.mp hi) (by rw [List.length_range]; simp; omega)
    obtain ⟨x', y', z', e2⟩ := lfen_out w okw l hs (acc ++ [fenR h l 0 (nth w h [])]) (.p (.int (h : Nat))) (.p (eRow (fenR h l 0 (nth w h [])))) z1 (fun j hj => hh j (List.mem_cons_of_mem _ hj)) (by rw [List.length_append, List.length_singleton]; omega)
    refine ⟨x', y', z', ?_⟩
    have w1 := enc_at eRow w h hk []
    have w2 : atI (w.map eRow) (h : Int) = some (.list ((nth w h []).map eStp)) := w1
    have o1 : okI ((nth w h []).length : Nat) = true := decide_eq_true (by omega)
    have fr := fenR_ix h l (nth w h []) 0
    simp only [Nat.zero_add] at fr
    rw [List.nil_append, ← fr] at e1
    have i : wRange1 (aCons (eArgs (d1 dLen1) (aCons (eOp dIx (eVar 0) (eVar 3)) aNil)) aNil) [.p (eWeb w), .p (ePls l), .o none false (eWeb acc), .p (.int (h : Nat)), .p (eRow []), z] = .ok ((List.range (nth w h []).length).map fun (i : Nat) => PyData.int (i : Int)) := by
      simp [fnP, fnO, ins, retP, retO, sSeq, sIf, sAsg, sRet, sRetO, sSkip, sRetN, sRaise, sDrop, rOut, eOp, eUn, eVar, eC, rget, eArgs, aNil, aCons, eAnd, eOr, eNot, bOf, bNot, bAnd, bOr, bTru, dTru, bYes, eIf, eCall0, eCall, eChain, eSl, oNone, oSome, dSl, dAdd, dSub, dMod, dDiv, dNeg, dLt, dLtU, dLe, dGt, dGe, dIs, dIx, dIxI, d1, dLen1, dTup, dLst, dListOf, dListW, dTupOf, dIntOf, dIsi, isScr, tyName, scrOf, pName, pTup, psCons, psNil, Res.bind, noExc, ofOpt, patOut, loopOut, wipeR, lcTurn, eNL, noList, noListAll, eFlat, flatL, wSeq, wRange1, wRange2, wEnum, wRev, eWeb, w2, o1, range0]
    have n1 : sAsg (pName 4) (eArgs dLst aNil) [.p (eWeb w), .p (ePls l), .o none false (eWeb acc), .p (.int (h : Nat)), y, z] = .nx [.p (eWeb w), .p (ePls l), .o none false (eWeb acc), .p (.int (h : Nat)), .p (eRow []), z] := sAsg_nm (by simp [fnP, fnO, ins, retP, retO, sSeq, sIf, sAsg, sRet, sRetO, sSkip, sRetN, sRaise, sDrop, rOut, eOp, eUn, eVar, eC, rget, eArgs, aNil, aCons, eAnd, eOr, eNot, bOf, bNot, bAnd, bOr, bTru, dTru, bYes, eIf, eCall0, eCall, eChain, eSl, oNone, oSome, dSl, dAdd, dSub, dMod, dDiv, dNeg, dLt, dLtU, dLe, dGt, dGe, dIs, dIx, dIxI, d1, dLen1, dTup, dLst, dListOf, dListW, dTupOf, dIntOf, dIsi, isScr, tyName, scrOf, pName, pTup, psCons, psNil, Res.bind, noExc, ofOpt, patOut, loopOut, wipeR, lcTurn, eNL, noList, noListAll, eFlat, flatL, wSeq, wRange1, wRange2, wEnum, wRev, bigv, eRow])
    have b1 : acc.length < 16000000 := by omega
    have n3 : sApp false (plVar 2) (eVar 4) [.p (eWeb w), .p (ePls l), .o none false (eWeb acc), .p (.int (h : Nat)), .p (eRow (fenR h l 0 (nth w h []))), z1] = .nx [.p (eWeb w), .p (ePls l), .o none false (eWeb (acc ++ [fenR h l 0 (nth w h [])])), .p (.int (h : Nat)), .p (eRow (fenR h l 0 (nth w h []))), z1] := by
      simp [sApp, sAppK, plVar, eWeb, fnP, fnO, ins, retP, retO, sSeq, sIf, sAsg, sRet, sRetO, sSkip, sRetN, sRaise, sDrop, rOut, eOp, eUn, eVar, eC, rget, eArgs, aNil, aCons, eAnd, eOr, eNot, bOf, bNot, bAnd, bOr, bTru, dTru, bYes, eIf, eCall0, eCall, eChain, eSl, oNone, oSome, dSl, dAdd, dSub, dMod, dDiv, dNeg, dLt, dLtU, dLe, dGt, dGe, dIs, dIx, dIxI, d1, dLen1, dTup, dLst, dListOf, dListW, dTupOf, dIntOf, dIsi, isScr, tyName, scrOf, pName, pTup, psCons, psNil, Res.bind, noExc, ofOpt, patOut, loopOut, wipeR, lcTurn, eNL, noList, noListAll, eFlat, flatL, wSeq, wRange1, wRange2, wEnum, wRev, bigv, b1]
    have t : L2__law_fenced_by [.p (eWeb w), .p (ePls l), .o none false (eWeb acc), .p (.int (h : Nat)), y, z] = .nx [.p (eWeb w), .p (ePls l), .o none false (eWeb (acc ++ [fenR h l 0 (nth w h [])])), .p (.int (h : Nat)), .p (eRow (fenR h l 0 (nth w h []))), z1] := by
      unfold L2__law_fenced_by
      rw [sSeq_nx n1, sSeq_nx ((sFor_ok i).trans e1)]
      exact n3
    refine Eq.trans (congrArg (fun o => loopOut o (forGo (pName 3) L2__law_fenced_by (hs.map fun (i : Nat) => PyData.int (i : Int)))) t) ?_
    refine e2.trans ?_
    rw [List.append_assoc]
    rfl
theorem law_fenced_ok {w : Web} (okw : WebOk w) (l : List Plc) : F__law_fenced_by [eWeb w, ePls l] = .ok (eWeb (fenW l w)) := by
  have m := okw.most
  have o1 : okI (w.length : Nat) = true := decide_eq_true (by omega)
  obtain ⟨x, y, z, e⟩ := lfen_out w okw l (List.range w.length) [] .no .no .no (fun k hk => List.mem_range.mp hk) (by rw [List.length_range]; simp; omega)
  have i : wRange1 (aCons (eArgs (d1 dLen1) (aCons (eVar 0) aNil)) aNil) [.p (eWeb w), .p (ePls l), .o none false (eWeb []), .no, .no, .no] = .ok ((List.range w.length).map fun (i : Nat) => PyData.int (i : Int)) := by
    simp [fnP, fnO, ins, retP, retO, sSeq, sIf, sAsg, sRet, sRetO, sSkip, sRetN, sRaise, sDrop, rOut, eOp, eUn, eVar, eC, rget, eArgs, aNil, aCons, eAnd, eOr, eNot, bOf, bNot, bAnd, bOr, bTru, dTru, bYes, eIf, eCall0, eCall, eChain, eSl, oNone, oSome, dSl, dAdd, dSub, dMod, dDiv, dNeg, dLt, dLtU, dLe, dGt, dGe, dIs, dIx, dIxI, d1, dLen1, dTup, dLst, dListOf, dListW, dTupOf, dIntOf, dIsi, isScr, tyName, scrOf, pName, pTup, psCons, psNil, Res.bind, noExc, ofOpt, patOut, loopOut, wipeR, lcTurn, eNL, noList, noListAll, eFlat, flatL, wSeq, wRange1, wRange2, wEnum, wRev, eWeb, o1, range0]
  have n1 : sAsgO false 2 (eArgs dLst aNil) [.p (eWeb w), .p (ePls l), .no, .no, .no, .no] = .nx [.p (eWeb w), .p (ePls l), .o none false (eWeb []), .no, .no, .no] := by simp [sAsgO, fnP, fnO, ins, retP, retO, sSeq, sIf, sAsg, sRet, sRetO, sSkip, sRetN, sRaise, sDrop, rOut, eOp, eUn, eVar, eC, rget, eArgs, aNil, aCons, eAnd, eOr, eNot, bOf, bNot, bAnd, bOr, bTru, dTru, bYes, eIf, eCall0, eCall, eChain, eSl, oNone, oSome, dSl, dAdd, dSub, dMod, dDiv, dNeg, dLt, dLtU, dLe, dGt, dGe, dIs, dIx, dIxI, d1, dLen1, dTup, dLst, dListOf, dListW, dTupOf, dIntOf, dIsi, isScr, tyName, scrOf, pName, pTup, psCons, psNil, Res.bind, noExc, ofOpt, patOut, loopOut, wipeR, lcTurn, eNL, noList, noListAll, eFlat, flatL, wSeq, wRange1, wRange2, wEnum, wRev, bigv, eWeb]
  show noExc (retP (b__law_fenced_by [.p (eWeb w), .p (ePls l), .no, .no, .no, .no])) = _
  unfold b__law_fenced_by
  rw [sSeq_nx n1, sSeq_nx ((sFor_ok i).trans e)]
  rfl
end Pg

set_option Elab.async false
set_option linter.all false
set_option maxRecDepth 100000
set_option maxHeartbeats 4000000
namespace Pg
open PySem PySem.Spec PyProof.Rows L2 Fw
/-! ### what is no web -/
theorem need_web_no {d : D} (h : F_is_web [d] = .ok (.bool false)) : F_need_web [d] = .exc 0 := by
  simp [F_need_web, b_need_web, fnP, fnO, ins, retP, retO, sSeq, sIf, sAsg, sRet, sRetO, sSkip, sRetN, sRaise, sDrop, rOut, eOp, eUn, eVar, eC, rget, eArgs, aNil, aCons, eAnd, eOr, eNot, bOf, bNot, bAnd, bOr, bTru, dTru, bYes, eIf, eCall0, eCall, eChain, eSl, oNone, oSome, dSl, dAdd, dSub, dMod, dDiv, dNeg, dLt, dLtU, dLe, dGt, dGe, dIs, dIx, dIxI, d1, dLen1, dTup, dLst, dListOf, dListW, dTupOf, dIntOf, dIsi, isScr, tyName, scrOf, pName, pTup, psCons, psNil, Res.bind, noExc, ofOpt, patOut, loopOut, wipeR, lcTurn, eNL, noList, noListAll, eFlat, flatL, wSeq, wRange1, wRange2, wEnum, wRev, h]
theorem places_no {d : D} (h : F_is_web [d] = .ok (.bool false)) : F_places [d] = .exc 0 := by
  simp [F_places, b_places, fnP, fnO, ins, retP, retO, sSeq, sIf, sAsg, sRet, sRetO, sSkip, sRetN, sRaise, sDrop, rOut, eOp, eUn, eVar, eC, rget, eArgs, aNil, aCons, eAnd, eOr, eNot, bOf, bNot, bAnd, bOr, bTru, dTru, bYes, eIf, eCall0, eCall, eChain, eSl, oNone, oSome, dSl, dAdd, dSub, dMod, dDiv, dNeg, dLt, dLtU, dLe, dGt, dGe, dIs, dIx, dIxI, d1, dLen1, dTup, dLst, dListOf, dListW, dTupOf, dIntOf, dIsi, isScr, tyName, scrOf, pName, pTup, psCons, psNil, Res.bind, noExc, ofOpt, patOut, loopOut, wipeR, lcTurn, eNL, noList, noListAll, eFlat, flatL, wSeq, wRange1, wRange2, wEnum, wRev, need_web_no h]
theorem fenced_bw {d e : D} (h : F_is_web [d] = .ok (.bool false)) : F_fenced [d, e] = .exc 0 := by
  simp [F_fenced, b_fenced, fnP, fnO, ins, retP, retO, sSeq, sIf, sAsg, sRet, sRetO, sSkip, sRetN, sRaise, sDrop, rOut, eOp, eUn, eVar, eC, rget, eArgs, aNil, aCons, eAnd, eOr, eNot, bOf, bNot, bAnd, bOr, bTru, dTru, bYes, eIf, eCall0, eCall, eChain, eSl, oNone, oSome, dSl, dAdd, dSub, dMod, dDiv, dNeg, dLt, dLtU, dLe, dGt, dGe, dIs, dIx, dIxI, d1, dLen1, dTup, dLst, dListOf, dListW, dTupOf, dIntOf, dIsi, isScr, tyName, scrOf, pName, pTup, psCons, psNil, Res.bind, noExc, ofOpt, patOut, loopOut, wipeR, lcTurn, eNL, noList, noListAll, eFlat, flatL, wSeq, wRange1, wRange2, wEnum, wRev, need_web_no h]
theorem begun_no {d : D} (h : F_is_web [d] = .ok (.bool false)) : F_begun [d] = .exc 0 := by
  simp [F_begun, b_begun, fnP, fnO, ins, retP, retO, sSeq, sIf, sAsg, sRet, sRetO, sSkip, sRetN, sRaise, sDrop, rOut, eOp, eUn, eVar, eC, rget, eArgs, aNil, aCons, eAnd, eOr, eNot, bOf, bNot, bAnd, bOr, bTru, dTru, bYes, eIf, eCall0, eCall, eChain, eSl, oNone, oSome, dSl, dAdd, dSub, dMod, dDiv, dNeg, dLt, dLtU, dLe, dGt, dGe, dIs, dIx, dIxI, d1, dLen1, dTup, dLst, dListOf, dListW, dTupOf, dIntOf, dIsi, isScr, tyName, scrOf, pName, pTup, psCons, psNil, Res.bind, noExc, ofOpt, patOut, loopOut, wipeR, lcTurn, eNL, noList, noListAll, eFlat, flatL, wSeq, wRange1, wRange2, wEnum, wRev, need_web_no h]
theorem woven_no {d e : D} (h : F_is_web [d] = .ok (.bool false)) : F_woven [d, e] = .exc 0 := by
  simp [F_woven, b_woven, fnP, fnO, ins, retP, retO, sSeq, sIf, sAsg, sRet, sRetO, sSkip, sRetN, sRaise, sDrop, rOut, eOp, eUn, eVar, eC, rget, eArgs, aNil, aCons, eAnd, eOr, eNot, bOf, bNot, bAnd, bOr, bTru, dTru, bYes, eIf, eCall0, eCall, eChain, eSl, oNone, oSome, dSl, dAdd, dSub, dMod, dDiv, dNeg, dLt, dLtU, dLe, dGt, dGe, dIs, dIx, dIxI, d1, dLen1, dTup, dLst, dListOf, dListW, dTupOf, dIntOf, dIsi, isScr, tyName, scrOf, pName, pTup, psCons, psNil, Res.bind, noExc, ofOpt, patOut, loopOut, wipeR, lcTurn, eNL, noList, noListAll, eFlat, flatL, wSeq, wRange1, wRange2, wEnum, wRev, need_web_no h]
theorem is_prompt_bw {d e : D} (h : F_is_web [d] = .ok (.bool false)) : F_is_prompt [d, e] = .exc 0 := by
  simp [F_is_prompt, b_is_prompt, fnP, fnO, ins, retP, retO, sSeq, sIf, sAsg, sRet, sRetO, sSkip, sRetN, sRaise, sDrop, rOut, eOp, eUn, eVar, eC, rget, eArgs, aNil, aCons, eAnd, eOr, eNot, bOf, bNot, bAnd, bOr, bTru, dTru, bYes, eIf, eCall0, eCall, eChain, eSl, oNone, oSome, dSl, dAdd, dSub, dMod, dDiv, dNeg, dLt, dLtU, dLe, dGt, dGe, dIs, dIx, dIxI, d1, dLen1, dTup, dLst, dListOf, dListW, dTupOf, dIntOf, dIsi, isScr, tyName, scrOf, pName, pTup, psCons, psNil, Res.bind, noExc, ofOpt, patOut, loopOut, wipeR, lcTurn, eNL, noList, noListAll, eFlat, flatL, wSeq, wRange1, wRange2, wEnum, wRev, need_web_no h]
theorem ends_no {d : D} (h : F_is_web [d] = .ok (.bool false)) : F_ends [d] = .exc 0 := by
  simp [F_ends, b_ends, fnP, fnO, ins, retP, retO, sSeq, sIf, sAsg, sRet, sRetO, sSkip, sRetN, sRaise, sDrop, rOut, eOp, eUn, eVar, eC, rget, eArgs, aNil, aCons, eAnd, eOr, eNot, bOf, bNot, bAnd, bOr, bTru, dTru, bYes, eIf, eCall0, eCall, eChain, eSl, oNone, oSome, dSl, dAdd, dSub, dMod, dDiv, dNeg, dLt, dLtU, dLe, dGt, dGe, dIs, dIx, dIxI, d1, dLen1, dTup, dLst, dListOf, dListW, dTupOf, dIntOf, dIsi, isScr, tyName, scrOf, pName, pTup, psCons, psNil, Res.bind, noExc, ofOpt, patOut, loopOut, wipeR, lcTurn, eNL, noList, noListAll, eFlat, flatL, wSeq, wRange1, wRange2, wEnum, wRev, need_web_no h]
theorem prompt_ends_no {d : D} (h : F_is_web [d] = .ok (.bool false)) : F_prompt_ends [d] = .exc 0 := by
  simp [F_prompt_ends, b_prompt_ends, fnP, fnO, ins, retP, retO, sSeq, sIf, sAsg, sRet, sRetO, sSkip, sRetN, sRaise, sDrop, rOut, eOp, eUn, eVar, eC, rget, eArgs, aNil, aCons, eAnd, eOr, eNot, bOf, bNot, bAnd, bOr, bTru, dTru, bYes, eIf, eCall0, eCall, eChain, eSl, oNone, oSome, dSl, dAdd, dSub, dMod, dDiv, dNeg, dLt, dLtU, dLe, dGt, dGe, dIs, dIx, dIxI, d1, dLen1, dTup, dLst, dListOf, dListW, dTupOf, dIntOf, dIsi, isScr, tyName, scrOf, pName, pTup, psCons, psNil, Res.bind, noExc, ofOpt, patOut, loopOut, wipeR, lcTurn, eNL, noList, noListAll, eFlat, flatL, wSeq, wRange1, wRange2, wEnum, wRev, need_web_no h]
theorem fences_no {d : D} (h : F_is_web [d] = .ok (.bool false)) : F_fences [d] = .exc 0 := by
  simp [F_fences, b_fences, fnP, fnO, ins, retP, retO, sSeq, sIf, sAsg, sRet, sRetO, sSkip, sRetN, sRaise, sDrop, rOut, eOp, eUn, eVar, eC, rget, eArgs, aNil, aCons, eAnd, eOr, eNot, bOf, bNot, bAnd, bOr, bTru, dTru, bYes, eIf, eCall0, eCall, eChain, eSl, oNone, oSome, dSl, dAdd, dSub, dMod, dDiv, dNeg, dLt, dLtU, dLe, dGt, dGe, dIs, dIx, dIxI, d1, dLen1, dTup, dLst, dListOf, dListW, dTupOf, dIntOf, dIsi, isScr, tyName, scrOf, pName, pTup, psCons, psNil, Res.bind, noExc, ofOpt, patOut, loopOut, wipeR, lcTurn, eNL, noList, noListAll, eFlat, flatL, wSeq, wRange1, wRange2, wEnum, wRev, need_web_no h]
theorem shown_no {d : D} (h : F_is_web [d] = .ok (.bool false)) : F_shown [d] = .exc 0 := by
  simp [F_shown, b_shown, C1_shown, eM1, eLc, fnP, fnO, ins, retP, retO, sSeq, sIf, sAsg, sRet, sRetO, sSkip, sRetN, sRaise, sDrop, rOut, eOp, eUn, eVar, eC, rget, eArgs, aNil, aCons, eAnd, eOr, eNot, bOf, bNot, bAnd, bOr, bTru, dTru, bYes, eIf, eCall0, eCall, eChain, eSl, oNone, oSome, dSl, dAdd, dSub, dMod, dDiv, dNeg, dLt, dLtU, dLe, dGt, dGe, dIs, dIx, dIxI, d1, dLen1, dTup, dLst, dListOf, dListW, dTupOf, dIntOf, dIsi, isScr, tyName, scrOf, pName, pTup, psCons, psNil, Res.bind, noExc, ofOpt, patOut, loopOut, wipeR, lcTurn, eNL, noList, noListAll, eFlat, flatL, wSeq, wRange1, wRange2, wEnum, wRev, need_web_no h]
/-- rows of steps: a web if there are few enough -/
theorem is_web_rows {w : Web} (most : 1 ≤ w.length ∧ w.length ≤ 3) (steps : ∀ r ∈ w, ∀ s ∈ r, StpOk s) (short : ∀ r ∈ w, r.length ≤ 1000) : F_is_web [eWeb w] = .ok (.bool (decide ((w.map deeds).sum ≤ 8))) := by
  have hb : w.length ≤ big := by rw [bigv]; omega
  have e1 : eLc (wSeq (eVar 0)) (pName 1) bYes (eCall0 F__is_row (aCons (eVar 1) aNil)) [1] [.p (.list (w.map eRow)), .no] = .ok (.list (w.map fun _ => .bool true)) :=
    eLc_enc (f := eRow) (by simp [fnP, fnO, ins, retP, retO, sSeq, sIf, sAsg, sRet, sRetO, sSkip, sRetN, sRaise, sDrop, rOut, eOp, eUn, eVar, eC, rget, eArgs, aNil, aCons, eAnd, eOr, eNot, bOf, bNot, bAnd, bOr, bTru, dTru, bYes, eIf, eCall0, eCall, eChain, eSl, oNone, oSome, dSl, dAdd, dSub, dMod, dDiv, dNeg, dLt, dLtU, dLe, dGt, dGe, dIs, dIx, dIxI, d1, dLen1, dTup, dLst, dListOf, dListW, dTupOf, dIntOf, dIsi, isScr, tyName, scrOf, pName, pTup, psCons, psNil, Res.bind, noExc, ofOpt, patOut, loopOut, wipeR, lcTurn, eNL, noList, noListAll, eFlat, flatL, wSeq, wRange1, wRange2, wEnum, wRev]) (fun r hr => by simp [fnP, fnO, ins, retP, retO, sSeq, sIf, sAsg, sRet, sRetO, sSkip, sRetN, sRaise, sDrop, rOut, eOp, eUn, eVar, eC, rget, eArgs, aNil, aCons, eAnd, eOr, eNot, bOf, bNot, bAnd, bOr, bTru, dTru, bYes, eIf, eCall0, eCall, eChain, eSl, oNone, oSome, dSl, dAdd, dSub, dMod, dDiv, dNeg, dLt, dLtU, dLe, dGt, dGe, dIs, dIx, dIxI, d1, dLen1, dTup, dLst, dListOf, dListW, dTupOf, dIntOf, dIsi, isScr, tyName, scrOf, pName, pTup, psCons, psNil, Res.bind, noExc, ofOpt, patOut, loopOut, wipeR, lcTurn, eNL, noList, noListAll, eFlat, flatL, wSeq, wRange1, wRange2, wEnum, wRev, is_row_ok (steps r hr) (short r hr)]) hb
  have e3 : eLc (wSeq (eVar 0)) (pName 1) bYes (eCall0 F__puts_and_gets (aCons (eVar 1) aNil)) [1] [.p (.list (w.map eRow)), .no] = .ok (.list (w.map fun r => .int (deeds r : Nat))) :=
    eLc_enc (f := eRow) (by simp [fnP, fnO, ins, retP, retO, sSeq, sIf, sAsg, sRet, sRetO, sSkip, sRetN, sRaise, sDrop, rOut, eOp, eUn, eVar, eC, rget, eArgs, aNil, aCons, eAnd, eOr, eNot, bOf, bNot, bAnd, bOr, bTru, dTru, bYes, eIf, eCall0, eCall, eChain, eSl, oNone, oSome, dSl, dAdd, dSub, dMod, dDiv, dNeg, dLt, dLtU, dLe, dGt, dGe, dIs, dIx, dIxI, d1, dLen1, dTup, dLst, dListOf, dListW, dTupOf, dIntOf, dIsi, isScr, tyName, scrOf, pName, pTup, psCons, psNil, Res.bind, noExc, ofOpt, patOut, loopOut, wipeR, lcTurn, eNL, noList, noListAll, eFlat, flatL, wSeq, wRange1, wRange2, wEnum, wRev]) (fun r hr => by simp [fnP, fnO, ins, retP, retO, sSeq, sIf, sAsg, sRet, sRetO, sSkip, sRetN, sRaise, sDrop, rOut, eOp, eUn, eVar, eC, rget, eArgs, aNil, aCons, eAnd, eOr, eNot, bOf, bNot, bAnd, bOr, bTru, dTru, bYes, eIf, eCall0, eCall, eChain, eSl, oNone, oSome, dSl, dAdd, dSub, dMod, dDiv, dNeg, dLt, dLtU, dLe, dGt, dGe, dIs, dIx, dIxI, d1, dLen1, dTup, dLst, dListOf, dListW, dTupOf, dIntOf, dIsi, isScr, tyName, scrOf, pName, pTup, psCons, psNil, Res.bind, noExc, ofOpt, patOut, loopOut, wipeR, lcTurn, eNL, noList, noListAll, eFlat, flatL, wSeq, wRange1, wRange2, wEnum, wRev, puts_and_gets_ok (short r hr)]) hb
  rw [map_rep] at e1
  have e4 := sum_cast deeds w
  have h1 : (1 : Int) ≤ (w.length : Nat) := by omega
  have h3 : ((w.length : Nat) : Int) ≤ 3 := by omega
  have e5 : decide ((((w.map deeds).sum : Nat) : Int) ≤ 8) = decide ((w.map deeds).sum ≤ 8) := by
    by_cases c : (w.map deeds).sum ≤ 8
    · rw [decide_eq_true c, decide_eq_true (by omega)]
    · rw [decide_eq_false c, decide_eq_false (by omega)]
  generalize (w.map deeds).sum = n at e4 e5
  simp [F_is_web, b_is_web, C1_is_web, C2_is_web, eWeb, e1, e3, ints_map, e4, bools_rep, all_rep, fnP, fnO, ins, retP, retO, sSeq, sIf, sAsg, sRet, sRetO, sSkip, sRetN, sRaise, sDrop, rOut, eOp, eUn, eVar, eC, rget, eArgs, aNil, aCons, eAnd, eOr, eNot, bOf, bNot, bAnd, bOr, bTru, dTru, bYes, eIf, eCall0, eCall, eChain, eSl, oNone, oSome, dSl, dAdd, dSub, dMod, dDiv, dNeg, dLt, dLtU, dLe, dGt, dGe, dIs, dIx, dIxI, d1, dLen1, dTup, dLst, dListOf, dListW, dTupOf, dIntOf, dIsi, isScr, tyName, scrOf, pName, pTup, psCons, psNil, Res.bind, noExc, ofOpt, patOut, loopOut, wipeR, lcTurn, eNL, noList, noListAll, eFlat, flatL, wSeq, wRange1, wRange2, wEnum, wRev, kb_NoneType_int, kb_NoneType_bool, kb_NoneType_str, kb_NoneType_list, kb_NoneType_tuple, kb_bool_int, kb_bool_bool, kb_bool_str, kb_bool_list, kb_bool_tuple, kb_int_int, kb_int_bool, kb_int_str, kb_int_list, kb_int_tuple, kb_str_int, kb_str_bool, kb_str_str, kb_str_list, kb_str_tuple, kb_list_int, kb_list_bool, kb_list_str, kb_list_list, kb_list_tuple, kb_tuple_int, kb_tuple_bool, kb_tuple_str, kb_tuple_list, kb_tuple_tuple, kb_dict_int, kb_dict_bool, kb_dict_str, kb_dict_list, kb_dict_tuple, dAll, dSum, h1, h3, most]
  omega
/-- a row of it is none -/
theorem is_web_row {ds : List D} {q : D → Bool} (hq : ∀ d ∈ ds, F__is_row [d] = .ok (.bool (q d))) (hl : 1 ≤ ds.length ∧ ds.length ≤ 3) (hn : ds.all q = false) : F_is_web [.list ds] = .ok (.bool false) := by
  have e1 : C1_is_web [.p (.list ds), .no] = .ok (.list (ds.map fun d => .bool (q d))) :=
    eLc_enc (f := fun d => d) (by simp [fnP, fnO, ins, retP, retO, sSeq, sIf, sAsg, sRet, sRetO, sSkip, sRetN, sRaise, sDrop, rOut, eOp, eUn, eVar, eC, rget, eArgs, aNil, aCons, eAnd, eOr, eNot, bOf, bNot, bAnd, bOr, bTru, dTru, bYes, eIf, eCall0, eCall, eChain, eSl, oNone, oSome, dSl, dAdd, dSub, dMod, dDiv, dNeg, dLt, dLtU, dLe, dGt, dGe, dIs, dIx, dIxI, d1, dLen1, dTup, dLst, dListOf, dListW, dTupOf, dIntOf, dIsi, isScr, tyName, scrOf, pName, pTup, psCons, psNil, Res.bind, noExc, ofOpt, patOut, loopOut, wipeR, lcTurn, eNL, noList, noListAll, eFlat, flatL, wSeq, wRange1, wRange2, wEnum, wRev]) (fun p hp => by simp [fnP, fnO, ins, retP, retO, sSeq, sIf, sAsg, sRet, sRetO, sSkip, sRetN, sRaise, sDrop, rOut, eOp, eUn, eVar, eC, rget, eArgs, aNil, aCons, eAnd, eOr, eNot, bOf, bNot, bAnd, bOr, bTru, dTru, bYes, eIf, eCall0, eCall, eChain, eSl, oNone, oSome, dSl, dAdd, dSub, dMod, dDiv, dNeg, dLt, dLtU, dLe, dGt, dGe, dIs, dIx, dIxI, d1, dLen1, dTup, dLst, dListOf, dListW, dTupOf, dIntOf, dIsi, isScr, tyName, scrOf, pName, pTup, psCons, psNil, Res.bind, noExc, ofOpt, patOut, loopOut, wipeR, lcTurn, eNL, noList, noListAll, eFlat, flatL, wSeq, wRange1, wRange2, wEnum, wRev, hq p hp]) (by rw [bigv]; omega)
  have a : dAll (.list (ds.map fun d => .bool (q d))) = .ok (.bool false) := by
    show ((ofOpt (boolsOf (ds.map fun d => PyData.bool (q d)))).bind fun bs => Res.ok (PyData.bool (bs.all id))) = _
    rw [bools_of]
    show Res.ok (PyData.bool ((ds.map q).all id)) = _
    rw [List.all_map]
    have : ds.all (id ∘ q) = ds.all q := rfl
    rw [this, hn]
  have h1 : (1 : Int) ≤ (ds.length : Nat) := by omega
  have h3 : ((ds.length : Nat) : Int) ≤ 3 := by omega
  simp [F_is_web, b_is_web, e1, a, fnP, fnO, ins, retP, retO, sSeq, sIf, sAsg, sRet, sRetO, sSkip, sRetN, sRaise, sDrop, rOut, eOp, eUn, eVar, eC, rget, eArgs, aNil, aCons, eAnd, eOr, eNot, bOf, bNot, bAnd, bOr, bTru, dTru, bYes, eIf, eCall0, eCall, eChain, eSl, oNone, oSome, dSl, dAdd, dSub, dMod, dDiv, dNeg, dLt, dLtU, dLe, dGt, dGe, dIs, dIx, dIxI, d1, dLen1, dTup, dLst, dListOf, dListW, dTupOf, dIntOf, dIsi, isScr, tyName, scrOf, pName, pTup, psCons, psNil, Res.bind, noExc, ofOpt, patOut, loopOut, wipeR, lcTurn, eNL, noList, noListAll, eFlat, flatL, wSeq, wRange1, wRange2, wEnum, wRev, kb_NoneType_int, kb_NoneType_bool, kb_NoneType_str, kb_NoneType_list, kb_NoneType_tuple, kb_bool_int, kb_bool_bool, kb_bool_str, kb_bool_list, kb_bool_tuple, kb_int_int, kb_int_bool, kb_int_str, kb_int_list, kb_int_tuple, kb_str_int, kb_str_bool, kb_str_str, kb_str_list, kb_str_tuple, kb_list_int, kb_list_bool, kb_list_str, kb_list_list, kb_list_tuple, kb_tuple_int, kb_tuple_bool, kb_tuple_str, kb_tuple_list, kb_tuple_tuple, kb_dict_int, kb_dict_bool, kb_dict_str, kb_dict_list, kb_dict_tuple, h1, h3, hl]
theorem is_row_step {ds : List D} {q : D → Bool} (hq : ∀ d ∈ ds, F__is_step [d] = .ok (.bool (q d))) (hl : ds.length ≤ 1000) (hn : ds.all q = false) : F__is_row [.list ds] = .ok (.bool false) := by
  have e1 : C1__is_row [.p (.list ds), .no] = .ok (.list (ds.map fun d => .bool (q d))) :=
    eLc_enc (f := fun d => d) (by simp [fnP, fnO, ins, retP, retO, sSeq, sIf, sAsg, sRet, sRetO, sSkip, sRetN, sRaise, sDrop, rOut, eOp, eUn, eVar, eC, rget, eArgs, aNil, aCons, eAnd, eOr, eNot, bOf, bNot, bAnd, bOr, bTru, dTru, bYes, eIf, eCall0, eCall, eChain, eSl, oNone, oSome, dSl, dAdd, dSub, dMod, dDiv, dNeg, dLt, dLtU, dLe, dGt, dGe, dIs, dIx, dIxI, d1, dLen1, dTup, dLst, dListOf, dListW, dTupOf, dIntOf, dIsi, isScr, tyName, scrOf, pName, pTup, psCons, psNil, Res.bind, noExc, ofOpt, patOut, loopOut, wipeR, lcTurn, eNL, noList, noListAll, eFlat, flatL, wSeq, wRange1, wRange2, wEnum, wRev]) (fun p hp => by simp [fnP, fnO, ins, retP, retO, sSeq, sIf, sAsg, sRet, sRetO, sSkip, sRetN, sRaise, sDrop, rOut, eOp, eUn, eVar, eC, rget, eArgs, aNil, aCons, eAnd, eOr, eNot, bOf, bNot, bAnd, bOr, bTru, dTru, bYes, eIf, eCall0, eCall, eChain, eSl, oNone, oSome, dSl, dAdd, dSub, dMod, dDiv, dNeg, dLt, dLtU, dLe, dGt, dGe, dIs, dIx, dIxI, d1, dLen1, dTup, dLst, dListOf, dListW, dTupOf, dIntOf, dIsi, isScr, tyName, scrOf, pName, pTup, psCons, psNil, Res.bind, noExc, ofOpt, patOut, loopOut, wipeR, lcTurn, eNL, noList, noListAll, eFlat, flatL, wSeq, wRange1, wRange2, wEnum, wRev, hq p hp]) (by rw [bigv]; omega)
  have a : dAll (.list (ds.map fun d => .bool (q d))) = .ok (.bool false) := by
    show ((ofOpt (boolsOf (ds.map fun d => PyData.bool (q d)))).bind fun bs => Res.ok (PyData.bool (bs.all id))) = _
    rw [bools_of]
    show Res.ok (PyData.bool ((ds.map q).all id)) = _
    rw [List.all_map]
    have : ds.all (id ∘ q) = ds.all q := rfl
    rw [this, hn]
  simp [F__is_row, b__is_row, e1, a, fnP, fnO, ins, retP, retO, sSeq, sIf, sAsg, sRet, sRetO, sSkip, sRetN, sRaise, sDrop, rOut, eOp, eUn, eVar, eC, rget, eArgs, aNil, aCons, eAnd, eOr, eNot, bOf, bNot, bAnd, bOr, bTru, dTru, bYes, eIf, eCall0, eCall, eChain, eSl, oNone, oSome, dSl, dAdd, dSub, dMod, dDiv, dNeg, dLt, dLtU, dLe, dGt, dGe, dIs, dIx, dIxI, d1, dLen1, dTup, dLst, dListOf, dListW, dTupOf, dIntOf, dIsi, isScr, tyName, scrOf, pName, pTup, psCons, psNil, Res.bind, noExc, ofOpt, patOut, loopOut, wipeR, lcTurn, eNL, noList, noListAll, eFlat, flatL, wSeq, wRange1, wRange2, wEnum, wRev, kb_NoneType_int, kb_NoneType_bool, kb_NoneType_str, kb_NoneType_list, kb_NoneType_tuple, kb_bool_int, kb_bool_bool, kb_bool_str, kb_bool_list, kb_bool_tuple, kb_int_int, kb_int_bool, kb_int_str, kb_int_list, kb_int_tuple, kb_str_int, kb_str_bool, kb_str_str, kb_str_list, kb_str_tuple, kb_list_int, kb_list_bool, kb_list_str, kb_list_list, kb_list_tuple, kb_tuple_int, kb_tuple_bool, kb_tuple_str, kb_tuple_list, kb_tuple_tuple, kb_dict_int, kb_dict_bool, kb_dict_str, kb_dict_list, kb_dict_tuple]
end Pg

set_option Elab.async false
set_option linter.all false
set_option maxRecDepth 100000
set_option maxHeartbeats 4000000
namespace Pg
open PySem PySem.Spec PyProof.Rows L2 Fw TL
/-! ### texts of plain signs -/
def Fine (x : Str) : Prop := ∀ c ∈ tl x, c < 128
theorem Fine.ok {x : Str} (h : Fine x) : PyData.strOk x = true := by
  unfold PyData.strOk
  rw [← Array.all_toList, List.all_eq_true]
  intro c hc
  have := h c hc
  exact decide_eq_true (by omega)
theorem Fine.app {x y : Str} (h : Fine x) (h2 : Fine y) : Fine (x ++ y) := fun c hc => by
  rw [tl_append] at hc
  rcases List.mem_append.mp hc with z | z
  · exact h c z
  · exact h2 c z
theorem fine_lit {s : String} (h : (s.toList.all fun c => decide (c.toNat < 128)) = true) : Fine (Str.ofString s) := fun c hc => by
  rw [tl_ofString] at hc
  obtain ⟨d, hd, rfl⟩ := List.mem_map.mp hc
  exact of_decide_eq_true (List.all_eq_true.mp h d hd)
theorem len_app (x y : Str) : (x ++ y).length = x.length + y.length := Array.size_append
theorem eq_tl {x y : Str} : (x == y) = decide (tl x = tl y) := by
  by_cases h : tl x = tl y
  · have e := ext_tl h
    subst e
    simp
  · have : x ≠ y := fun z => h (by rw [z])
    simp [h, this]
/-! ### numbers -/
def figs (cs : List Nat) : List Nat := if cs.head? = some 45 then cs.tail else cs
def isFig (c : Nat) : Bool := decide (48 ≤ c ∧ c ≤ 57)
def numOk (cs : List Nat) : Bool := decide (1 ≤ (figs cs).length ∧ (figs cs).length ≤ 30) && (figs cs).all isFig && !(decide ((figs cs).head? = some 48) && !decide (cs = [48]))
def numVal (cs : List Nat) : Int := if cs.head? = some 45 then -((NumText.digitsVal (figs cs) : Nat) : Int) else ((NumText.digitsVal (figs cs) : Nat) : Int)
theorem figs_len (cs : List Nat) : cs.length ≤ (figs cs).length + 1 := by
  unfold figs
  split
  · rw [List.length_tail]; omega
  · omega
theorem int_of {x : Str} (h : numOk (tl x) = true) : intText? x = some (numVal (tl x)) ∧ x.length ≤ 640 := by
  unfold numOk at h
  simp only [Bool.and_eq_true, decide_eq_true_eq] at h
  obtain ⟨⟨⟨h1, h2⟩, h3⟩, _⟩ := h
  have fl := figs_len (tl x)
  have xl := len_tl x
  have ad : NumText.AllDigits (figs (tl x)) := fun c hc => of_decide_eq_true (List.all_eq_true.mp h3 c hc)
  have ne : figs (tl x) ≠ [] := fun z => by rw [z] at h1; exact absurd h1 (by decide)
  refine ⟨?_, by omega⟩
  by_cases c : (tl x).head? = some 45
  · have e : figs (tl x) = (tl x).tail := if_pos c
    have e2 : tl x = 45 :: (tl x).tail := by
      cases q : tl x with
      | nil => rw [q] at c; cases c
      | cons a l =>
        rw [q] at c
        rw [Option.some.inj c]
        rfl
    have v : numVal (tl x) = -((NumText.digitsVal (figs (tl x)) : Nat) : Int) := if_pos c
    rw [v, e]
    rw [e] at ad ne
    exact intText_neg (show x.cps.toList = 45 :: (tl x).tail from e2) ad ne (by omega)
  · have e : figs (tl x) = tl x := if_neg c
    have v : numVal (tl x) = ((NumText.digitsVal (figs (tl x)) : Nat) : Int) := if_neg c
    rw [v, e]
    rw [e] at ad ne
    exact intText_digits ad ne (by omega)
def oI : Option Int → D
  | none => .none
  | some n => .int n
def nOf (cs : List Nat) : Option Int := if numOk cs = true then some (numVal cs) else none
def FIG : Str := "0123456789"
theorem fig_in (c : Nat) : decide (c ∈ (FIG.cps.toList)) = isFig c := by
  have e : FIG.cps.toList = [48, 49, 50, 51, 52, 53, 54, 55, 56, 57] := by decide +kernel
  rw [e]
  unfold isFig
  by_cases h : 48 ≤ c ∧ c ≤ 57
  · rw [decide_eq_true h]
    have : c = 48 ∨ c = 49 ∨ c = 50 ∨ c = 51 ∨ c = 52 ∨ c = 53 ∨ c = 54 ∨ c = 55 ∨ c = 56 ∨ c = 57 := by omega
    rcases this with rfl | rfl | rfl | rfl | rfl | rfl | rfl | rfl | rfl | rfl <;> decide
  · rw [decide_eq_false h, decide_eq_false (by simp; omega)]
theorem sub0 {x y : Str} (hy : tl y ≠ []) : (decide (0 + y.length ≤ x.length) && Builtin.Str.subAt x y 0) = pre (tl y) (tl x) := by
  have a := at_iff (x := x) (y := y) hy 0
  rw [List.drop_zero] at a
  have b : StrLaws.At x y x.length 0 ↔ (decide (0 + y.length ≤ x.length) && Builtin.Str.subAt x y 0) = true := by
    rw [Bool.and_eq_true, decide_eq_true_eq]
    exact Iff.rfl
  cases h1 : (decide (0 + y.length ≤ x.length) && Builtin.Str.subAt x y 0) <;> cases h2 : pre (tl y) (tl x)
  · rfl
  · exact absurd (b.mp (a.mpr h2)) (by rw [h1]; decide)
  · exact absurd (a.mp (b.mpr h1)) (by rw [h2]; decide)
  · rfl
theorem pre_one (a : Nat) (l : List Nat) : pre [a] l = decide (l.head? = some a) := by
  cases l with
  | nil => rfl
  | cons b l =>
    show ([b] == [a]) = _
    by_cases h : b = a
    · subst h
      simp
    · have : ¬ ([b] = [a]) := fun z => h (by injection z)
      simp [h]
theorem rem_dash (x : Str) : tl (Txt.removeprefix x "-") = figs (tl x) := by
  have d : tl ("-" : Str) = [45] := by decide +kernel
  have dl : ("-" : Str).length = 1 := by decide +kernel
  have nd : tl ("-" : Str) ≠ [] := by rw [d]; simp
  rw [StrLaws.removeprefix_eq, sub0 nd, d, pre_one, dl]
  unfold figs
  by_cases h : (tl x).head? = some 45
  · rw [if_pos (decide_eq_true h), if_pos h]
    show ((tl x).drop 1).take (x.length - 1) = (tl x).tail
    rw [List.drop_one]
    refine List.take_of_length_le ?_
    rw [List.length_tail, len_tl]
    exact Nat.le_refl _
  · rw [if_neg (by rw [decide_eq_false h]; decide), if_neg h]
theorem starts_0 (x : Str) : Txt.startswith x "0" = decide ((tl x).head? = some 48) := by
  have d : tl ("0" : Str) = [48] := by decide +kernel
  have nd : tl ("0" : Str) ≠ [] := by rw [d]; simp
  have e := sub0 (x := x) nd
  rw [d, pre_one] at e
  exact e
theorem so_0 : PyData.strOk "0" = true := by decide +kernel
theorem so_dash : PyData.strOk "-" = true := by decide +kernel
theorem tl_0 : tl ("0" : Str) = [48] := by decide +kernel
theorem figs_fine {x y : Str} (h : Fine x) (e : tl y = figs (tl x)) : Fine y := fun c hc => by
  rw [e] at hc
  unfold figs at hc
  split at hc
  · exact h c (List.mem_of_mem_tail hc)
  · exact h c hc
theorem boolsOf_map (l : List Bool) : boolsOf (l.map PyData.bool) = some l := by
  have := bools_of (fun b : Bool => b) l
  rw [List.map_id'] at this
  exact this
theorem read_number_ok (x : Str) (hx : Fine x) (hl : x.length ≤ 100000) : F__read_number [.str x] = .ok (oI (nOf (tl x))) := by
  have rd := rem_dash x
  have n1 : sAsg (pName 1) (eM1 dRemp (eVar 0) (eC (.str "-"))) [.p (.str x), .no, .no] = .nx [.p (.str x), .p (.str (Txt.removeprefix x "-")), .no] := sAsg_nm (by
    have b : x.length ≤ 16000000 := by omega
    simp [eM1, dRemp, fnP, fnO, ins, retP, retO, sSeq, sIf, sAsg, sRet, sRetO, sSkip, sRetN, sRaise, sDrop, rOut, eOp, eUn, eVar, eC, rget, eArgs, aNil, aCons, eAnd, eOr, eNot, bOf, bNot, bAnd, bOr, bTru, dTru, bYes, eIf, eCall0, eCall, eChain, eSl, oNone, oSome, dSl, dAdd, dSub, dMod, dDiv, dNeg, dLt, dLtU, dLe, dGt, dGe, dIs, dIx, dIxI, d1, dLen1, dTup, dLst, dListOf, dListW, dTupOf, dIntOf, dIsi, isScr, tyName, scrOf, pName, pTup, psCons, psNil, Res.bind, noExc, ofOpt, patOut, loopOut, wipeR, lcTurn, eNL, noList, noListAll, eFlat, flatL, wSeq, wRange1, wRange2, wEnum, wRev, bigv, b])
  have xl := len_tl x
  have fl : (Txt.removeprefix x "-").length = (figs (tl x)).length := by rw [len_tl, rd]
  have fl2 : (figs (tl x)).length ≤ x.length := by
    rw [xl]
    unfold figs
    split
    · rw [List.length_tail]; omega
    · omega
  generalize Txt.removeprefix x "-" = y at n1 rd fl
  have e1 : C1__read_number [.p (.str x), .p (.str y), .no] = .ok (.list ((tl y).map fun c => .bool (isFig c))) := by
    refine eLc_enc (f := fun c => PyData.str ⟨#[c]⟩) (l := tl y) (by simp [wStr, Fw.signs, fnP, fnO, ins, retP, retO, sSeq, sIf, sAsg, sRet, sRetO, sSkip, sRetN, sRaise, sDrop, rOut, eOp, eUn, eVar, eC, rget, eArgs, aNil, aCons, eAnd, eOr, eNot, bOf, bNot, bAnd, bOr, bTru, dTru, bYes, eIf, eCall0, eCall, eChain, eSl, oNone, oSome, dSl, dAdd, dSub, dMod, dDiv, dNeg, dLt, dLtU, dLe, dGt, dGe, dIs, dIx, dIxI, d1, dLen1, dTup, dLst, dListOf, dListW, dTupOf, dIntOf, dIsi, isScr, tyName, scrOf, pName, pTup, psCons, psNil, Res.bind, noExc, ofOpt, patOut, loopOut, wipeR, lcTurn, eNL, noList, noListAll, eFlat, flatL, wSeq, wRange1, wRange2, wEnum, wRev]) (fun c hc => ?_) (by rw [bigv, ← len_tl]; omega)
    have q : dIn false (.str ⟨#[c]⟩) (.str FIG) = .ok (.bool (isFig c)) := by
      rw [← fig_in c]
      show Res.ok (PyData.bool (decide (c ∈ FIG.cps.toList) != false)) = _
      rw [Bool.bne_false]
    simp [lcTurn, pName, wipeR, bYes, eOp, eVar, eC, rget, Res.bind]
    rw [show dIn false (.str ⟨#[c]⟩) d__FIGURES = _ from q]
  have e2 : eArgs (d1 dAll) (aCons C1__read_number aNil) [.p (.str x), .p (.str y), .no] = .ok (.bool ((tl y).all isFig)) := by
    rw [eArgs1 e1]
    show ((ofOpt (boolsOf ((tl y).map fun c => PyData.bool (isFig c)))).bind fun bs => Res.ok (PyData.bool (bs.all id))) = _
    rw [bools_of]
    show Res.ok (PyData.bool (((tl y).map isFig).all id)) = _
    rw [List.all_map]
    rfl
  have b1 : y.length ≤ 16000000 := by omega
  have c1 : (bOr (bNot (bOf (eChain dLe dLe (eC (.int 1)) (eArgs (d1 dLen1) (aCons (eVar 1) aNil)) (eC d__MOST_FIGURES)))) (bNot (bTru (eArgs (d1 dAll) (aCons C1__read_number aNil))))) [.p (.str x), .p (.str y), .no] = .ok (!(decide (1 ≤ (figs (tl x)).length ∧ (figs (tl x)).length ≤ 30) && (figs (tl x)).all isFig)) := by
    have a1 : bOf (eChain dLe dLe (eC (.int 1)) (eArgs (d1 dLen1) (aCons (eVar 1) aNil)) (eC d__MOST_FIGURES)) [.p (.str x), .p (.str y), .no] = .ok (decide (1 ≤ (figs (tl x)).length ∧ (figs (tl x)).length ≤ 30)) := by
      rw [← fl]
      by_cases h1 : 1 ≤ y.length
      · have h1' : (1 : Int) ≤ (y.length : Nat) := by omega
        by_cases h2 : y.length ≤ 30
        · have h2' : ((y.length : Nat) : Int) ≤ 30 := by omega
          simp [fnP, fnO, ins, retP, retO, sSeq, sIf, sAsg, sRet, sRetO, sSkip, sRetN, sRaise, sDrop, rOut, eOp, eUn, eVar, eC, rget, eArgs, aNil, aCons, eAnd, eOr, eNot, bOf, bNot, bAnd, bOr, bTru, dTru, bYes, eIf, eCall0, eCall, eChain, eSl, oNone, oSome, dSl, dAdd, dSub, dMod, dDiv, dNeg, dLt, dLtU, dLe, dGt, dGe, dIs, dIx, dIxI, d1, dLen1, dTup, dLst, dListOf, dListW, dTupOf, dIntOf, dIsi, isScr, tyName, scrOf, pName, pTup, psCons, psNil, Res.bind, noExc, ofOpt, patOut, loopOut, wipeR, lcTurn, eNL, noList, noListAll, eFlat, flatL, wSeq, wRange1, wRange2, wEnum, wRev, bigv, b1, h1, h1', h2, h2']
        · have h2' : ¬ (((y.length : Nat) : Int) ≤ 30) := by omega
          simp [fnP, fnO, ins, retP, retO, sSeq, sIf, sAsg, sRet, sRetO, sSkip, sRetN, sRaise, sDrop, rOut, eOp, eUn, eVar, eC, rget, eArgs, aNil, aCons, eAnd, eOr, eNot, bOf, bNot, bAnd, bOr, bTru, dTru, bYes, eIf, eCall0, eCall, eChain, eSl, oNone, oSome, dSl, dAdd, dSub, dMod, dDiv, dNeg, dLt, dLtU, dLe, dGt, dGe, dIs, dIx, dIxI, d1, dLen1, dTup, dLst, dListOf, dListW, dTupOf, dIntOf, dIsi, isScr, tyName, scrOf, pName, pTup, psCons, psNil, Res.bind, noExc, ofOpt, patOut, loopOut, wipeR, lcTurn, eNL, noList, noListAll, eFlat, flatL, wSeq, wRange1, wRange2, wEnum, wRev, bigv, b1, h1, h1', h2, h2']
      · have h1' : ¬ ((1 : Int) ≤ (y.length : Nat)) := by omega
        simp [fnP, fnO, ins, retP, retO, sSeq, sIf, sAsg, sRet, sRetO, sSkip, sRetN, sRaise, sDrop, rOut, eOp, eUn, eVar, eC, rget, eArgs, aNil, aCons, eAnd, eOr, eNot, bOf, bNot, bAnd, bOr, bTru, dTru, bYes, eIf, eCall0, eCall, eChain, eSl, oNone, oSome, dSl, dAdd, dSub, dMod, dDiv, dNeg, dLt, dLtU, dLe, dGt, dGe, dIs, dIx, dIxI, d1, dLen1, dTup, dLst, dListOf, dListW, dTupOf, dIntOf, dIsi, isScr, tyName, scrOf, pName, pTup, psCons, psNil, Res.bind, noExc, ofOpt, patOut, loopOut, wipeR, lcTurn, eNL, noList, noListAll, eFlat, flatL, wSeq, wRange1, wRange2, wEnum, wRev, bigv, b1, h1, h1']
    unfold bOr bNot bTru
    rw [a1, e2, rd]
    cases decide (1 ≤ (figs (tl x)).length ∧ (figs (tl x)).length ≤ 30) <;> cases (figs (tl x)).all isFig <;> rfl
  have c2 : (bAnd (bTru (eM1 dStartsw (eVar 1) (eC (.str "0")))) (bOf (eOp dNe (eVar 0) (eC (.str "0"))))) [.p (.str x), .p (.str y), .no] = .ok (decide ((figs (tl x)).head? = some 48) && !decide (tl x = [48])) := by
    have s0 := starts_0 y
    rw [rd] at s0
    have ne := dNe_str hx.ok so_0
    rw [eq_tl, tl_0] at ne
    have a1 : bTru (eM1 dStartsw (eVar 1) (eC (.str "0"))) [.p (.str x), .p (.str y), .no] = .ok (decide ((figs (tl x)).head? = some 48)) := by
      unfold bTru eM1
      show ((Res.ok (PyData.bool (Txt.startswith y "0"))).bind _) = _
      rw [s0]
      rfl
    have a2 : bOf (eOp dNe (eVar 0) (eC (.str "0"))) [.p (.str x), .p (.str y), .no] = .ok (!decide (tl x = [48])) := by
      unfold bOf
      rw [(eOp_ok rfl rfl).trans ne]
      rfl
    unfold bAnd
    rw [a1, a2]
    cases decide ((figs (tl x)).head? = some 48) <;> rfl
  show noExc (retP (b__read_number [.p (.str x), .no, .no])) = _
  unfold b__read_number nOf
  rw [sSeq_nx n1]
  cases q1 : decide (1 ≤ (figs (tl x)).length ∧ (figs (tl x)).length ≤ 30) && (figs (tl x)).all isFig with
  | false =>
    rw [q1] at c1
    have no : numOk (tl x) = false := by unfold numOk; rw [q1]; rfl
    rw [sIf_retC c1, no, if_neg (by decide)]
    rfl
  | true =>
    rw [q1] at c1
    rw [sSeq_nx (sIf_skip c1)]
    cases q2 : decide ((figs (tl x)).head? = some 48) && !decide (tl x = [48]) with
    | true =>
      rw [q2] at c2
      have no : numOk (tl x) = false := by unfold numOk; rw [q1, q2]; rfl
      rw [sIf_retC c2, no, if_neg (by decide)]
      rfl
    | false =>
      rw [q2] at c2
      have no : numOk (tl x) = true := by unfold numOk; rw [q1, q2]; rfl
      obtain ⟨i1, i2⟩ := int_of no
      rw [sSeq_nx (sIf_skip c2), no, if_pos rfl, sRet_ok (d := .int (numVal (tl x))) (by simp [fnP, fnO, ins, retP, retO, sSeq, sIf, sAsg, sRet, sRetO, sSkip, sRetN, sRaise, sDrop, rOut, eOp, eUn, eVar, eC, rget, eArgs, aNil, aCons, eAnd, eOr, eNot, bOf, bNot, bAnd, bOr, bTru, dTru, bYes, eIf, eCall0, eCall, eChain, eSl, oNone, oSome, dSl, dAdd, dSub, dMod, dDiv, dNeg, dLt, dLtU, dLe, dGt, dGe, dIs, dIx, dIxI, d1, dLen1, dTup, dLst, dListOf, dListW, dTupOf, dIntOf, dIsi, isScr, tyName, scrOf, pName, pTup, psCons, psNil, Res.bind, noExc, ofOpt, patOut, loopOut, wipeR, lcTurn, eNL, noList, noListAll, eFlat, flatL, wSeq, wRange1, wRange2, wEnum, wRev, dIntT, i1, i2])]
      rfl
end Pg

set_option Elab.async false
set_option linter.all false
set_option maxRecDepth 100000
set_option maxHeartbeats 4000000
namespace Pg
open PySem PySem.Spec PyProof.Rows L2 Fw TL
/-! ### texts split -/
theorem spl_mem (S : List Nat) : ∀ (l : List Nat) (k : Nat) (acc : List Nat), ∀ p ∈ spl S k acc l, (∀ c ∈ p, c ∈ acc ∨ c ∈ l) ∧ p.length ≤ acc.length + l.length
  | [], k, acc, p, hp => by
    have : p = acc := by
      cases k <;> simpa [spl] using hp
    subst this
    exact ⟨fun c hc => .inl hc, by simp⟩
  | c :: r, 0, acc, p, hp => by
    unfold spl at hp
    split at hp
    · rcases List.mem_cons.mp hp with rfl | hp
      · exact ⟨fun c hc => .inl hc, by simp⟩
      · obtain ⟨h1, h2⟩ := spl_mem S r _ _ p hp
        refine ⟨fun d hd => ?_, by simp at h2 ⊢; omega⟩
        rcases h1 d hd with z | z
        · cases z
        · exact .inr (List.mem_cons_of_mem _ z)
    · obtain ⟨h1, h2⟩ := spl_mem S r _ _ p hp
      refine ⟨fun d hd => ?_, by simp at h2 ⊢; omega⟩
      rcases h1 d hd with z | z
      · rcases List.mem_append.mp z with y | y
        · exact .inl y
        · rw [List.mem_singleton.mp y]
          exact .inr List.mem_cons_self
      · exact .inr (List.mem_cons_of_mem _ z)
  | c :: r, k + 1, acc, p, hp => by
    have hp : p ∈ spl S k acc r := hp
    obtain ⟨h1, h2⟩ := spl_mem S r _ _ p hp
    refine ⟨fun d hd => ?_, by simp at h2 ⊢; omega⟩
    rcases h1 d hd with z | z
    · exact .inl z
    · exact .inr (List.mem_cons_of_mem _ z)
theorem spl_len (S : List Nat) : ∀ (l : List Nat) (k : Nat) (acc : List Nat), 1 ≤ (spl S k acc l).length ∧ (spl S k acc l).length ≤ l.length + 1
  | [], k, acc => by cases k <;> simp [spl]
  | c :: r, 0, acc => by
    unfold spl
    split
    · have := spl_len S r (S.length - 1) []
      simp
      omega
    · have := spl_len S r 0 (acc ++ [c])
      simp
      omega
  | c :: r, k + 1, acc => by
    have := spl_len S r k acc
    show 1 ≤ (spl S k acc r).length ∧ (spl S k acc r).length ≤ _
    simp
    omega
structure Sep (y : Str) : Prop where
  ne : tl y ≠ []
  k : y.cps.all (· < 256) = true
theorem split_ok {x y : Str} (h : Sep y) (fx : Fine x) : (∀ p ∈ Txt.split x y, Fine p ∧ p.length ≤ x.length) ∧ 1 ≤ (Txt.split x y).length ∧ (Txt.split x y).length ≤ x.length + 1 := by
  have e := split_spl x y h.ne (kind_ok h.k)
  refine ⟨fun p hp => ?_, ?_⟩
  · have : tl p ∈ spl (tl y) 0 [] (tl x) := by rw [← e]; exact List.mem_map_of_mem hp
    obtain ⟨h1, h2⟩ := spl_mem _ _ _ _ _ this
    refine ⟨fun c hc => ?_, ?_⟩
    · rcases h1 c hc with z | z
      · cases z
      · exact fx c z
    · rw [len_tl, len_tl]
      simpa using h2
  · have := spl_len (tl y) (tl x) 0 []
    rw [← e, List.length_map, ← len_tl] at this
    exact this
theorem sep_w : Sep " " := ⟨by decide +kernel, by decide +kernel⟩
theorem sep_s : Sep "; " := ⟨by decide +kernel, by decide +kernel⟩
theorem sep_r : Sep " | " := ⟨by decide +kernel, by decide +kernel⟩
theorem ln_w : ((" " : Str).length == 0) = false := by decide +kernel
theorem ln_s : (("; " : Str).length == 0) = false := by decide +kernel
theorem ln_r : ((" | " : Str).length == 0) = false := by decide +kernel
theorem dSplit_ok {x y : Str} (h : (y.length == 0) = false) (hl : x.length ≤ 100000) : dSplit x (.str y) = .ok (.list ((Txt.split x y).map PyData.str)) := if_pos ⟨h, by rw [bigv]; omega⟩
/-! ### a step, read -/
theorem val_snoc (cs : List Nat) (c : Nat) : NumText.digitsVal (cs ++ [c]) = NumText.digitsVal cs * 10 + (c - 48) := by
  unfold NumText.digitsVal
  rw [List.foldl_append]
  rfl
theorem val_lt : ∀ (n : Nat) (cs : List Nat), cs.length = n → (∀ c ∈ cs, c ≤ 57) → NumText.digitsVal cs < 10 ^ n
  | 0, cs, hl, _ => by
    have : cs = [] := List.length_eq_zero_iff.mp hl
    subst this
    decide
  | n + 1, cs, hl, h => by
    rcases List.eq_nil_or_concat cs with rfl | ⟨r, c, rfl⟩
    · cases hl
    · rw [List.concat_eq_append] at hl h ⊢
      have hl' : r.length = n := by rw [List.length_append, List.length_singleton] at hl; omega
      have ih := val_lt n r hl' fun d hd => h d (List.mem_append_left _ hd)
      have hc := h c (List.mem_append_right _ (List.mem_singleton.mpr rfl))
      rw [val_snoc, Nat.pow_succ]
      omega
theorem num_bd {cs : List Nat} {n : Int} (h : nOf cs = some n) : -1000000000000000000000000000000 < n ∧ n < 1000000000000000000000000000000 := by
  unfold nOf at h
  split at h
  · rename_i ok
    have e := Option.some.inj h
    unfold numOk at ok
    simp only [Bool.and_eq_true, decide_eq_true_eq] at ok
    obtain ⟨⟨⟨h1, h2⟩, h3⟩, _⟩ := ok
    have lt := val_lt _ (figs cs) rfl fun c hc => (of_decide_eq_true (List.all_eq_true.mp h3 c hc)).2
    have p : (10 : Nat) ^ (figs cs).length ≤ 10 ^ 30 := Nat.pow_le_pow_right (by decide) h2
    have p2 : (10 : Nat) ^ 30 = 1000000000000000000000000000000 := by decide
    rw [← e]
    unfold numVal
    split <;> omega
  · cases h
def boxOf : Option Int → Option Nat
  | some n => if 0 ≤ n ∧ n < 4 then some n.toNat else none
  | none => none
def stepOf : List Str → Option Stp
  | [a] => if (a == "fence") = true then some .fence else none
  | [a, b] => if (a == "get") = true then (boxOf (nOf (tl b))).map Stp.get else none
  | [a, b, c] => if (a == "put") = true then (match boxOf (nOf (tl b)), nOf (tl c) with | some x, some v => some (.put x v) | _, _ => none) else none
  | _ => none
def rdStep : List Str → D
  | [] => .tuple []
  | a :: ws => .tuple (.str a :: ws.map fun w => oI (nOf (tl w)))
theorem read_step_ok (x : Str) (hx : Fine x) (hl : x.length ≤ 100000) : F__read_step [.str x] = .ok (rdStep (Txt.split x " ")) := by
  obtain ⟨h1, h2, h3⟩ := split_ok sep_w hx
  have ds := dSplit_ok ln_w hl
  have n1 : sAsg (pName 1) (eM1 dSplit (eVar 0) (eC (.str " "))) [.p (.str x), .no, .no] = .nx [.p (.str x), .p (.list ((Txt.split x " ").map PyData.str)), .no] := sAsg_nm (by simp [eM1, fnP, fnO, ins, retP, retO, sSeq, sIf, sAsg, sRet, sRetO, sSkip, sRetN, sRaise, sDrop, rOut, eOp, eUn, eVar, eC, rget, eArgs, aNil, aCons, eAnd, eOr, eNot, bOf, bNot, bAnd, bOr, bTru, dTru, bYes, eIf, eCall0, eCall, eChain, eSl, oNone, oSome, dSl, dAdd, dSub, dMod, dDiv, dNeg, dLt, dLtU, dLe, dGt, dGe, dIs, dIx, dIxI, d1, dLen1, dTup, dLst, dListOf, dListW, dTupOf, dIntOf, dIsi, isScr, tyName, scrOf, pName, pTup, psCons, psNil, Res.bind, noExc, ofOpt, patOut, loopOut, wipeR, lcTurn, eNL, noList, noListAll, eFlat, flatL, wSeq, wRange1, wRange2, wEnum, wRev, ds])
  generalize Txt.split x " " = W at h1 h2 h3 n1 ⊢
  cases W with
  | nil => exact absurd h2 (by decide)
  | cons a ws =>
    have t1 := cut_take ((a :: ws).map PyData.str) 1 (by simp)
    have t2 := cut_drop ((a :: ws).map PyData.str) 1 (by simp)
    have s1 : eSl (eVar 1) oNone (oSome (eC (.int 1))) [.p (.str x), .p (.list ((a :: ws).map PyData.str)), .no] = .ok (.list [.str a]) := by
      have : Fw.cutD ((a :: ws).map PyData.str) none (some 1) = [PyData.str a] := t1
      simp [fnP, fnO, ins, retP, retO, sSeq, sIf, sAsg, sRet, sRetO, sSkip, sRetN, sRaise, sDrop, rOut, eOp, eUn, eVar, eC, rget, eArgs, aNil, aCons, eAnd, eOr, eNot, bOf, bNot, bAnd, bOr, bTru, dTru, bYes, eIf, eCall0, eCall, eChain, eSl, oNone, oSome, dSl, dAdd, dSub, dMod, dDiv, dNeg, dLt, dLtU, dLe, dGt, dGe, dIs, dIx, dIxI, d1, dLen1, dTup, dLst, dListOf, dListW, dTupOf, dIntOf, dIsi, isScr, tyName, scrOf, pName, pTup, psCons, psNil, Res.bind, noExc, ofOpt, patOut, loopOut, wipeR, lcTurn, eNL, noList, noListAll, eFlat, flatL, wSeq, wRange1, wRange2, wEnum, wRev]
      simpa using this
    have s2 : eSl (eVar 1) (oSome (eC (.int 1))) oNone [.p (.str x), .p (.list ((a :: ws).map PyData.str)), .no] = .ok (.list (ws.map PyData.str)) := by
      have : Fw.cutD ((a :: ws).map PyData.str) (some 1) none = ws.map PyData.str := t2
      simp [fnP, fnO, ins, retP, retO, sSeq, sIf, sAsg, sRet, sRetO, sSkip, sRetN, sRaise, sDrop, rOut, eOp, eUn, eVar, eC, rget, eArgs, aNil, aCons, eAnd, eOr, eNot, bOf, bNot, bAnd, bOr, bTru, dTru, bYes, eIf, eCall0, eCall, eChain, eSl, oNone, oSome, dSl, dAdd, dSub, dMod, dDiv, dNeg, dLt, dLtU, dLe, dGt, dGe, dIs, dIx, dIxI, d1, dLen1, dTup, dLst, dListOf, dListW, dTupOf, dIntOf, dIsi, isScr, tyName, scrOf, pName, pTup, psCons, psNil, Res.bind, noExc, ofOpt, patOut, loopOut, wipeR, lcTurn, eNL, noList, noListAll, eFlat, flatL, wSeq, wRange1, wRange2, wEnum, wRev]
      simpa using this
    have e2 : C1__read_step [.p (.str x), .p (.list ((a :: ws).map PyData.str)), .no] = .ok (.list (ws.map fun w => oI (nOf (tl w)))) := by
      refine eLc_enc (f := PyData.str) ?_ (fun w hw => ?_) ?_
      · unfold wSeq
        rw [s2]
        rfl
      · obtain ⟨f, l⟩ := h1 w (List.mem_cons_of_mem _ hw)
        simp [fnP, fnO, ins, retP, retO, sSeq, sIf, sAsg, sRet, sRetO, sSkip, sRetN, sRaise, sDrop, rOut, eOp, eUn, eVar, eC, rget, eArgs, aNil, aCons, eAnd, eOr, eNot, bOf, bNot, bAnd, bOr, bTru, dTru, bYes, eIf, eCall0, eCall, eChain, eSl, oNone, oSome, dSl, dAdd, dSub, dMod, dDiv, dNeg, dLt, dLtU, dLe, dGt, dGe, dIs, dIx, dIxI, d1, dLen1, dTup, dLst, dListOf, dListW, dTupOf, dIntOf, dIsi, isScr, tyName, scrOf, pName, pTup, psCons, psNil, Res.bind, noExc, ofOpt, patOut, loopOut, wipeR, lcTurn, eNL, noList, noListAll, eFlat, flatL, wSeq, wRange1, wRange2, wEnum, wRev, read_number_ok w f (by omega)]
      · rw [bigv]
        have : (a :: ws).length ≤ x.length + 1 := h3
        rw [List.length_cons] at this
        omega
    have l3 : ws.length + 1 ≤ x.length + 1 := h3
    show noExc (retP (b__read_step [.p (.str x), .no, .no])) = _
    unfold b__read_step
    rw [sSeq_nx n1, sRet_ok (d := rdStep (a :: ws)) (by
      rw [eArgs1 ((eOp_ok s1 e2).trans (show dAdd (.list [.str a]) (.list (ws.map fun w => oI (nOf (tl w)))) = .ok (.list (.str a :: ws.map fun w => oI (nOf (tl w)))) from if_pos (by rw [bigv]; simp; omega)))]
      rfl)]
    rfl
theorem is_box_o (o : Option Int) : F__is_box [oI o] = .ok (.bool (boxOf o).isSome) := by
  cases o with
  | none => simp [oI, F__is_box, b__is_box, fnP, fnO, ins, retP, retO, sSeq, sIf, sAsg, sRet, sRetO, sSkip, sRetN, sRaise, sDrop, rOut, eOp, eUn, eVar, eC, rget, eArgs, aNil, aCons, eAnd, eOr, eNot, bOf, bNot, bAnd, bOr, bTru, dTru, bYes, eIf, eCall0, eCall, eChain, eSl, oNone, oSome, dSl, dAdd, dSub, dMod, dDiv, dNeg, dLt, dLtU, dLe, dGt, dGe, dIs, dIx, dIxI, d1, dLen1, dTup, dLst, dListOf, dListW, dTupOf, dIntOf, dIsi, isScr, tyName, scrOf, pName, pTup, psCons, psNil, Res.bind, noExc, ofOpt, patOut, loopOut, wipeR, lcTurn, eNL, noList, noListAll, eFlat, flatL, wSeq, wRange1, wRange2, wEnum, wRev, whole_none, boxOf]
  | some n =>
    rw [oI, is_box_int]
    by_cases h : 0 ≤ n ∧ n < 4
    · simp [boxOf, h]
    · simp [boxOf, h]
theorem is_worth_o (cs : List Nat) : F__is_worth [oI (nOf cs)] = .ok (.bool (nOf cs).isSome) := by
  cases h : nOf cs with
  | none => simp [oI, F__is_worth, b__is_worth, fnP, fnO, ins, retP, retO, sSeq, sIf, sAsg, sRet, sRetO, sSkip, sRetN, sRaise, sDrop, rOut, eOp, eUn, eVar, eC, rget, eArgs, aNil, aCons, eAnd, eOr, eNot, bOf, bNot, bAnd, bOr, bTru, dTru, bYes, eIf, eCall0, eCall, eChain, eSl, oNone, oSome, dSl, dAdd, dSub, dMod, dDiv, dNeg, dLt, dLtU, dLe, dGt, dGe, dIs, dIx, dIxI, d1, dLen1, dTup, dLst, dListOf, dListW, dTupOf, dIntOf, dIsi, isScr, tyName, scrOf, pName, pTup, psCons, psNil, Res.bind, noExc, ofOpt, patOut, loopOut, wipeR, lcTurn, eNL, noList, noListAll, eFlat, flatL, wSeq, wRange1, wRange2, wEnum, wRev, whole_none]
  | some n =>
    rw [oI, is_worth_int, decide_eq_true (num_bd h)]
    rfl
theorem rd_is_step {W : List Str} (hW : ∀ p ∈ W, Fine p) (hne : W ≠ []) (hl : W.length ≤ 100000) : F__is_step [rdStep W] = .ok (.bool (stepOf W).isSome) := by
  match W, hne with
  | [a], _ =>
    have fa := hW a List.mem_cons_self
    have w := is_word_str a "fence" fa.ok so_fence
    cases q : a == "fence" <;> rw [q] at w <;> simp [F__is_step, b__is_step, rdStep, fnP, fnO, ins, retP, retO, sSeq, sIf, sAsg, sRet, sRetO, sSkip, sRetN, sRaise, sDrop, rOut, eOp, eUn, eVar, eC, rget, eArgs, aNil, aCons, eAnd, eOr, eNot, bOf, bNot, bAnd, bOr, bTru, dTru, bYes, eIf, eCall0, eCall, eChain, eSl, oNone, oSome, dSl, dAdd, dSub, dMod, dDiv, dNeg, dLt, dLtU, dLe, dGt, dGe, dIs, dIx, dIxI, d1, dLen1, dTup, dLst, dListOf, dListW, dTupOf, dIntOf, dIsi, isScr, tyName, scrOf, pName, pTup, psCons, psNil, Res.bind, noExc, ofOpt, patOut, loopOut, wipeR, lcTurn, eNL, noList, noListAll, eFlat, flatL, wSeq, wRange1, wRange2, wEnum, wRev, kb_NoneType_int, kb_NoneType_bool, kb_NoneType_str, kb_NoneType_list, kb_NoneType_tuple, kb_bool_int, kb_bool_bool, kb_bool_str, kb_bool_list, kb_bool_tuple, kb_int_int, kb_int_bool, kb_int_str, kb_int_list, kb_int_tuple, kb_str_int, kb_str_bool, kb_str_str, kb_str_list, kb_str_tuple, kb_list_int, kb_list_bool, kb_list_str, kb_list_list, kb_list_tuple, kb_tuple_int, kb_tuple_bool, kb_tuple_str, kb_tuple_list, kb_tuple_tuple, kb_dict_int, kb_dict_bool, kb_dict_str, kb_dict_list, kb_dict_tuple, dEq_int, at0, w, bigv, stepOf, q]
  | [a, b], _ =>
    have fa := hW a List.mem_cons_self
    have w := is_word_str a "get" fa.ok so_get
    have bx := is_box_o (nOf (tl b))
    cases q : a == "get" <;> rw [q] at w
    · simp [F__is_step, b__is_step, rdStep, fnP, fnO, ins, retP, retO, sSeq, sIf, sAsg, sRet, sRetO, sSkip, sRetN, sRaise, sDrop, rOut, eOp, eUn, eVar, eC, rget, eArgs, aNil, aCons, eAnd, eOr, eNot, bOf, bNot, bAnd, bOr, bTru, dTru, bYes, eIf, eCall0, eCall, eChain, eSl, oNone, oSome, dSl, dAdd, dSub, dMod, dDiv, dNeg, dLt, dLtU, dLe, dGt, dGe, dIs, dIx, dIxI, d1, dLen1, dTup, dLst, dListOf, dListW, dTupOf, dIntOf, dIsi, isScr, tyName, scrOf, pName, pTup, psCons, psNil, Res.bind, noExc, ofOpt, patOut, loopOut, wipeR, lcTurn, eNL, noList, noListAll, eFlat, flatL, wSeq, wRange1, wRange2, wEnum, wRev, kb_NoneType_int, kb_NoneType_bool, kb_NoneType_str, kb_NoneType_list, kb_NoneType_tuple, kb_bool_int, kb_bool_bool, kb_bool_str, kb_bool_list, kb_bool_tuple, kb_int_int, kb_int_bool, kb_int_str, kb_int_list, kb_int_tuple, kb_str_int, kb_str_bool, kb_str_str, kb_str_list, kb_str_tuple, kb_list_int, kb_list_bool, kb_list_str, kb_list_list, kb_list_tuple, kb_tuple_int, kb_tuple_bool, kb_tuple_str, kb_tuple_list, kb_tuple_tuple, kb_dict_int, kb_dict_bool, kb_dict_str, kb_dict_list, kb_dict_tuple, dEq_int, at0, at1, w, bigv, stepOf, q]
    · cases z : boxOf (nOf (tl b)) <;> rw [z] at bx <;> simp [F__is_step, b__is_step, rdStep, fnP, fnO, ins, retP, retO, sSeq, sIf, sAsg, sRet, sRetO, sSkip, sRetN, sRaise, sDrop, rOut, eOp, eUn, eVar, eC, rget, eArgs, aNil, aCons, eAnd, eOr, eNot, bOf, bNot, bAnd, bOr, bTru, dTru, bYes, eIf, eCall0, eCall, eChain, eSl, oNone, oSome, dSl, dAdd, dSub, dMod, dDiv, dNeg, dLt, dLtU, dLe, dGt, dGe, dIs, dIx, dIxI, d1, dLen1, dTup, dLst, dListOf, dListW, dTupOf, dIntOf, dIsi, isScr, tyName, scrOf, pName, pTup, psCons, psNil, Res.bind, noExc, ofOpt, patOut, loopOut, wipeR, lcTurn, eNL, noList, noListAll, eFlat, flatL, wSeq, wRange1, wRange2, wEnum, wRev, kb_NoneType_int, kb_NoneType_bool, kb_NoneType_str, kb_NoneType_list, kb_NoneType_tuple, kb_bool_int, kb_bool_bool, kb_bool_str, kb_bool_list, kb_bool_tuple, kb_int_int, kb_int_bool, kb_int_str, kb_int_list, kb_int_tuple, kb_str_int, kb_str_bool, kb_str_str, kb_str_list, kb_str_tuple, kb_list_int, kb_list_bool, kb_list_str, kb_list_list, kb_list_tuple, kb_tuple_int, kb_tuple_bool, kb_tuple_str, kb_tuple_list, kb_tuple_tuple, kb_dict_int, kb_dict_bool, kb_dict_str, kb_dict_list, kb_dict_tuple, dEq_int, at0, at1, w, bigv, stepOf, q, bx, z]
  | [a, b, c], _ =>
    have fa := hW a List.mem_cons_self
    have w := is_word_str a "put" fa.ok so_put
    have bx := is_box_o (nOf (tl b))
    have wo := is_worth_o (tl c)
    cases q : a == "put" <;> rw [q] at w
    · simp [F__is_step, b__is_step, rdStep, fnP, fnO, ins, retP, retO, sSeq, sIf, sAsg, sRet, sRetO, sSkip, sRetN, sRaise, sDrop, rOut, eOp, eUn, eVar, eC, rget, eArgs, aNil, aCons, eAnd, eOr, eNot, bOf, bNot, bAnd, bOr, bTru, dTru, bYes, eIf, eCall0, eCall, eChain, eSl, oNone, oSome, dSl, dAdd, dSub, dMod, dDiv, dNeg, dLt, dLtU, dLe, dGt, dGe, dIs, dIx, dIxI, d1, dLen1, dTup, dLst, dListOf, dListW, dTupOf, dIntOf, dIsi, isScr, tyName, scrOf, pName, pTup, psCons, psNil, Res.bind, noExc, ofOpt, patOut, loopOut, wipeR, lcTurn, eNL, noList, noListAll, eFlat, flatL, wSeq, wRange1, wRange2, wEnum, wRev, kb_NoneType_int, kb_NoneType_bool, kb_NoneType_str, kb_NoneType_list, kb_NoneType_tuple, kb_bool_int, kb_bool_bool, kb_bool_str, kb_bool_list, kb_bool_tuple, kb_int_int, kb_int_bool, kb_int_str, kb_int_list, kb_int_tuple, kb_str_int, kb_str_bool, kb_str_str, kb_str_list, kb_str_tuple, kb_list_int, kb_list_bool, kb_list_str, kb_list_list, kb_list_tuple, kb_tuple_int, kb_tuple_bool, kb_tuple_str, kb_tuple_list, kb_tuple_tuple, kb_dict_int, kb_dict_bool, kb_dict_str, kb_dict_list, kb_dict_tuple, dEq_int, at0, at1, at2, w, bigv, stepOf, q]
    · cases z : boxOf (nOf (tl b)) <;> rw [z] at bx
      · simp [F__is_step, b__is_step, rdStep, fnP, fnO, ins, retP, retO, sSeq, sIf, sAsg, sRet, sRetO, sSkip, sRetN, sRaise, sDrop, rOut, eOp, eUn, eVar, eC, rget, eArgs, aNil, aCons, eAnd, eOr, eNot, bOf, bNot, bAnd, bOr, bTru, dTru, bYes, eIf, eCall0, eCall, eChain, eSl, oNone, oSome, dSl, dAdd, dSub, dMod, dDiv, dNeg, dLt, dLtU, dLe, dGt, dGe, dIs, dIx, dIxI, d1, dLen1, dTup, dLst, dListOf, dListW, dTupOf, dIntOf, dIsi, isScr, tyName, scrOf, pName, pTup, psCons, psNil, Res.bind, noExc, ofOpt, patOut, loopOut, wipeR, lcTurn, eNL, noList, noListAll, eFlat, flatL, wSeq, wRange1, wRange2, wEnum, wRev, kb_NoneType_int, kb_NoneType_bool, kb_NoneType_str, kb_NoneType_list, kb_NoneType_tuple, kb_bool_int, kb_bool_bool, kb_bool_str, kb_bool_list, kb_bool_tuple, kb_int_int, kb_int_bool, kb_int_str, kb_int_list, kb_int_tuple, kb_str_int, kb_str_bool, kb_str_str, kb_str_list, kb_str_tuple, kb_list_int, kb_list_bool, kb_list_str, kb_list_list, kb_list_tuple, kb_tuple_int, kb_tuple_bool, kb_tuple_str, kb_tuple_list, kb_tuple_tuple, kb_dict_int, kb_dict_bool, kb_dict_str, kb_dict_list, kb_dict_tuple, dEq_int, at0, at1, at2, w, bigv, stepOf, q, bx, z]
      · cases y : nOf (tl c) <;> rw [y] at wo <;> simp [F__is_step, b__is_step, rdStep, fnP, fnO, ins, retP, retO, sSeq, sIf, sAsg, sRet, sRetO, sSkip, sRetN, sRaise, sDrop, rOut, eOp, eUn, eVar, eC, rget, eArgs, aNil, aCons, eAnd, eOr, eNot, bOf, bNot, bAnd, bOr, bTru, dTru, bYes, eIf, eCall0, eCall, eChain, eSl, oNone, oSome, dSl, dAdd, dSub, dMod, dDiv, dNeg, dLt, dLtU, dLe, dGt, dGe, dIs, dIx, dIxI, d1, dLen1, dTup, dLst, dListOf, dListW, dTupOf, dIntOf, dIsi, isScr, tyName, scrOf, pName, pTup, psCons, psNil, Res.bind, noExc, ofOpt, patOut, loopOut, wipeR, lcTurn, eNL, noList, noListAll, eFlat, flatL, wSeq, wRange1, wRange2, wEnum, wRev, kb_NoneType_int, kb_NoneType_bool, kb_NoneType_str, kb_NoneType_list, kb_NoneType_tuple, kb_bool_int, kb_bool_bool, kb_bool_str, kb_bool_list, kb_bool_tuple, kb_int_int, kb_int_bool, kb_int_str, kb_int_list, kb_int_tuple, kb_str_int, kb_str_bool, kb_str_str, kb_str_list, kb_str_tuple, kb_list_int, kb_list_bool, kb_list_str, kb_list_list, kb_list_tuple, kb_tuple_int, kb_tuple_bool, kb_tuple_str, kb_tuple_list, kb_tuple_tuple, kb_dict_int, kb_dict_bool, kb_dict_str, kb_dict_list, kb_dict_tuple, dEq_int, at0, at1, at2, w, bigv, stepOf, q, bx, z, wo, y]
  | a :: b :: c :: d :: ws, _ =>
    have e3 : ¬ (((ws.length : Int) + 1 + 1 + 1 + 1) = 3) := by omega
    have e2 : ¬ (((ws.length : Int) + 1 + 1 + 1 + 1) = 2) := by omega
    have e1 : ¬ (((ws.length : Int) + 1 + 1 + 1 + 1) = 1) := by omega
    simp [F__is_step, b__is_step, rdStep, fnP, fnO, ins, retP, retO, sSeq, sIf, sAsg, sRet, sRetO, sSkip, sRetN, sRaise, sDrop, rOut, eOp, eUn, eVar, eC, rget, eArgs, aNil, aCons, eAnd, eOr, eNot, bOf, bNot, bAnd, bOr, bTru, dTru, bYes, eIf, eCall0, eCall, eChain, eSl, oNone, oSome, dSl, dAdd, dSub, dMod, dDiv, dNeg, dLt, dLtU, dLe, dGt, dGe, dIs, dIx, dIxI, d1, dLen1, dTup, dLst, dListOf, dListW, dTupOf, dIntOf, dIsi, isScr, tyName, scrOf, pName, pTup, psCons, psNil, Res.bind, noExc, ofOpt, patOut, loopOut, wipeR, lcTurn, eNL, noList, noListAll, eFlat, flatL, wSeq, wRange1, wRange2, wEnum, wRev, kb_NoneType_int, kb_NoneType_bool, kb_NoneType_str, kb_NoneType_list, kb_NoneType_tuple, kb_bool_int, kb_bool_bool, kb_bool_str, kb_bool_list, kb_bool_tuple, kb_int_int, kb_int_bool, kb_int_str, kb_int_list, kb_int_tuple, kb_str_int, kb_str_bool, kb_str_str, kb_str_list, kb_str_tuple, kb_list_int, kb_list_bool, kb_list_str, kb_list_list, kb_list_tuple, kb_tuple_int, kb_tuple_bool, kb_tuple_str, kb_tuple_list, kb_tuple_tuple, kb_dict_int, kb_dict_bool, kb_dict_str, kb_dict_list, kb_dict_tuple, dEq_int, bigv, stepOf, e1, e2, e3]
theorem boxOf_some {o : Option Int} {x : Nat} (h : boxOf o = some x) : o = some (x : Int) ∧ x < 4 := by
  cases o with
  | none => cases h
  | some n =>
    by_cases c : 0 ≤ n ∧ n < 4
    · have e : boxOf (some n) = some n.toNat := if_pos c
      rw [e] at h
      have e2 := Option.some.inj h
      refine ⟨?_, by omega⟩
      congr 1
      omega
    · have e : boxOf (some n) = none := if_neg c
      rw [e] at h
      cases h
theorem rd_step_eq {W : List Str} {s : Stp} (h : stepOf W = some s) : rdStep W = eStp s ∧ StpOk s := by
  match W with
  | [] => cases h
  | [a] =>
    replace h : (if (a == "fence") = true then some Stp.fence else none) = some s := h
    split at h
    · rename_i q
      cases h
      have e := eq_of_beq q
      subst e
      exact ⟨rfl, trivial⟩
    · cases h
  | [a, b] =>
    replace h : (if (a == "get") = true then (boxOf (nOf (tl b))).map Stp.get else none) = some s := h
    split at h
    · rename_i q
      have e := eq_of_beq q
      subst e
      cases z : boxOf (nOf (tl b)) with
      | none => rw [z] at h; cases h
      | some x =>
        rw [z] at h
        cases h
        obtain ⟨e1, e2⟩ := boxOf_some z
        refine ⟨?_, e2⟩
        show PyData.tuple [.str "get", oI (nOf (tl b))] = _
        rw [e1]
        rfl
    · cases h
  | [a, b, c] =>
    replace h : (if (a == "put") = true then (match boxOf (nOf (tl b)), nOf (tl c) with | some x, some v => some (.put x v) | _, _ => none) else none) = some s := h
    split at h
    · rename_i q
      have e := eq_of_beq q
      subst e
      cases z : boxOf (nOf (tl b)) with
      | none => rw [z] at h; cases h
      | some x =>
        cases y : nOf (tl c) with
        | none => rw [z, y] at h; cases h
        | some v =>
          rw [z, y] at h
          cases h
          obtain ⟨e1, e2⟩ := boxOf_some z
          refine ⟨?_, ⟨e2, num_bd y⟩⟩
          show PyData.tuple [.str "put", oI (nOf (tl b)), oI (nOf (tl c))] = _
          rw [e1, y]
          rfl
    · cases h
  | a :: b :: c :: d :: ws => cases h
end Pg

set_option Elab.async false
set_option linter.all false
set_option maxRecDepth 100000
set_option maxHeartbeats 4000000
namespace Pg
open PySem PySem.Spec PyProof.Rows L2 Fw TL
/-! ### rows and webs, read -/
def parts (x : Str) : List Str := if (x == "") = true then [] else Txt.split x "; "
def wordsOf1 (p : Str) : List Str := Txt.split p " "
def rdRow (x : Str) : D := .list ((parts x).map fun p => rdStep (wordsOf1 p))
def validR (x : Str) : Bool := (parts x).all fun p => (stepOf (wordsOf1 p)).isSome
def stepsV (x : Str) : List Stp := (parts x).filterMap fun p => stepOf (wordsOf1 p)
structure Small (x : Str) : Prop where
  fine : Fine x
  len : x.length ≤ 900
theorem parts_ok {x : Str} (h : Small x) : (∀ p ∈ parts x, Small p) ∧ (parts x).length ≤ 901 := by
  obtain ⟨h1, h2, h3⟩ := split_ok sep_s h.fine
  have := h.len
  unfold parts
  split
  · exact ⟨fun p hp => absurd hp List.not_mem_nil, by simp⟩
  · exact ⟨fun p hp => ⟨(h1 p hp).1, by have := (h1 p hp).2; omega⟩, by omega⟩
theorem words_ok {x : Str} (h : Small x) : (∀ p ∈ wordsOf1 x, Fine p) ∧ wordsOf1 x ≠ [] ∧ (wordsOf1 x).length ≤ 901 := by
  obtain ⟨h1, h2, h3⟩ := split_ok sep_w h.fine
  have := h.len
  refine ⟨fun p hp => (h1 p hp).1, fun z => ?_, by unfold wordsOf1; omega⟩
  have z' : Txt.split x " " = [] := z
  rw [z'] at h2
  exact absurd h2 (by decide)
theorem so_e : PyData.strOk "" = true := by decide +kernel
theorem read_row_ok {x : Str} (h : Small x) : F__read_row [.str x] = .ok (rdRow x) := by
  have q := dEq_str h.fine.ok so_e
  have ds := dSplit_ok (x := x) ln_s (by have := h.len; omega)
  obtain ⟨p1, p2⟩ := parts_ok h
  show noExc (retP (b__read_row [.p (.str x), .no])) = _
  unfold b__read_row rdRow
  cases e : x == "" with
  | true =>
    rw [e] at q
    have pe : parts x = [] := if_pos e
    rw [pe, sSeq_ret ((sIf_t (by simp [fnP, fnO, ins, retP, retO, sSeq, sIf, sAsg, sRet, sRetO, sSkip, sRetN, sRaise, sDrop, rOut, eOp, eUn, eVar, eC, rget, eArgs, aNil, aCons, eAnd, eOr, eNot, bOf, bNot, bAnd, bOr, bTru, dTru, bYes, eIf, eCall0, eCall, eChain, eSl, oNone, oSome, dSl, dAdd, dSub, dMod, dDiv, dNeg, dLt, dLtU, dLe, dGt, dGe, dIs, dIx, dIxI, d1, dLen1, dTup, dLst, dListOf, dListW, dTupOf, dIntOf, dIsi, isScr, tyName, scrOf, pName, pTup, psCons, psNil, Res.bind, noExc, ofOpt, patOut, loopOut, wipeR, lcTurn, eNL, noList, noListAll, eFlat, flatL, wSeq, wRange1, wRange2, wEnum, wRev, q])).trans (sRet_ok (d := .list []) (by simp [fnP, fnO, ins, retP, retO, sSeq, sIf, sAsg, sRet, sRetO, sSkip, sRetN, sRaise, sDrop, rOut, eOp, eUn, eVar, eC, rget, eArgs, aNil, aCons, eAnd, eOr, eNot, bOf, bNot, bAnd, bOr, bTru, dTru, bYes, eIf, eCall0, eCall, eChain, eSl, oNone, oSome, dSl, dAdd, dSub, dMod, dDiv, dNeg, dLt, dLtU, dLe, dGt, dGe, dIs, dIx, dIxI, d1, dLen1, dTup, dLst, dListOf, dListW, dTupOf, dIntOf, dIsi, isScr, tyName, scrOf, pName, pTup, psCons, psNil, Res.bind, noExc, ofOpt, patOut, loopOut, wipeR, lcTurn, eNL, noList, noListAll, eFlat, flatL, wSeq, wRange1, wRange2, wEnum, wRev, bigv])))]
    rfl
  | false =>
    rw [e] at q
    have pe : parts x = Txt.split x "; " := if_neg (by rw [e]; decide)
    rw [pe] at p1 p2 ⊢
    have e1 : C1__read_row [.p (.str x), .no] = .ok (.list ((Txt.split x "; ").map fun p => rdStep (wordsOf1 p))) :=
      eLc_enc (f := PyData.str) (by simp [eM1, fnP, fnO, ins, retP, retO, sSeq, sIf, sAsg, sRet, sRetO, sSkip, sRetN, sRaise, sDrop, rOut, eOp, eUn, eVar, eC, rget, eArgs, aNil, aCons, eAnd, eOr, eNot, bOf, bNot, bAnd, bOr, bTru, dTru, bYes, eIf, eCall0, eCall, eChain, eSl, oNone, oSome, dSl, dAdd, dSub, dMod, dDiv, dNeg, dLt, dLtU, dLe, dGt, dGe, dIs, dIx, dIxI, d1, dLen1, dTup, dLst, dListOf, dListW, dTupOf, dIntOf, dIsi, isScr, tyName, scrOf, pName, pTup, psCons, psNil, Res.bind, noExc, ofOpt, patOut, loopOut, wipeR, lcTurn, eNL, noList, noListAll, eFlat, flatL, wSeq, wRange1, wRange2, wEnum, wRev, ds]) (fun p hp => by simp [fnP, fnO, ins, retP, retO, sSeq, sIf, sAsg, sRet, sRetO, sSkip, sRetN, sRaise, sDrop, rOut, eOp, eUn, eVar, eC, rget, eArgs, aNil, aCons, eAnd, eOr, eNot, bOf, bNot, bAnd, bOr, bTru, dTru, bYes, eIf, eCall0, eCall, eChain, eSl, oNone, oSome, dSl, dAdd, dSub, dMod, dDiv, dNeg, dLt, dLtU, dLe, dGt, dGe, dIs, dIx, dIxI, d1, dLen1, dTup, dLst, dListOf, dListW, dTupOf, dIntOf, dIsi, isScr, tyName, scrOf, pName, pTup, psCons, psNil, Res.bind, noExc, ofOpt, patOut, loopOut, wipeR, lcTurn, eNL, noList, noListAll, eFlat, flatL, wSeq, wRange1, wRange2, wEnum, wRev, read_step_ok p (p1 p hp).fine (by have := (p1 p hp).len; omega), wordsOf1]) (by rw [bigv]; omega)
    rw [sSeq_nx (sIf_skip (by simp [fnP, fnO, ins, retP, retO, sSeq, sIf, sAsg, sRet, sRetO, sSkip, sRetN, sRaise, sDrop, rOut, eOp, eUn, eVar, eC, rget, eArgs, aNil, aCons, eAnd, eOr, eNot, bOf, bNot, bAnd, bOr, bTru, dTru, bYes, eIf, eCall0, eCall, eChain, eSl, oNone, oSome, dSl, dAdd, dSub, dMod, dDiv, dNeg, dLt, dLtU, dLe, dGt, dGe, dIs, dIx, dIxI, d1, dLen1, dTup, dLst, dListOf, dListW, dTupOf, dIntOf, dIsi, isScr, tyName, scrOf, pName, pTup, psCons, psNil, Res.bind, noExc, ofOpt, patOut, loopOut, wipeR, lcTurn, eNL, noList, noListAll, eFlat, flatL, wSeq, wRange1, wRange2, wEnum, wRev, q])), sRet_ok e1]
    rfl
theorem all_enc {α : Type} (f : α → D) (q : D → Bool) (p : α → Bool) : ∀ (l : List α), (∀ a ∈ l, q (f a) = p a) → (l.map f).all q = l.all p
  | [], _ => rfl
  | a :: l, h => by
    rw [List.map_cons, List.all_cons, List.all_cons, h a List.mem_cons_self, all_enc f q p l fun x hx => h x (List.mem_cons_of_mem _ hx)]
def boolR (f : List D → Res D) (d : D) : Bool := match f [d] with
  | .ok (.bool b) => b
  | _ => false
theorem filterMap_all {α β : Type} (f : α → Option β) (g : β → D) (h : α → D) : ∀ l : List α, (∀ a ∈ l, ∃ b, f a = some b ∧ h a = g b) → l.map h = (l.filterMap f).map g
  | [], _ => rfl
  | a :: l, e => by
    obtain ⟨b, e1, e2⟩ := e a List.mem_cons_self
    rw [List.filterMap_cons_some e1, List.map_cons, List.map_cons, e2, filterMap_all f g h l fun x hx => e x (List.mem_cons_of_mem _ hx)]
theorem rd_row_eq {x : Str} (hv : validR x = true) : rdRow x = eRow (stepsV x) ∧ ∀ s ∈ stepsV x, StpOk s := by
  have a := List.all_eq_true.mp hv
  constructor
  · unfold rdRow eRow stepsV
    rw [filterMap_all (fun p => stepOf (wordsOf1 p)) eStp (fun p => rdStep (wordsOf1 p)) (parts x) fun p hp => by
      obtain ⟨s, e⟩ := Option.isSome_iff_exists.mp (a p hp)
      exact ⟨s, e, (rd_step_eq e).1⟩]
  · intro s hs
    obtain ⟨p, hp, e⟩ := List.mem_filterMap.mp hs
    exact (rd_step_eq e).2
theorem stepsV_len (x : Str) (h : Small x) : (stepsV x).length ≤ 901 := Nat.le_trans (List.length_filterMap_le _ _) (parts_ok h).2
theorem rd_is_row {x : Str} (h : Small x) : F__is_row [rdRow x] = .ok (.bool (validR x)) := by
  obtain ⟨p1, p2⟩ := parts_ok h
  cases hv : validR x with
  | true =>
    obtain ⟨e, ok⟩ := rd_row_eq hv
    rw [e]
    exact is_row_ok ok (by have := stepsV_len x h; omega)
  | false =>
    have st : ∀ p ∈ parts x, F__is_step [rdStep (wordsOf1 p)] = .ok (.bool (stepOf (wordsOf1 p)).isSome) := fun p hp => by
      obtain ⟨w1, w2, w3⟩ := words_ok (p1 p hp)
      exact rd_is_step w1 w2 (by omega)
    refine is_row_step (q := boolR F__is_step) (fun d hd => ?_) (by rw [List.length_map]; omega) ?_
    · obtain ⟨p, hp, rfl⟩ := List.mem_map.mp hd
      unfold boolR
      rw [st p hp]
    · rw [all_enc (fun p => rdStep (wordsOf1 p)) (boolR F__is_step) (fun p => (stepOf (wordsOf1 p)).isSome) (parts x) fun p hp => by
        unfold boolR
        rw [st p hp]]
      exact hv
def rowsOf (t : Str) : List Str := Txt.split t " | "
def parseW (t : Str) : Option Web := if (rowsOf t).length ≤ 3 ∧ (rowsOf t).all validR = true ∧ (((rowsOf t).map stepsV).map deeds).sum ≤ 8 then some ((rowsOf t).map stepsV) else none
theorem rows_ok {t : Str} (h : Small t) : (∀ p ∈ rowsOf t, Small p) ∧ 1 ≤ (rowsOf t).length ∧ (rowsOf t).length ≤ 901 := by
  obtain ⟨h1, h2, h3⟩ := split_ok sep_r h.fine
  have := h.len
  exact ⟨fun p hp => ⟨(h1 p hp).1, by have := (h1 p hp).2; omega⟩, h2, by unfold rowsOf; omega⟩
theorem parse_ok {t : Str} {w : Web} (h : Small t) (e : parseW t = some w) : WebOk w := by
  unfold parseW at e
  obtain ⟨r1, r2, r3⟩ := rows_ok h
  split at e
  · rename_i c
    cases e
    have a := List.all_eq_true.mp c.2.1
    refine ⟨by rw [List.length_map]; exact ⟨r2, c.1⟩, fun r hr => ?_, c.2.2, fun r hr => ?_⟩
    · obtain ⟨x, hx, rfl⟩ := List.mem_map.mp hr
      exact (rd_row_eq (a x hx)).2
    · obtain ⟨x, hx, rfl⟩ := List.mem_map.mp hr
      have := stepsV_len x (r1 x hx)
      omega
  · cases e
theorem is_web_long {ds : List D} (h : 3 < ds.length) : F_is_web [.list ds] = .ok (.bool false) := by
  have h1 : (1 : Int) ≤ (ds.length : Nat) := by omega
  have h3 : ¬ (((ds.length : Nat) : Int) ≤ 3) := by omega
  have h1' : 1 ≤ ds.length := by omega
  have h3' : ¬ (ds.length ≤ 3) := by omega
  simp [F_is_web, b_is_web, fnP, fnO, ins, retP, retO, sSeq, sIf, sAsg, sRet, sRetO, sSkip, sRetN, sRaise, sDrop, rOut, eOp, eUn, eVar, eC, rget, eArgs, aNil, aCons, eAnd, eOr, eNot, bOf, bNot, bAnd, bOr, bTru, dTru, bYes, eIf, eCall0, eCall, eChain, eSl, oNone, oSome, dSl, dAdd, dSub, dMod, dDiv, dNeg, dLt, dLtU, dLe, dGt, dGe, dIs, dIx, dIxI, d1, dLen1, dTup, dLst, dListOf, dListW, dTupOf, dIntOf, dIsi, isScr, tyName, scrOf, pName, pTup, psCons, psNil, Res.bind, noExc, ofOpt, patOut, loopOut, wipeR, lcTurn, eNL, noList, noListAll, eFlat, flatL, wSeq, wRange1, wRange2, wEnum, wRev, kb_NoneType_int, kb_NoneType_bool, kb_NoneType_str, kb_NoneType_list, kb_NoneType_tuple, kb_bool_int, kb_bool_bool, kb_bool_str, kb_bool_list, kb_bool_tuple, kb_int_int, kb_int_bool, kb_int_str, kb_int_list, kb_int_tuple, kb_str_int, kb_str_bool, kb_str_str, kb_str_list, kb_str_tuple, kb_list_int, kb_list_bool, kb_list_str, kb_list_list, kb_list_tuple, kb_tuple_int, kb_tuple_bool, kb_tuple_str, kb_tuple_list, kb_tuple_tuple, kb_dict_int, kb_dict_bool, kb_dict_str, kb_dict_list, kb_dict_tuple, h1, h3, h1', h3']
theorem rd_is_web {t : Str} (h : Small t) : F_is_web [.list ((rowsOf t).map rdRow)] = .ok (.bool (parseW t).isSome) ∧ ∀ w, parseW t = some w → PyData.list ((rowsOf t).map rdRow) = eWeb w := by
  obtain ⟨r1, r2, r3⟩ := rows_ok h
  by_cases c1 : (rowsOf t).length ≤ 3
  · by_cases c2 : (rowsOf t).all validR = true
    · have a := List.all_eq_true.mp c2
      have e : (rowsOf t).map rdRow = ((rowsOf t).map stepsV).map eRow := by
        rw [List.map_map]
        exact List.map_congr_left fun x hx => (rd_row_eq (a x hx)).1
      have ew : PyData.list ((rowsOf t).map rdRow) = eWeb ((rowsOf t).map stepsV) := by rw [e]; rfl
      have iw := is_web_rows (w := (rowsOf t).map stepsV) (by rw [List.length_map]; exact ⟨r2, c1⟩) (fun r hr => by
        obtain ⟨x, hx, rfl⟩ := List.mem_map.mp hr
        exact (rd_row_eq (a x hx)).2) (fun r hr => by
        obtain ⟨x, hx, rfl⟩ := List.mem_map.mp hr
        have := stepsV_len x (r1 x hx)
        omega)
      rw [ew]
      by_cases c3 : (((rowsOf t).map stepsV).map deeds).sum ≤ 8
      · have pe : parseW t = some ((rowsOf t).map stepsV) := if_pos ⟨c1, c2, c3⟩
        rw [pe]
        rw [decide_eq_true c3] at iw
        exact ⟨iw, fun w hw => by cases hw; rfl⟩
      · have pe : parseW t = none := if_neg fun z => c3 z.2.2
        rw [pe]
        rw [decide_eq_false c3] at iw
        exact ⟨iw, fun w hw => by cases hw⟩
    · have pe : parseW t = none := if_neg fun z => c2 z.2.1
      rw [pe]
      refine ⟨is_web_row (q := boolR F__is_row) (fun d hd => ?_) (by rw [List.length_map]; exact ⟨r2, c1⟩) ?_, fun w hw => by cases hw⟩
      · obtain ⟨x, hx, rfl⟩ := List.mem_map.mp hd
        unfold boolR
        rw [rd_is_row (r1 x hx)]
      · rw [all_enc rdRow (boolR F__is_row) validR (rowsOf t) fun x hx => by
          unfold boolR
          rw [rd_is_row (r1 x hx)]]
        simpa using c2
  · have pe : parseW t = none := if_neg fun z => c1 z.1
    rw [pe]
    exact ⟨is_web_long (by rw [List.length_map]; omega), fun w hw => by cases hw⟩
theorem read_ok {t : Str} (h : Small t) : F_read [.str t] = (match parseW t with | some w => .ok (eWeb w) | none => .exc 4) := by
  obtain ⟨r1, r2, r3⟩ := rows_ok h
  have ds := dSplit_ok (x := t) ln_r (by have := h.len; omega)
  have e1 : C1_read [.p (.str t), .no, .no] = .ok (.list ((rowsOf t).map rdRow)) :=
    eLc_enc (f := PyData.str) (l := rowsOf t) (by simp [eM1, fnP, fnO, ins, retP, retO, sSeq, sIf, sAsg, sRet, sRetO, sSkip, sRetN, sRaise, sDrop, rOut, eOp, eUn, eVar, eC, rget, eArgs, aNil, aCons, eAnd, eOr, eNot, bOf, bNot, bAnd, bOr, bTru, dTru, bYes, eIf, eCall0, eCall, eChain, eSl, oNone, oSome, dSl, dAdd, dSub, dMod, dDiv, dNeg, dLt, dLtU, dLe, dGt, dGe, dIs, dIx, dIxI, d1, dLen1, dTup, dLst, dListOf, dListW, dTupOf, dIntOf, dIsi, isScr, tyName, scrOf, pName, pTup, psCons, psNil, Res.bind, noExc, ofOpt, patOut, loopOut, wipeR, lcTurn, eNL, noList, noListAll, eFlat, flatL, wSeq, wRange1, wRange2, wEnum, wRev, ds, rowsOf]) (fun p hp => by simp [fnP, fnO, ins, retP, retO, sSeq, sIf, sAsg, sRet, sRetO, sSkip, sRetN, sRaise, sDrop, rOut, eOp, eUn, eVar, eC, rget, eArgs, aNil, aCons, eAnd, eOr, eNot, bOf, bNot, bAnd, bOr, bTru, dTru, bYes, eIf, eCall0, eCall, eChain, eSl, oNone, oSome, dSl, dAdd, dSub, dMod, dDiv, dNeg, dLt, dLtU, dLe, dGt, dGe, dIs, dIx, dIxI, d1, dLen1, dTup, dLst, dListOf, dListW, dTupOf, dIntOf, dIsi, isScr, tyName, scrOf, pName, pTup, psCons, psNil, Res.bind, noExc, ofOpt, patOut, loopOut, wipeR, lcTurn, eNL, noList, noListAll, eFlat, flatL, wSeq, wRange1, wRange2, wEnum, wRev, read_row_ok (r1 p hp)]) (by rw [bigv]; omega)
  obtain ⟨iw, ew⟩ := rd_is_web h
  have n1 := sAsg_nm (i := 1) e1
  show retP (b_read [.p (.str t), .no, .no]) = _
  unfold b_read
  rw [sSeq_nx (sIf_skip (by simp [fnP, fnO, ins, retP, retO, sSeq, sIf, sAsg, sRet, sRetO, sSkip, sRetN, sRaise, sDrop, rOut, eOp, eUn, eVar, eC, rget, eArgs, aNil, aCons, eAnd, eOr, eNot, bOf, bNot, bAnd, bOr, bTru, dTru, bYes, eIf, eCall0, eCall, eChain, eSl, oNone, oSome, dSl, dAdd, dSub, dMod, dDiv, dNeg, dLt, dLtU, dLe, dGt, dGe, dIs, dIx, dIxI, d1, dLen1, dTup, dLst, dListOf, dListW, dTupOf, dIntOf, dIsi, isScr, tyName, scrOf, pName, pTup, psCons, psNil, Res.bind, noExc, ofOpt, patOut, loopOut, wipeR, lcTurn, eNL, noList, noListAll, eFlat, flatL, wSeq, wRange1, wRange2, wEnum, wRev, kb_NoneType_int, kb_NoneType_bool, kb_NoneType_str, kb_NoneType_list, kb_NoneType_tuple, kb_bool_int, kb_bool_bool, kb_bool_str, kb_bool_list, kb_bool_tuple, kb_int_int, kb_int_bool, kb_int_str, kb_int_list, kb_int_tuple, kb_str_int, kb_str_bool, kb_str_str, kb_str_list, kb_str_tuple, kb_list_int, kb_list_bool, kb_list_str, kb_list_list, kb_list_tuple, kb_tuple_int, kb_tuple_bool, kb_tuple_str, kb_tuple_list, kb_tuple_tuple, kb_dict_int, kb_dict_bool, kb_dict_str, kb_dict_list, kb_dict_tuple])), sSeq_nx n1]
  show retP (sSeq _ _ [.p (.str t), .p (.list ((rowsOf t).map rdRow)), .no]) = _
  cases q : parseW t with
  | some w =>
    rw [q] at iw
    have ew' := ew w q
    rw [sSeq_nx (sIf_skip (by simp [fnP, fnO, ins, retP, retO, sSeq, sIf, sAsg, sRet, sRetO, sSkip, sRetN, sRaise, sDrop, rOut, eOp, eUn, eVar, eC, rget, eArgs, aNil, aCons, eAnd, eOr, eNot, bOf, bNot, bAnd, bOr, bTru, dTru, bYes, eIf, eCall0, eCall, eChain, eSl, oNone, oSome, dSl, dAdd, dSub, dMod, dDiv, dNeg, dLt, dLtU, dLe, dGt, dGe, dIs, dIx, dIxI, d1, dLen1, dTup, dLst, dListOf, dListW, dTupOf, dIntOf, dIsi, isScr, tyName, scrOf, pName, pTup, psCons, psNil, Res.bind, noExc, ofOpt, patOut, loopOut, wipeR, lcTurn, eNL, noList, noListAll, eFlat, flatL, wSeq, wRange1, wRange2, wEnum, wRev, iw])), sRet_ok rfl, ew']
    rfl
  | none =>
    rw [q] at iw
    unfold sSeq
    rw [sIf_t (by simp [fnP, fnO, ins, retP, retO, sSeq, sIf, sAsg, sRet, sRetO, sSkip, sRetN, sRaise, sDrop, rOut, eOp, eUn, eVar, eC, rget, eArgs, aNil, aCons, eAnd, eOr, eNot, bOf, bNot, bAnd, bOr, bTru, dTru, bYes, eIf, eCall0, eCall, eChain, eSl, oNone, oSome, dSl, dAdd, dSub, dMod, dDiv, dNeg, dLt, dLtU, dLe, dGt, dGe, dIs, dIx, dIxI, d1, dLen1, dTup, dLst, dListOf, dListW, dTupOf, dIntOf, dIsi, isScr, tyName, scrOf, pName, pTup, psCons, psNil, Res.bind, noExc, ofOpt, patOut, loopOut, wipeR, lcTurn, eNL, noList, noListAll, eFlat, flatL, wSeq, wRange1, wRange2, wEnum, wRev, iw])]
    rfl
theorem read_no {d : D} (h : dIsi "str" d = .ok (.bool false)) : F_read [d] = .exc 4 := by
  have c : bNot (bTru (eUn (dIsi "str") (eVar 0))) [.p d, .no, .no] = .ok true := by
    simp [bNot, bTru, eUn, eVar, rget, Res.bind, h, dTru]
  show retP (b_read [.p d, .no, .no]) = _
  unfold b_read sSeq
  rw [sIf_t c]
  rfl
end Pg

set_option Elab.async false
set_option linter.all false
set_option maxRecDepth 100000
set_option maxHeartbeats 4000000
namespace Pg
open PySem PySem.Spec PyProof.Rows L2 Fw TL
/-! ### webs, written -/
def strOf (i : Int) : Str := Str.ofString (toString i)
def wordsS : Stp → List Str
  | .put b n => ["put", strOf (b : Nat), strOf n]
  | .get b => ["get", strOf (b : Nat)]
  | .fence => ["fence"]
def stepText (s : Stp) : Str := Txt.join " " (wordsS s)
def rowText (r : List Stp) : Str := Txt.join "; " (r.map stepText)
def webText (w : Web) : Str := Txt.join " | " (w.map rowText)
theorem numL_head : ∀ n : Nat, 0 < n → ∃ c r, numL n = c :: r ∧ c ≠ 48 := by
  intro n
  induction n using Nat.strongRecOn with
  | _ n ih =>
    intro h0
    by_cases h : n < 10
    · exact ⟨48 + n, [], numL_lt h, by omega⟩
    · obtain ⟨c, r, e, hc⟩ := ih (n / 10) (by omega) (by omega)
      exact ⟨c, r ++ [48 + n % 10], by rw [numL_step (by omega), e]; rfl, hc⟩
theorem tl_neg (m : Nat) : tl (strOf (Int.negSucc m)) = 45 :: numL (m + 1) := by
  have e : toString (Int.negSucc m) = "-" ++ toString (((m + 1 : Nat) : Int)) := rfl
  unfold strOf
  rw [tl_ofString, e, String.toList_append, List.map_append, ← tl_ofString (toString (((m + 1 : Nat) : Int))), tl_num]
  rfl
theorem nOf_str {n : Int} (h : -1000000000000000000000000000000 < n ∧ n < 1000000000000000000000000000000) : nOf (tl (strOf n)) = some n := by
  have p2 : (10 : Nat) ^ 30 = 1000000000000000000000000000000 := by decide
  have isf : ∀ m, (numL m).all isFig = true := fun m => List.all_eq_true.mpr fun c hc => decide_eq_true (numL_digits m c hc)
  have l1 : ∀ m, 1 ≤ (numL m).length := fun m => by
    cases q : numL m with
    | nil => exact absurd q (numL_ne m)
    | cons a l => simp
  cases n with
  | ofNat m =>
    have e : tl (strOf (Int.ofNat m)) = numL m := tl_num m
    have hm : m < 10 ^ 30 := by rw [p2]; have := h.2; simp at this; omega
    have ln := numL_len (k := 30) (by decide) hm
    have h45 : ¬ ((numL m).head? = some 45) := fun z => by
      cases q : numL m with
      | nil => rw [q] at z; cases z
      | cons a l =>
        rw [q] at z
        have a45 := Option.some.inj z
        have := numL_digits m a (by rw [q]; exact List.mem_cons_self)
        omega
    have f : figs (numL m) = numL m := if_neg h45
    have hd : (decide ((numL m).head? = some 48) && !decide (numL m = [48])) = false := by
      by_cases z : m = 0
      · subst z
        decide +kernel
      · obtain ⟨c, r, e1, hc⟩ := numL_head m (by omega)
        rw [e1]
        simp [hc]
    have ok : numOk (numL m) = true := by
      unfold numOk
      rw [f, decide_eq_true ⟨l1 m, ln⟩, isf m, hd]
      rfl
    unfold nOf
    rw [e, ok, if_pos rfl]
    unfold numVal
    rw [if_neg h45, f, numL_val]
    rfl
  | negSucc m =>
    have e := tl_neg m
    have hm : m + 1 < 10 ^ 30 := by rw [p2]; have := h.1; omega
    have ln := numL_len (k := 30) (by decide) hm
    have f : figs (45 :: numL (m + 1)) = numL (m + 1) := if_pos rfl
    obtain ⟨c, r, e1, hc⟩ := numL_head (m + 1) (by omega)
    have hd : (decide ((numL (m + 1)).head? = some 48) && !decide (45 :: numL (m + 1) = [48])) = false := by
      rw [e1]
      simp [hc]
    have ok : numOk (45 :: numL (m + 1)) = true := by
      unfold numOk
      rw [f, decide_eq_true ⟨l1 _, ln⟩, isf _, hd]
      rfl
    unfold nOf
    rw [e, ok, if_pos rfl]
    unfold numVal
    rw [if_pos (show (45 :: numL (m + 1)).head? = some 45 from rfl), f, numL_val]
    rfl
theorem str_len {n : Int} (h : -1000000000000000000000000000000 < n ∧ n < 1000000000000000000000000000000) : (strOf n).length ≤ 31 := by
  have p2 : (10 : Nat) ^ 30 = 1000000000000000000000000000000 := by decide
  cases n with
  | ofNat m =>
    have e : tl (strOf (Int.ofNat m)) = numL m := tl_num m
    have hm : m < 10 ^ 30 := by rw [p2]; have := h.2; simp at this; omega
    have ln := numL_len (k := 30) (by decide) hm
    rw [len_tl, e]
    omega
  | negSucc m =>
    have e := tl_neg m
    have hm : m + 1 < 10 ^ 30 := by rw [p2]; have := h.1; omega
    have ln := numL_len (k := 30) (by decide) hm
    rw [len_tl, e, List.length_cons]
    omega
theorem str_fine (n : Int) : Fine (strOf n) := fun c hc => by
  by_cases h : c < 128
  · exact h
  · exact absurd hc (PyProof.Rows.int_text_free' c ⟨by omega, by omega⟩ n)
theorem str_free (n : Int) (c : Nat) (h : c ≠ 45 ∧ (c < 48 ∨ 57 < c)) : c ∉ tl (strOf n) := PyProof.Rows.int_text_free' c h n
theorem str_log {n : Int} (h : -1000000000000000000000000000000 < n ∧ n < 1000000000000000000000000000000) : n.natAbs.log2 < 1920 := by
  refine PySem.Flt.log2_lt_of (by decide) ?_
  have : (1000000000000000000000000000000 : Nat) < 2 ^ 1920 := by decide +kernel
  omega
theorem box_bd {b : Nat} (h : b < 4) : -1000000000000000000000000000000 < ((b : Nat) : Int) ∧ ((b : Nat) : Int) < 1000000000000000000000000000000 := by omega
/-- what stands in a joined text -/
theorem join_mem (y : Str) : ∀ (l : List Str) (c : Nat), c ∈ tl (Txt.join y l) → c ∈ tl y ∨ ∃ p ∈ l, c ∈ tl p := fun l c h => by
  rw [join_eq, tl_join] at h
  have go : ∀ l : List (List Nat), c ∈ joinL (tl y) l → c ∈ tl y ∨ ∃ p ∈ l, c ∈ p := fun l => by
    induction l with
    | nil => intro h; cases h
    | cons p l ih =>
      intro h
      cases l with
      | nil => exact .inr ⟨p, List.mem_cons_self, h⟩
      | cons q r =>
        have h : c ∈ p ++ (tl y ++ joinL (tl y) (q :: r)) := h
        rcases List.mem_append.mp h with z | z
        · exact .inr ⟨p, List.mem_cons_self, z⟩
        · rcases List.mem_append.mp z with z | z
          · exact .inl z
          · rcases ih z with z | ⟨x, hx, z⟩
            · exact .inl z
            · exact .inr ⟨x, List.mem_cons_of_mem _ hx, z⟩
  rcases go _ h with z | ⟨p, hp, z⟩
  · exact .inl z
  · obtain ⟨x, hx, rfl⟩ := List.mem_map.mp hp
    exact .inr ⟨x, hx, z⟩
theorem join_len (y : Str) (l : List Str) (n : Nat) (h : ∀ p ∈ l, p.length ≤ n) : (Txt.join y l).length ≤ l.length * (n + y.length) := by
  rw [join_eq]
  have a := StrLaws.join_length_le y l
  have b : (l.map (·.length)).sum ≤ l.length * n := by
    clear a
    induction l with
    | nil => simp
    | cons p l ih =>
      have h1 := h p List.mem_cons_self
      have h2 := ih fun q hq => h q (List.mem_cons_of_mem _ hq)
      rw [List.map_cons, List.sum_cons, List.length_cons, Nat.succ_mul]
      omega
  rw [Nat.mul_add]
  omega
theorem sum_len (l : List Str) (n : Nat) (h : ∀ p ∈ l, p.length ≤ n) : (l.map (·.length)).sum ≤ l.length * n := by
  induction l with
  | nil => simp
  | cons p l ih =>
    have h1 := h p List.mem_cons_self
    have h2 := ih fun q hq => h q (List.mem_cons_of_mem _ hq)
    rw [List.map_cons, List.sum_cons, List.length_cons, Nat.succ_mul]
    omega
theorem words_len {s : Stp} (h : StpOk s) : (wordsS s).length ≤ 3 ∧ ∀ p ∈ wordsS s, p.length ≤ 31 ∧ Fine p ∧ 32 ∉ tl p ∧ 59 ∉ tl p ∧ 124 ∉ tl p := by
  have lit : ∀ s : Str, (s = "put" ∨ s = "get" ∨ s = "fence") → s.length ≤ 31 ∧ Fine s ∧ 32 ∉ tl s ∧ 59 ∉ tl s ∧ 124 ∉ tl s := fun s hs => by
    rcases hs with rfl | rfl | rfl
    · exact ⟨by decide +kernel, fine_lit (by decide +kernel), by decide +kernel, by decide +kernel, by decide +kernel⟩
    · exact ⟨by decide +kernel, fine_lit (by decide +kernel), by decide +kernel, by decide +kernel, by decide +kernel⟩
    · exact ⟨by decide +kernel, fine_lit (by decide +kernel), by decide +kernel, by decide +kernel, by decide +kernel⟩
  have num : ∀ n : Int, (-1000000000000000000000000000000 < n ∧ n < 1000000000000000000000000000000) → (strOf n).length ≤ 31 ∧ Fine (strOf n) ∧ 32 ∉ tl (strOf n) ∧ 59 ∉ tl (strOf n) ∧ 124 ∉ tl (strOf n) := fun n h =>
    ⟨str_len h, str_fine n, str_free n 32 (by decide), str_free n 59 (by decide), str_free n 124 (by decide)⟩
  cases s with
  | put b n =>
    refine ⟨by simp [wordsS], fun p hp => ?_⟩
    simp only [wordsS, List.mem_cons, List.not_mem_nil, or_false] at hp
    rcases hp with rfl | rfl | rfl
    · exact lit _ (.inl rfl)
    · exact num _ (box_bd h.1)
    · exact num _ h.2
  | get b =>
    refine ⟨by simp [wordsS], fun p hp => ?_⟩
    simp only [wordsS, List.mem_cons, List.not_mem_nil, or_false] at hp
    rcases hp with rfl | rfl
    · exact lit _ (.inr (.inl rfl))
    · exact num _ (box_bd h)
  | fence =>
    refine ⟨by simp [wordsS], fun p hp => ?_⟩
    simp only [wordsS, List.mem_cons, List.not_mem_nil, or_false] at hp
    rcases hp with rfl
    exact lit _ (.inr (.inr rfl))
theorem l1 : (" " : Str).length = 1 := by decide +kernel
theorem l2 : ("; " : Str).length = 2 := by decide +kernel
theorem l3 : (" | " : Str).length = 3 := by decide +kernel
theorem fw : Fine " " := fine_lit (by decide +kernel)
theorem fs : Fine "; " := fine_lit (by decide +kernel)
theorem fr : Fine " | " := fine_lit (by decide +kernel)
theorem stepText_ok {s : Stp} (h : StpOk s) : (stepText s).length ≤ 96 ∧ Fine (stepText s) ∧ 59 ∉ tl (stepText s) ∧ 124 ∉ tl (stepText s) := by
  obtain ⟨w1, w2⟩ := words_len h
  have tw : tl (" " : Str) = [32] := by decide +kernel
  refine ⟨?_, fun c hc => ?_, fun hc => ?_, fun hc => ?_⟩
  · have := join_len " " (wordsS s) 31 fun p hp => (w2 p hp).1
    rw [l1] at this
    have : (wordsS s).length * 32 ≤ 3 * 32 := Nat.mul_le_mul_right _ w1
    unfold stepText
    omega
  · rcases join_mem _ _ _ hc with z | ⟨p, hp, z⟩
    · exact fw c z
    · exact (w2 p hp).2.1 c z
  · rcases join_mem _ _ _ hc with z | ⟨p, hp, z⟩
    · rw [tw] at z; simp at z
    · exact (w2 p hp).2.2.2.1 z
  · rcases join_mem _ _ _ hc with z | ⟨p, hp, z⟩
    · rw [tw] at z; simp at z
    · exact (w2 p hp).2.2.2.2 z
theorem split_step {s : Stp} (h : StpOk s) : Txt.split (stepText s) " " = wordsS s := by
  obtain ⟨w1, w2⟩ := words_len h
  exact split_join (s := 32) (S := []) (by decide +kernel) (by decide +kernel) (by cases s <;> simp [wordsS]) fun p hp => (w2 p hp).2.2.1
theorem step_back {s : Stp} (h : StpOk s) : stepOf (wordsOf1 (stepText s)) = some s := by
  unfold wordsOf1
  rw [split_step h]
  cases s with
  | put b n =>
    have e1 := nOf_str (box_bd h.1)
    have e2 := nOf_str h.2
    have bx : boxOf (some ((b : Nat) : Int)) = some b := if_pos (by have := h.1; omega)
    show (if (("put" : Str) == "put") = true then (match boxOf (nOf (tl (strOf (b : Nat)))), nOf (tl (strOf n)) with | some x, some v => some (Stp.put x v) | _, _ => none) else none) = _
    rw [e1, e2, bx, if_pos (beq_self_eq_true _)]
  | get b =>
    have e1 := nOf_str (box_bd h)
    have bx : boxOf (some ((b : Nat) : Int)) = some b := if_pos (by have : b < 4 := h; omega)
    show (if (("get" : Str) == "get") = true then (boxOf (nOf (tl (strOf (b : Nat))))).map Stp.get else none) = _
    rw [e1, bx, if_pos (beq_self_eq_true _)]
    rfl
  | fence =>
    show (if (("fence" : Str) == "fence") = true then some Stp.fence else none) = _
    rw [if_pos (beq_self_eq_true _)]
end Pg

set_option Elab.async false
set_option linter.all false
set_option maxRecDepth 100000
set_option maxHeartbeats 4000000
namespace Pg
open PySem PySem.Spec PyProof.Rows L2 Fw TL
theorem sp_e : Txt.split ("" : Str) (" " : Str) = ([("" : Str)] : List Str) := by decide +kernel
theorem split_rowT {r : List Stp} (h : ∀ s ∈ r, StpOk s) (hr : r ≠ []) : Txt.split (rowText r) "; " = r.map stepText :=
  split_join (s := 59) (S := [32]) (by decide +kernel) (by decide +kernel) (fun z => hr (List.map_eq_nil_iff.mp z)) fun p hp => by
    obtain ⟨s, hs, rfl⟩ := List.mem_map.mp hp
    exact (stepText_ok (h s hs)).2.2.1
theorem row_fine {r : List Stp} (h : ∀ s ∈ r, StpOk s) : Fine (rowText r) ∧ 124 ∉ tl (rowText r) := by
  have ts : tl ("; " : Str) = [59, 32] := by decide +kernel
  refine ⟨fun c hc => ?_, fun hc => ?_⟩
  · rcases join_mem _ _ _ hc with z | ⟨p, hp, z⟩
    · exact fs c z
    · obtain ⟨s, hs, rfl⟩ := List.mem_map.mp hp
      exact (stepText_ok (h s hs)).2.1 c z
  · rcases join_mem _ _ _ hc with z | ⟨p, hp, z⟩
    · rw [ts] at z; simp at z
    · obtain ⟨s, hs, rfl⟩ := List.mem_map.mp hp
      exact (stepText_ok (h s hs)).2.2.2 z
theorem parts_back {r : List Stp} (h : ∀ s ∈ r, StpOk s) : parts (rowText r) = r.map stepText := by
  by_cases hr : r = []
  · subst hr
    have e : rowText [] = "" := by decide +kernel
    rw [e]
    exact if_pos (beq_self_eq_true _)
  · have sr := split_rowT h hr
    unfold parts
    rw [if_neg, sr]
    intro z
    have e := eq_of_beq z
    rw [e] at sr
    obtain ⟨s, l, rfl⟩ : ∃ s l, r = s :: l := by
      cases r with
      | nil => exact absurd rfl hr
      | cons s l => exact ⟨s, l, rfl⟩
    have se : stepText s ∈ Txt.split "" "; " := by rw [sr]; exact List.mem_cons_self
    have f0 : Fine "" := fun c hc => by
      have : tl ("" : Str) = [] := by decide +kernel
      rw [this] at hc
      cases hc
    have l0 := ((split_ok sep_s f0).1 _ se).2
    have e0 : ("" : Str).length = 0 := by decide +kernel
    rw [e0] at l0
    have te : stepText s = "" := by
      refine ext_tl ?_
      have : tl ("" : Str) = [] := by decide +kernel
      rw [this]
      exact List.length_eq_zero_iff.mp (by rw [← len_tl]; omega)
    have sb := step_back (h s List.mem_cons_self)
    rw [te] at sb
    unfold wordsOf1 at sb
    rw [sp_e] at sb
    have : stepOf [""] = none := by decide +kernel
    rw [this] at sb
    cases sb
theorem valid_back {r : List Stp} (h : ∀ s ∈ r, StpOk s) : validR (rowText r) = true ∧ stepsV (rowText r) = r := by
  unfold validR stepsV
  rw [parts_back h]
  constructor
  · rw [List.all_map, List.all_eq_true]
    intro s hs
    show (stepOf (wordsOf1 (stepText s))).isSome = true
    rw [step_back (h s hs)]
    rfl
  · rw [List.filterMap_map]
    have : ∀ r : List Stp, (∀ s ∈ r, StpOk s) → r.filterMap ((fun p => stepOf (wordsOf1 p)) ∘ stepText) = r := fun r => by
      induction r with
      | nil => exact fun _ => rfl
      | cons s r ih =>
        intro h
        rw [List.filterMap_cons_some (show ((fun p => stepOf (wordsOf1 p)) ∘ stepText) s = some s from step_back (h s List.mem_cons_self)), ih fun x hx => h x (List.mem_cons_of_mem _ hx)]
    exact this r h
/-! ### rows, split -/
theorem pre_bar {m : List Nat} (h : pre [32, 124, 32] m = true) : m[1]? = some 124 := by
  have e : m.take 3 = [32, 124, 32] := eq_of_beq h
  have : (m.take 3)[1]? = some 124 := by rw [e]; rfl
  rw [List.getElem?_take] at this
  simpa using this
theorem spl_bar : ∀ {ps : List (List Nat)}, ps ≠ [] → (∀ p ∈ ps, 124 ∉ p) → spl [32, 124, 32] 0 [] (joinL [32, 124, 32] ps) = ps
  | [], h, _ => absurd rfl h
  | [p], _, hp => by
    have h := hp p (List.mem_singleton.mpr rfl)
    show spl [32, 124, 32] 0 [] p = [p]
    rw [spl_last fun i hi => by
      cases q : pre [32, 124, 32] (p.drop i) with
      | false => rfl
      | true =>
        have := pre_bar q
        rw [List.getElem?_drop] at this
        exact absurd (List.mem_of_getElem? this) h]
    rfl
  | p :: q :: r, _, hp => by
    have h := hp p List.mem_cons_self
    show spl [32, 124, 32] 0 [] (p ++ ([32, 124, 32] ++ joinL [32, 124, 32] (q :: r))) = p :: q :: r
    rw [spl_part (by simp) fun i hi => by
      cases z : pre [32, 124, 32] ((p ++ ([32, 124, 32] ++ joinL [32, 124, 32] (q :: r))).drop i) with
      | false => rfl
      | true =>
        have g := pre_bar z
        rw [List.getElem?_drop] at g
        by_cases hj : i + 1 < p.length
        · rw [List.getElem?_append_left hj] at g
          exact absurd (List.mem_of_getElem? g) h
        · have e : i + 1 - p.length = 0 := by omega
          rw [List.getElem?_append_right (by omega), e] at g
          have g2 := Option.some.inj g
          exact absurd g2 (by decide), spl_bar (by simp) fun x hx => hp x (List.mem_cons_of_mem _ hx)]
    rfl
theorem rows_back {w : Web} (h : WebOk w) : rowsOf (webText w) = w.map rowText := by
  have m := h.most
  have ey : tl (" | " : Str) = [32, 124, 32] := by decide +kernel
  unfold rowsOf webText
  refine map_tl_inj ?_
  rw [split_spl _ _ sep_r.ne (kind_ok sep_r.k), join_eq, tl_join, ey]
  refine spl_bar (fun e => ?_) fun p hp => ?_
  · have := List.map_eq_nil_iff.mp (List.map_eq_nil_iff.mp e)
    rw [this] at m
    exact absurd m.1 (by decide)
  · obtain ⟨x, hx, rfl⟩ := List.mem_map.mp hp
    obtain ⟨r, hr, rfl⟩ := List.mem_map.mp hx
    exact (row_fine (h.steps r hr)).2
theorem parse_back {w : Web} (h : WebOk w) : parseW (webText w) = some w := by
  have m := h.most
  have e : (w.map rowText).map stepsV = w := by
    rw [List.map_map]
    refine (List.map_congr_left fun r hr => ?_).trans (List.map_id w)
    exact (valid_back (h.steps r hr)).2
  have va : (w.map rowText).all validR = true := by
    rw [List.all_map, List.all_eq_true]
    intro r hr
    exact (valid_back (h.steps r hr)).1
  unfold parseW
  rw [rows_back h, e, if_pos ⟨by rw [List.length_map]; exact m.2, va, h.few⟩]
/-! ### .. and how long it is -/
theorem rowText_len {r : List Stp} (h : ∀ s ∈ r, StpOk s) : (rowText r).length ≤ r.length * 98 := by
  have := join_len "; " (r.map stepText) 96 fun p hp => by
    obtain ⟨s, hs, rfl⟩ := List.mem_map.mp hp
    exact (stepText_ok (h s hs)).1
  rw [l2, List.length_map] at this
  exact this
theorem webText_small {w : Web} (h : WebOk w) (few : (w.map List.length).sum ≤ 8) : Fine (webText w) ∧ (webText w).length ≤ 800 := by
  have m := h.most
  constructor
  · intro c hc
    rcases join_mem _ _ _ hc with z | ⟨p, hp, z⟩
    · exact fr c z
    · obtain ⟨r, hr, rfl⟩ := List.mem_map.mp hp
      exact (row_fine (h.steps r hr)).1 c z
  · have a := StrLaws.join_length_le " | " (w.map rowText)
    rw [← join_eq, l3, List.length_map] at a
    have b : ∀ w : Web, (∀ r ∈ w, ∀ s ∈ r, StpOk s) → ((w.map rowText).map (·.length)).sum ≤ (w.map List.length).sum * 98 := fun w => by
      induction w with
      | nil => intro _; simp
      | cons r w ih =>
        intro h
        have h1 := rowText_len (h r List.mem_cons_self)
        have h2 := ih fun q hq => h q (List.mem_cons_of_mem _ hq)
        rw [List.map_cons, List.map_cons, List.sum_cons, List.map_cons, List.sum_cons, Nat.add_mul]
        show (rowText r).length + _ ≤ _
        omega
    have c := b w h.steps
    show (Txt.join " | " (w.map rowText)).length ≤ 800
    have : (w.map List.length).sum * 98 ≤ 8 * 98 := Nat.mul_le_mul_right _ few
    omega
/-! ### shown -/
theorem jf_ok {a : Str} {ys : List Str} {n : Nat} (h : ∀ p ∈ ys, p.length ≤ n) (hl : ys.length * n + ys.length * a.length ≤ 16000000) : joinFits a ys = true := by
  refine decide_eq_true ?_
  have := sum_len ys n h
  rw [bigv]
  omega
theorem strsOf_map : ∀ l : List Str, strsOf (l.map PyData.str) = some l
  | [] => rfl
  | x :: l => by
    show (strsOf (l.map PyData.str)).map (fun xs => x :: xs) = _
    rw [strsOf_map l]
    rfl
theorem dJoin_ok {a : Str} {ys : List Str} (h : joinFits a ys = true) : dJoin a (.list (ys.map PyData.str)) = .ok (.str (Txt.join a ys)) := by
  show ((ofOpt (strsOf (ys.map PyData.str))).bind fun ys => if joinFits a ys = true then Res.ok (PyData.str (Txt.join a ys)) else .bad) = _
  rw [strsOf_map]
  show (if joinFits a ys = true then _ else _) = _
  rw [if_pos h]
theorem words_map {s : Stp} (h : StpOk s) : ∃ ds, eStp s = .tuple ds ∧ lcGo (fun d => (dStrOf d).bind fun e => .ok [e]) ds = .ok ((wordsS s).map PyData.str) := by
  cases s with
  | put b n =>
    have a1 := str_log (box_bd h.1)
    have a2 := str_log h.2
    exact ⟨_, rfl, by simp [lcGo, dStrOf, Res.bind, wordsS, strOf, a1, a2] <;> simp [Int.natAbs_natCast] at a1 <;> simp [a1]⟩
  | get b =>
    have a1 := str_log (box_bd h)
    exact ⟨_, rfl, by simp [lcGo, dStrOf, Res.bind, wordsS, strOf, a1] <;> simp [Int.natAbs_natCast] at a1 <;> simp [a1]⟩
  | fence => exact ⟨_, rfl, by simp [lcGo, dStrOf, Res.bind, wordsS]⟩
theorem shown_words {s : Stp} (h : StpOk s) {it : AF} {ρ : Rho} {i : Nat} {ds : List D} (e : eStp s = .tuple ds) (hi : it ρ = .ok ds) (hr : i < ρ.length) : eLc it (pName i) bYes (eArgs (d1 dStrOf) (aCons (eVar i) aNil)) [i] ρ = .ok (.list ((wordsS s).map PyData.str)) := by
  obtain ⟨ds', e', g⟩ := words_map h
  rw [e] at e'
  injection e' with e'
  subst e'
  unfold eLc
  rw [hi]
  have t : (lcTurn (pName i) bYes (eArgs (d1 dStrOf) (aCons (eVar i) aNil)) (wipeR ρ [i])) = fun d => (dStrOf d).bind fun e => .ok [e] := by
    funext d
    have hr' : i < (ρ.set i .no).length := by rw [List.length_set]; exact hr
    have g : ((ρ.set i Sl.no).set i (.p d))[i]? = some (.p d) := List.getElem?_set_self hr'
    simp only [lcTurn, pName, wipeR, bYes, eArgs, aCons, aNil, eVar, rget, Res.bind, g, d1, if_true]
  show (noExc (lcGo _ ds)).bind dLst = _
  rw [t, g]
  show dLst _ = _
  unfold dLst
  rw [if_pos (by rw [List.length_map, bigv]; have := (words_len h).1; omega)]
theorem shown_step_ok {s : Stp} (h : StpOk s) : F__shown_step [eStp s] = .ok (.str (stepText s)) := by
  obtain ⟨ds, e, _⟩ := words_map h
  obtain ⟨w1, w2⟩ := words_len h
  have g := shown_words (i := 1) (it := wSeq (eVar 0)) (ρ := [.p (eStp s), .no]) h e (by rw [e]; rfl) (by simp)
  have j := dJoin_ok (jf_ok (a := " ") (fun p hp => (w2 p hp).1) (by rw [l1]; omega))
  show noExc (retP (b__shown_step [.p (eStp s), .no])) = _
  unfold b__shown_step
  rw [sRet_ok (d := .str (stepText s)) (by
    unfold eM1
    show ((C1__shown_step [.p (eStp s), .no]).bind fun e => dJoin " " e) = _
    rw [show C1__shown_step _ = _ from g]
    exact j)]
  rfl
theorem shown_row_ok {r : List Stp} (h : ∀ s ∈ r, StpOk s) (hl : r.length ≤ 1000) : F__shown_row [eRow r] = .ok (.str (rowText r)) := by
  have g : C1__shown_row [.p (eRow r), .no] = .ok (.list (r.map fun s => .str (stepText s))) :=
    eLc_enc (f := eStp) (by simp [fnP, fnO, ins, retP, retO, sSeq, sIf, sAsg, sRet, sRetO, sSkip, sRetN, sRaise, sDrop, rOut, eOp, eUn, eVar, eC, rget, eArgs, aNil, aCons, eAnd, eOr, eNot, bOf, bNot, bAnd, bOr, bTru, dTru, bYes, eIf, eCall0, eCall, eChain, eSl, oNone, oSome, dSl, dAdd, dSub, dMod, dDiv, dNeg, dLt, dLtU, dLe, dGt, dGe, dIs, dIx, dIxI, d1, dLen1, dTup, dLst, dListOf, dListW, dTupOf, dIntOf, dIsi, isScr, tyName, scrOf, pName, pTup, psCons, psNil, Res.bind, noExc, ofOpt, patOut, loopOut, wipeR, lcTurn, eNL, noList, noListAll, eFlat, flatL, wSeq, wRange1, wRange2, wEnum, wRev, eRow]) (fun s hs => by simp [fnP, fnO, ins, retP, retO, sSeq, sIf, sAsg, sRet, sRetO, sSkip, sRetN, sRaise, sDrop, rOut, eOp, eUn, eVar, eC, rget, eArgs, aNil, aCons, eAnd, eOr, eNot, bOf, bNot, bAnd, bOr, bTru, dTru, bYes, eIf, eCall0, eCall, eChain, eSl, oNone, oSome, dSl, dAdd, dSub, dMod, dDiv, dNeg, dLt, dLtU, dLe, dGt, dGe, dIs, dIx, dIxI, d1, dLen1, dTup, dLst, dListOf, dListW, dTupOf, dIntOf, dIsi, isScr, tyName, scrOf, pName, pTup, psCons, psNil, Res.bind, noExc, ofOpt, patOut, loopOut, wipeR, lcTurn, eNL, noList, noListAll, eFlat, flatL, wSeq, wRange1, wRange2, wEnum, wRev, shown_step_ok (h s hs)]) (by rw [bigv]; omega)
  have g' : C1__shown_row [.p (eRow r), .no] = .ok (.list ((r.map stepText).map PyData.str)) := by rw [g, List.map_map]; rfl
  have j := dJoin_ok (jf_ok (a := "; ") (ys := r.map stepText) (n := 96) (fun p hp => by
    obtain ⟨s, hs, rfl⟩ := List.mem_map.mp hp
    exact (stepText_ok (h s hs)).1) (by rw [l2, List.length_map]; omega))
  show noExc (retP (b__shown_row [.p (eRow r), .no])) = _
  unfold b__shown_row
  rw [sRet_ok (d := .str (rowText r)) (by
    unfold eM1
    show ((C1__shown_row [.p (eRow r), .no]).bind fun e => dJoin "; " e) = _
    rw [g']
    exact j)]
  rfl
theorem shown_ok {w : Web} (h : WebOk w) (few : (w.map List.length).sum ≤ 8) : F_shown [eWeb w] = .ok (.str (webText w)) := by
  have m := h.most
  have rl : ∀ r ∈ w, r.length ≤ 8 := fun r hr => Nat.le_trans (mem_sum hr) few
  have g : C1_shown [.p (eWeb w), .no] = .ok (.list (w.map fun r => .str (rowText r))) :=
    eLc_enc (f := eRow) (by simp [fnP, fnO, ins, retP, retO, sSeq, sIf, sAsg, sRet, sRetO, sSkip, sRetN, sRaise, sDrop, rOut, eOp, eUn, eVar, eC, rget, eArgs, aNil, aCons, eAnd, eOr, eNot, bOf, bNot, bAnd, bOr, bTru, dTru, bYes, eIf, eCall0, eCall, eChain, eSl, oNone, oSome, dSl, dAdd, dSub, dMod, dDiv, dNeg, dLt, dLtU, dLe, dGt, dGe, dIs, dIx, dIxI, d1, dLen1, dTup, dLst, dListOf, dListW, dTupOf, dIntOf, dIsi, isScr, tyName, scrOf, pName, pTup, psCons, psNil, Res.bind, noExc, ofOpt, patOut, loopOut, wipeR, lcTurn, eNL, noList, noListAll, eFlat, flatL, wSeq, wRange1, wRange2, wEnum, wRev, need_web_ok h, eWeb] <;> (have := need_web_ok h; simp [eWeb] at this; simp [this])) (fun r hr => by simp [fnP, fnO, ins, retP, retO, sSeq, sIf, sAsg, sRet, sRetO, sSkip, sRetN, sRaise, sDrop, rOut, eOp, eUn, eVar, eC, rget, eArgs, aNil, aCons, eAnd, eOr, eNot, bOf, bNot, bAnd, bOr, bTru, dTru, bYes, eIf, eCall0, eCall, eChain, eSl, oNone, oSome, dSl, dAdd, dSub, dMod, dDiv, dNeg, dLt, dLtU, dLe, dGt, dGe, dIs, dIx, dIxI, d1, dLen1, dTup, dLst, dListOf, dListW, dTupOf, dIntOf, dIsi, isScr, tyName, scrOf, pName, pTup, psCons, psNil, Res.bind, noExc, ofOpt, patOut, loopOut, wipeR, lcTurn, eNL, noList, noListAll, eFlat, flatL, wSeq, wRange1, wRange2, wEnum, wRev, shown_row_ok (h.steps r hr) (h.short r hr)]) (by rw [bigv]; omega)
  have g' : C1_shown [.p (eWeb w), .no] = .ok (.list ((w.map rowText).map PyData.str)) := by rw [g, List.map_map]; rfl
  have j := dJoin_ok (jf_ok (a := " | ") (ys := w.map rowText) (n := 800) (fun p hp => by
    obtain ⟨r, hr, rfl⟩ := List.mem_map.mp hp
    have := rowText_len (h.steps r hr)
    have := rl r hr
    omega) (by rw [l3, List.length_map]; omega))
  show retP (b_shown [.p (eWeb w), .no]) = _
  unfold b_shown
  rw [sRet_ok (d := .str (webText w)) (by
    unfold eM1
    show ((C1_shown [.p (eWeb w), .no]).bind fun e => dJoin " | " e) = _
    rw [g']
    exact j)]
  rfl
end Pg

set_option Elab.async false
set_option linter.all false
set_option maxRecDepth 100000
set_option maxHeartbeats 4000000
namespace K12
open PySem PySem.Spec PyProof.Rows L2 Fw Pg
/-! ### the text by its places -/
def top (i : Nat) : Stmt := PySem.Challenge.pw_fencewright_k12_written_and_read.main.body.getD i (.Pass ⟨0, 0, 0, 0⟩)
abbrev s__law_cell_at : Stmt := top 33
abbrev s__law_changed : Stmt := top 38
abbrev s__law_number : Stmt := top 40
abbrev s__law_step : Stmt := top 41
abbrev s__law_due : Stmt := top 42
abbrev s__law_odd : Stmt := top 39
abbrev s__read_number : Stmt := top 28
abbrev s__read_step : Stmt := top 29
abbrev s__read_row : Stmt := top 30
abbrev s_is_whole : Stmt := top 12
abbrev s__is_box : Stmt := top 14
abbrev s__is_word : Stmt := top 13
abbrev s__is_worth : Stmt := top 15
abbrev s__is_step : Stmt := top 16
abbrev s__is_row : Stmt := top 18
abbrev s_is_fence : Stmt := top 17
abbrev s__puts_and_gets : Stmt := top 19
abbrev s_is_web : Stmt := top 20
abbrev s_read : Stmt := top 31
abbrev s__law_read : Stmt := top 43
abbrev s__law_same : Stmt := top 44
abbrev s__law_text_by : Stmt := top 37
abbrev s__law_number_by : Stmt := top 34
abbrev s__law_step_by : Stmt := top 35
abbrev s__law_web_by : Stmt := top 36
abbrev s__shown_step : Stmt := top 25
abbrev s__shown_row : Stmt := top 26
abbrev s_need_web : Stmt := top 21
abbrev s_shown : Stmt := top 27
abbrev s_law : Stmt := top 45
/-! ### what each def reckons -/
def b__law_changed : SF := (sSeq (sAsg (pName 2) (eC (.str " !\"#$&'()*+,-./0123456789:;<=>?@ABCDEFGHIJKLMNOPQRSTUVWXYZ[\\]^_`"))) (sSeq (sAsg (pName 2) (eOp dAdd (eVar 2) (eC (.str "abcdefghijklmnopqrstuvwxyz{|}~\n\t")))) (sSeq (sAsg (pName 3) (eOp dMod (eOp dDiv (eVar 1) (eC (.int 3))) (eOp dAdd (eArgs (d1 dLen1) (aCons (eVar 0) aNil)) (eC (.int 1))))) (sSeq (sAsg (pName 4) (eOp dIx (eVar 2) (eOp dMod (eOp dDiv (eVar 1) (eC (.int 7))) (eC (.int 96))))) (sSeq (sIf (bOf (eOp dEq (eOp dMod (eVar 1) (eC (.int 3))) (eC (.int 0)))) (sRet (eOp dAdd (eOp dAdd (eSl (eVar 0) oNone (oSome (eVar 3))) (eVar 4)) (eSl (eVar 0) (oSome (eVar 3)) oNone))) sSkip) (sSeq (sIf (bOf (eOp dEq (eOp dMod (eVar 1) (eC (.int 3))) (eC (.int 1)))) (sRet (eOp dAdd (eSl (eVar 0) oNone (oSome (eVar 3))) (eSl (eVar 0) (oSome (eOp dAdd (eVar 3) (eC (.int 1)))) oNone))) sSkip) (sRet (eOp dAdd (eOp dAdd (eSl (eVar 0) oNone (oSome (eVar 3))) (eVar 4)) (eSl (eVar 0) (oSome (eOp dAdd (eVar 3) (eC (.int 1)))) oNone)))))))))
def F__law_changed : List D → Res D := fun ds => noExc (fnP b__law_changed 5 2 ds)
def C1__law_number : EF := (eLc (wStr (eVar 1)) (pName 2) (bOf (eOp (dIn true) (eVar 2) (eC (.str "0123456789")))) (eVar 2) [2])
def b__law_number : SF := (sSeq (sAsg (pName 1) (eIf (bOf (eOp dEq (eSl (eVar 0) oNone (oSome (eC (.int 1)))) (eC (.str "-")))) (eSl (eVar 0) (oSome (eC (.int 1))) oNone) (eVar 0))) (sSeq (sIf (bOr (bNot (bOf (eChain dLe dLe (eC (.int 1)) (eArgs (d1 dLen1) (aCons (eVar 1) aNil)) (eC (.int 30))))) (bOf (eOp dNe C1__law_number (eArgs dLst aNil)))) (sRet (eC .none)) sSkip) (sSeq (sIf (bAnd (bOf (eOp dEq (eOp dIx (eVar 1) (eC (.int 0))) (eC (.str "0")))) (bOf (eOp dNe (eVar 0) (eC (.str "0"))))) (sRet (eC .none)) sSkip) (sRet (eArgs (d1 dIntT) (aCons (eVar 0) aNil))))))
def F__law_number : List D → Res D := fun ds => noExc (fnP b__law_number 3 1 ds)
def C1__law_step : EF := (eLc (wSeq (eSl (eVar 1) (oSome (eC (.int 1))) oNone)) (pName 3) bYes (eCall0 F__law_number (aCons (eVar 3) aNil)) [3])
def b__law_step : SF := (sSeq (sAsg (pName 1) (eM1 dSplit (eVar 0) (eC (.str " ")))) (sSeq (sIf (bOf (eOp dEq (eVar 1) (eArgs dLst (aCons (eC (.str "fence")) aNil)))) (sRet (eArgs dTup (aCons (eC (.str "fence")) aNil))) sSkip) (sSeq (sIf (bOr (bOf (eOp (dIn true) (eOp dIx (eVar 1) (eC (.int 0))) (eArgs dTup (aCons (eC (.str "put")) (aCons (eC (.str "get")) aNil))))) (bOf (eOp dNe (eArgs (d1 dLen1) (aCons (eVar 1) aNil)) (eOp dSub (eC (.int 3)) (eArgs (d1 dIntOf) (aCons (eOp dEq (eOp dIx (eVar 1) (eC (.int 0))) (eC (.str "get"))) aNil)))))) (sRet (eC .none)) sSkip) (sSeq (sAsg (pName 2) C1__law_step) (sSeq (sIf (bOr (bOf (eOp (dIn false) (eC .none) (eVar 2))) (bNot (bOf (eChain dLe dLe (eC (.int 0)) (eOp dIx (eVar 2) (eC (.int 0))) (eC (.int 3)))))) (sRet (eC .none)) sSkip) (sRet (eArgs (d1 dTupOf) (aCons (eOp dAdd (eArgs dLst (aCons (eOp dIx (eVar 1) (eC (.int 0))) aNil)) (eVar 2)) aNil))))))))
def F__law_step : List D → Res D := fun ds => noExc (fnP b__law_step 4 1 ds)
def C1__law_due : EF := (eLc (wSeq (eM1 dSplit (eVar 2) (eC (.str "; ")))) (pName 5) bYes (eCall0 F__law_step (aCons (eVar 5) aNil)) [5])
def L1__law_due : SF := (sApp false (plVar 1) (eIf (bOf (eOp dNe (eVar 2) (eC (.str "")))) C1__law_due (eArgs dLst aNil)))
def C2__law_due : EF := (eLc (wSeq (eVar 1)) (pName 4) (bOf (eOp (dIn false) (eC .none) (eVar 4))) (eVar 4) [4])
def C3__law_due : EF := (eLc (wSeq (eVar 4)) (pName 6) (bOf (eOp dNe (eVar 6) (eArgs dTup (aCons (eC (.str "fence")) aNil)))) (eVar 6) [6])
def L2__law_due : SF := (sAsg (pName 3) (eOp dAdd (eVar 3) (eArgs (d1 dLen1) (aCons C3__law_due aNil))))
def b__law_due : SF := (sSeq (sAsgO false 1 (eArgs dLst aNil)) (sSeq (sFor (wSeq (eM1 dSplit (eVar 0) (eC (.str " | ")))) (pName 2) L1__law_due) (sSeq (sFrz 1 (sIf (bOr (bOf (eOp dGt (eArgs (d1 dLen1) (aCons (eVar 1) aNil)) (eC (.int 3)))) (bOf (eOp dNe C2__law_due (eArgs dLst aNil)))) (sRet (eC .none)) sSkip)) (sSeq (sAsg (pName 3) (eC (.int 0))) (sSeq (sFor (wSeq (eVar 1)) (pName 4) L2__law_due) (sRet (eIf (bOf (eOp dLtU (eVar 3) (eC (.int 9)))) (eVar 1) (eC .none))))))))
def F__law_due : List D → Res D := fun ds => noExc (fnP b__law_due 7 1 ds)
def b__law_odd : SF := (sSeq (sAsg (pName 1) (eArgs dLst (aCons (eC (.str "")) (aCons (eC (.str " ")) (aCons (eC (.str "|")) (aCons (eC (.str " | ")) (aCons (eC (.str " |  |  | ")) (aCons (eC (.str "fence;")) (aCons (eC (.str "; fence")) (aCons (eC (.str "fence ")) (aCons (eC (.str " fence")) (aCons (eC (.str "fence fence")) (aCons (eC (.str "get 4")) (aCons (eC (.str "get -1")) aNil)))))))))))))) (sSeq (sAsg (pName 1) (eOp dAdd (eVar 1) (eArgs dLst (aCons (eC (.str "get")) (aCons (eC (.str "get 00")) (aCons (eC (.str "put 0")) (aCons (eC (.str "put 0 01")) (aCons (eC (.str "put 0 -0")) (aCons (eC (.str "put 0 +1")) (aCons (eC (.str "put 4 1")) (aCons (eC (.str "put 0 1;get 1")) (aCons (eC (.str "Get 0")) aNil)))))))))))) (sSeq (sAsg (pName 1) (eOp dAdd (eVar 1) (eArgs dLst (aCons (eOp dAdd (eC (.str "put 0 1")) (eOp dMul (eC (.str "0")) (eC (.int 30)))) (aCons (eOp dAdd (eOp dMul (eC (.str "get 0; ")) (eC (.int 8))) (eC (.str "get 0"))) (aCons (eC (.str "put 0 1 |get 0")) aNil)))))) (sRet (eOp dIx (eVar 1) (eOp dMod (eVar 0) (eC (.int 24))))))))
def F__law_odd : List D → Res D := fun ds => noExc (fnP b__law_odd 2 1 ds)
def b__law_read : SF := (sTryG 3 (sRet (eCall F_read (aCons (eVar 0) aNil))) (fun c => if ((c == 4) && (true && !(((c == 0) || (c == 1)) || ((c == 2) || (c == 3))))) then .none else .str "other"))
def F__law_read : List D → Res D := fun ds => noExc (fnP b__law_read 3 1 ds)
def C1__law_same : EF := (eLc (wSeq (eSl (eVar 3) (oSome (eC (.int 1))) oNone)) (pName 4) (bTru (eUn (dIsi "bool") (eVar 4))) (eVar 4) [4])
def L1__law_same : SF := (sIf (bOr (bNot (bTru (eUn (dIsi "tuple") (eVar 3)))) (bOf (eOp dNe C1__law_same (eArgs dLst aNil)))) (sRet (eC (.bool false))) sSkip)
def L2__law_same : SF := (sSeq (sIf (bNot (bTru (eUn (dIsi "list") (eVar 2)))) (sRet (eC (.bool false))) sSkip) (sFor (wSeq (eVar 2)) (pName 3) L1__law_same))
def b__law_same : SF := (sSeq (sIf (bOr (bNot (bTru (eUn (dIsi "list") (eVar 0)))) (bOf (eOp dNe (eVar 0) (eVar 1)))) (sRet (eC (.bool false))) sSkip) (sSeq (sFor (wSeq (eVar 0)) (pName 2) L2__law_same) (sRet (eC (.bool true)))))
def F__law_same : List D → Res D := fun ds => noExc (fnP b__law_same 5 2 ds)
def C1__law_text_by : EF := (eLc (wSeq (eVar 4)) (pName 5) bYes (eArgs (d1 dStrOf) (aCons (eVar 5) aNil)) [5])
def L1__law_text_by : SF := (sApp false (plVar 3) (eM1 dJoin (eC (.str " ")) C1__law_text_by))
def L2__law_text_by : SF := (sSeq (sAsgO false 3 (eArgs dLst aNil)) (sSeq (sFor (wSeq (eVar 2)) (pName 4) L1__law_text_by) (sApp false (plVar 1) (eBor 3 (eM1 dJoin (eC (.str "; ")) (eVar 3))))))
def b__law_text_by : SF := (sSeq (sAsgO false 1 (eArgs dLst aNil)) (sSeq (sFor (wSeq (eVar 0)) (pName 2) L2__law_text_by) (sFrz 1 (sRet (eM1 dJoin (eC (.str " | ")) (eVar 1))))))
def F__law_text_by : List D → Res D := fun ds => noExc (fnP b__law_text_by 6 1 ds)
def b__law_step_by : SF := (sSeq (sIf (bOf (eOp dLtU (eOp dMod (eVar 0) (eC (.int 7))) (eC (.int 3)))) (sRet (eArgs dTup (aCons (eC (.str "put")) (aCons (eOp dMod (eOp dDiv (eVar 0) (eC (.int 7))) (eC (.int 4))) (aCons (eCall0 F__law_number_by (aCons (eOp dDiv (eVar 0) (eC (.int 28))) aNil)) aNil))))) sSkip) (sSeq (sIf (bOf (eOp dLtU (eOp dMod (eVar 0) (eC (.int 7))) (eC (.int 6)))) (sRet (eArgs dTup (aCons (eC (.str "get")) (aCons (eOp dMod (eOp dDiv (eVar 0) (eC (.int 7))) (eC (.int 4))) aNil)))) sSkip) (sRet (eArgs dTup (aCons (eC (.str "fence")) aNil)))))
def F__law_step_by : List D → Res D := fun ds => noExc (fnP b__law_step_by 1 1 ds)
def C1__law_web_by : EF := (eLc (wRange1 (aCons (eOp dAdd (eC (.int 1)) (eOp dMod (eVar 1) (eC (.int 3)))) aNil)) (pName 3) bYes (eArgs dLst aNil) [3])
def L1__law_web_by : SF := (sSeq (sAsg (pName 4) (eCall0 F__law_cell_at (aCons (eVar 0) (aCons (eOp dAdd (eC (.int 2)) (eVar 3)) aNil)))) (sApp true (plIx (plVar 2) (eOp dMod (eOp dDiv (eVar 4) (eC (.int 11))) (eBor 2 (eArgs (d1 dLen1) (aCons (eVar 2) aNil))))) (eNL (eCall0 F__law_step_by (aCons (eOp dAdd (eVar 4) (eOp dMul (eC (.int 3)) (eVar 3))) aNil)))))
def b__law_web_by : SF := (sSeq (sAsg (pName 1) (eCall0 F__law_cell_at (aCons (eVar 0) (aCons (eC (.int 0)) aNil)))) (sSeq (sAsgO true 2 C1__law_web_by) (sSeq (sFor (wRange1 (aCons (eOp dMod (eOp dDiv (eVar 1) (eC (.int 3))) (eC (.int 9))) aNil)) (pName 3) L1__law_web_by) (sFrz 2 (sRet (eVar 2))))))
def F__law_web_by : List D → Res D := fun ds => noExc (fnP b__law_web_by 5 1 ds)
def C1_law : EF := (eLc (wSeq (eVar 1)) (pName 8) bYes (eArgs (d1 dListW) (aCons (eVar 8) aNil)) [8])
def b_law : SF := (sSeq (sAsg (pName 1) (eCall0 F__law_web_by (aCons (eVar 0) aNil))) (sSeq (sAsg (pName 2) (eCall0 F__law_text_by (aCons (eVar 1) aNil))) (sSeq (sAsg (pName 3) C1_law) (sSeq (sAsg (pName 4) (eCall F_shown (aCons (eVar 3) aNil))) (sSeq (sIf (bOr (bNot (bTru (eUn (dIsi "str") (eVar 4)))) (bOr (bOf (eOp dNe (eVar 4) (eVar 2))) (bOr (bOf (eOp dNe (eVar 3) (eVar 1))) (bNot (bTru (eCall0 F__law_same (aCons (eCall0 F__law_read (aCons (eVar 2) aNil)) (aCons (eVar 1) aNil)))))))) (sRet (eC (.bool false))) sSkip) (sSeq (sAsg (pName 5) (eCall0 F__law_cell_at (aCons (eVar 0) (aCons (eC (.int 1)) aNil)))) (sSeq (sIf (bOf (eOp dEq (eOp dMod (eVar 5) (eC (.int 4))) (eC (.int 3)))) (sRet (eOp dIsN (eCall0 F__law_read (aCons (eOp dIx (eArgs dLst (aCons (eC .none) (aCons (eC (.int 5)) (aCons (eArgs dLst (aCons (eC (.str "get 0")) aNil)) (aCons (eC (.bool true)) aNil))))) (eOp dMod (eOp dDiv (eVar 5) (eC (.int 4))) (eC (.int 4)))) aNil)) (eC .none))) sSkip) (sSeq (sIf (bOf (eOp dEq (eOp dMod (eVar 5) (eC (.int 4))) (eC (.int 2)))) (sAsg (pName 2) (eCall0 F__law_odd (aCons (eOp dDiv (eVar 5) (eC (.int 4))) aNil))) sSkip) (sSeq (sIf (bOf (eOp dEq (eOp dMod (eVar 5) (eC (.int 4))) (eC (.int 1)))) (sAsg (pName 2) (eCall0 F__law_changed (aCons (eVar 2) (aCons (eOp dDiv (eVar 5) (eC (.int 4))) aNil)))) sSkip) (sSeq (sAsg (pName 6) (eCall0 F__law_due (aCons (eVar 2) aNil))) (sSeq (sAsg (pName 7) (eCall0 F__law_read (aCons (eVar 2) aNil))) (sSeq (sIf (bOf (eOp dIsN (eVar 6) (eC .none))) (sRet (eOp dIsN (eVar 7) (eC .none))) sSkip) (sRet (eCall0 F__law_same (aCons (eVar 7) (aCons (eVar 6) aNil))))))))))))))))
def F_law : List D → Res D := fnP b_law 9 1
end K12

set_option Elab.async false
set_option linter.all false
set_option maxRecDepth 100000
set_option maxHeartbeats 4000000
namespace K12
open PySem PySem.Spec PyProof.Rows L2 Fw Pg
/-! ### what the head leaves -/
structure Txt (K : KW) (mg : Str → Option Value) where
  err : ErrT K
  hfa : K.fa = He.ga K.F
  gW : mg "WebError" = some (.ref (He.ga K "WebError"))
  gC0 : mg "BadWeb" = some (.ref (eC5 K 0))
  gC1 : mg "NoMove" = some (.ref (eC5 K 1))
  gC2 : mg "NotOver" = some (.ref (eC5 K 2))
  gC3 : mg "NoPlace" = some (.ref (eC5 K 3))
  gC4 : mg "NoText" = some (.ref (eC5 K 4))
  r0 : RaiseT K 0
  r4 : RaiseT K 4
  z_ValueError : mg "ValueError" = none
  z_all : mg "all" = none
  z_bool : mg "bool" = none
  z_int : mg "int" = none
  z_isinstance : mg "isinstance" = none
  z_len : mg "len" = none
  z_list : mg "list" = none
  z_range : mg "range" = none
  z_str : mg "str" = none
  z_sum : mg "sum" = none
  z_tuple : mg "tuple" = none
  u_BOXES : Value
  k_BOXES : mg "BOXES" = some u_BOXES
  v_BOXES : RelV (.int 4) u_BOXES
  r_BOXES : ∀ G : Hp, Rp K G (.int 4) d_BOXES
  u__FIGURES : Value
  k__FIGURES : mg "_FIGURES" = some u__FIGURES
  v__FIGURES : RelV (.str "0123456789") u__FIGURES
  r__FIGURES : ∀ G : Hp, Rp K G (.str "0123456789") d__FIGURES
  u__MOST_FIGURES : Value
  k__MOST_FIGURES : mg "_MOST_FIGURES" = some u__MOST_FIGURES
  v__MOST_FIGURES : RelV (.int 30) u__MOST_FIGURES
  r__MOST_FIGURES : ∀ G : Hp, Rp K G (.int 30) d__MOST_FIGURES
  u__MOST_HANDS : Value
  k__MOST_HANDS : mg "_MOST_HANDS" = some u__MOST_HANDS
  v__MOST_HANDS : RelV (.int 3) u__MOST_HANDS
  r__MOST_HANDS : ∀ G : Hp, Rp K G (.int 3) d__MOST_HANDS
  u__MOST_PUTS_AND_GETS : Value
  k__MOST_PUTS_AND_GETS : mg "_MOST_PUTS_AND_GETS" = some u__MOST_PUTS_AND_GETS
  v__MOST_PUTS_AND_GETS : RelV (.int 8) u__MOST_PUTS_AND_GETS
  r__MOST_PUTS_AND_GETS : ∀ G : Hp, Rp K G (.int 8) d__MOST_PUTS_AND_GETS
  u__TOO_FAR : Value
  k__TOO_FAR : mg "_TOO_FAR" = some u__TOO_FAR
  v__TOO_FAR : RelV (.int 1000000000000000000000000000000) u__TOO_FAR
  r__TOO_FAR : ∀ G : Hp, Rp K G (.int 1000000000000000000000000000000) d__TOO_FAR
  fd__law_cell_at : FuncData
  F__law_cell_at : Fun K "_law_cell_at" "_law_cell_at" s__law_cell_at (He.ga K "_law_cell_at") fd__law_cell_at
  g__law_cell_at : mg "_law_cell_at" = some (.ref (He.ga K "_law_cell_at"))
  b__law_cell_at : Binds K fd__law_cell_at ["_law_script", "_law_k"] []
  fd__law_changed : FuncData
  F__law_changed : Fun K "_law_changed" "_law_changed" s__law_changed (He.ga K "_law_changed") fd__law_changed
  g__law_changed : mg "_law_changed" = some (.ref (He.ga K "_law_changed"))
  b__law_changed : Binds K fd__law_changed ["_law_text", "_law_cell"] []
  fd__law_number : FuncData
  F__law_number : Fun K "_law_number" "_law_number" s__law_number (He.ga K "_law_number") fd__law_number
  g__law_number : mg "_law_number" = some (.ref (He.ga K "_law_number"))
  b__law_number : Binds K fd__law_number ["_law_word"] []
  fd__law_step : FuncData
  F__law_step : Fun K "_law_step" "_law_step" s__law_step (He.ga K "_law_step") fd__law_step
  g__law_step : mg "_law_step" = some (.ref (He.ga K "_law_step"))
  b__law_step : Binds K fd__law_step ["_law_text"] []
  fd__law_due : FuncData
  F__law_due : Fun K "_law_due" "_law_due" s__law_due (He.ga K "_law_due") fd__law_due
  g__law_due : mg "_law_due" = some (.ref (He.ga K "_law_due"))
  b__law_due : Binds K fd__law_due ["_law_text"] []
  fd__law_odd : FuncData
  F__law_odd : Fun K "_law_odd" "_law_odd" s__law_odd (He.ga K "_law_odd") fd__law_odd
  g__law_odd : mg "_law_odd" = some (.ref (He.ga K "_law_odd"))
  b__law_odd : Binds K fd__law_odd ["_law_cell"] []
  fd__read_number : FuncData
  F__read_number : Fun K "_read_number" "_read_number" s__read_number (He.ga K "_read_number") fd__read_number
  g__read_number : mg "_read_number" = some (.ref (He.ga K "_read_number"))
  b__read_number : Binds K fd__read_number ["word"] []
  fd__read_step : FuncData
  F__read_step : Fun K "_read_step" "_read_step" s__read_step (He.ga K "_read_step") fd__read_step
  g__read_step : mg "_read_step" = some (.ref (He.ga K "_read_step"))
  b__read_step : Binds K fd__read_step ["text"] []
  fd__read_row : FuncData
  F__read_row : Fun K "_read_row" "_read_row" s__read_row (He.ga K "_read_row") fd__read_row
  g__read_row : mg "_read_row" = some (.ref (He.ga K "_read_row"))
  b__read_row : Binds K fd__read_row ["text"] []
  fd_is_whole : FuncData
  F_is_whole : Fun K "is_whole" "is_whole" s_is_whole (He.ga K "is_whole") fd_is_whole
  g_is_whole : mg "is_whole" = some (.ref (He.ga K "is_whole"))
  b_is_whole : Binds K fd_is_whole ["thing"] []
  fd__is_box : FuncData
  F__is_box : Fun K "_is_box" "_is_box" s__is_box (He.ga K "_is_box") fd__is_box
  g__is_box : mg "_is_box" = some (.ref (He.ga K "_is_box"))
  b__is_box : Binds K fd__is_box ["thing"] []
  fd__is_word : FuncData
  F__is_word : Fun K "_is_word" "_is_word" s__is_word (He.ga K "_is_word") fd__is_word
  g__is_word : mg "_is_word" = some (.ref (He.ga K "_is_word"))
  b__is_word : Binds K fd__is_word ["thing", "word"] []
  fd__is_worth : FuncData
  F__is_worth : Fun K "_is_worth" "_is_worth" s__is_worth (He.ga K "_is_worth") fd__is_worth
  g__is_worth : mg "_is_worth" = some (.ref (He.ga K "_is_worth"))
  b__is_worth : Binds K fd__is_worth ["thing"] []
  fd__is_step : FuncData
  F__is_step : Fun K "_is_step" "_is_step" s__is_step (He.ga K "_is_step") fd__is_step
  g__is_step : mg "_is_step" = some (.ref (He.ga K "_is_step"))
  b__is_step : Binds K fd__is_step ["thing"] []
  fd__is_row : FuncData
  F__is_row : Fun K "_is_row" "_is_row" s__is_row (He.ga K "_is_row") fd__is_row
  g__is_row : mg "_is_row" = some (.ref (He.ga K "_is_row"))
  b__is_row : Binds K fd__is_row ["thing"] []
  fd_is_fence : FuncData
  F_is_fence : Fun K "is_fence" "is_fence" s_is_fence (He.ga K "is_fence") fd_is_fence
  g_is_fence : mg "is_fence" = some (.ref (He.ga K "is_fence"))
  b_is_fence : Binds K fd_is_fence ["step"] []
  fd__puts_and_gets : FuncData
  F__puts_and_gets : Fun K "_puts_and_gets" "_puts_and_gets" s__puts_and_gets (He.ga K "_puts_and_gets") fd__puts_and_gets
  g__puts_and_gets : mg "_puts_and_gets" = some (.ref (He.ga K "_puts_and_gets"))
  b__puts_and_gets : Binds K fd__puts_and_gets ["row"] []
  fd_is_web : FuncData
  F_is_web : Fun K "is_web" "is_web" s_is_web (He.ga K "is_web") fd_is_web
  g_is_web : mg "is_web" = some (.ref (He.ga K "is_web"))
  b_is_web : Binds K fd_is_web ["thing"] []
  fd_read : FuncData
  F_read : Fun K "read" "read" s_read (He.ga K "read") fd_read
  g_read : mg "read" = some (.ref (He.ga K "read"))
  b_read : Binds K fd_read ["text"] []
  fd__law_read : FuncData
  F__law_read : Fun K "_law_read" "_law_read" s__law_read (He.ga K "_law_read") fd__law_read
  g__law_read : mg "_law_read" = some (.ref (He.ga K "_law_read"))
  b__law_read : Binds K fd__law_read ["_law_text"] []
  fd__law_same : FuncData
  F__law_same : Fun K "_law_same" "_law_same" s__law_same (He.ga K "_law_same") fd__law_same
  g__law_same : mg "_law_same" = some (.ref (He.ga K "_law_same"))
  b__law_same : Binds K fd__law_same ["_law_found", "_law_web"] []
  fd__law_text_by : FuncData
  F__law_text_by : Fun K "_law_text_by" "_law_text_by" s__law_text_by (He.ga K "_law_text_by") fd__law_text_by
  g__law_text_by : mg "_law_text_by" = some (.ref (He.ga K "_law_text_by"))
  b__law_text_by : Binds K fd__law_text_by ["_law_web"] []
  fd__law_number_by : FuncData
  F__law_number_by : Fun K "_law_number_by" "_law_number_by" s__law_number_by (He.ga K "_law_number_by") fd__law_number_by
  g__law_number_by : mg "_law_number_by" = some (.ref (He.ga K "_law_number_by"))
  b__law_number_by : Binds K fd__law_number_by ["_law_cell"] []
  fd__law_step_by : FuncData
  F__law_step_by : Fun K "_law_step_by" "_law_step_by" s__law_step_by (He.ga K "_law_step_by") fd__law_step_by
  g__law_step_by : mg "_law_step_by" = some (.ref (He.ga K "_law_step_by"))
  b__law_step_by : Binds K fd__law_step_by ["_law_cell"] []
  fd__law_web_by : FuncData
  F__law_web_by : Fun K "_law_web_by" "_law_web_by" s__law_web_by (He.ga K "_law_web_by") fd__law_web_by
  g__law_web_by : mg "_law_web_by" = some (.ref (He.ga K "_law_web_by"))
  b__law_web_by : Binds K fd__law_web_by ["_law_script"] []
  fd__shown_step : FuncData
  F__shown_step : Fun K "_shown_step" "_shown_step" s__shown_step (He.ga K "_shown_step") fd__shown_step
  g__shown_step : mg "_shown_step" = some (.ref (He.ga K "_shown_step"))
  b__shown_step : Binds K fd__shown_step ["step"] []
  fd__shown_row : FuncData
  F__shown_row : Fun K "_shown_row" "_shown_row" s__shown_row (He.ga K "_shown_row") fd__shown_row
  g__shown_row : mg "_shown_row" = some (.ref (He.ga K "_shown_row"))
  b__shown_row : Binds K fd__shown_row ["row"] []
  fd_need_web : FuncData
  F_need_web : Fun K "need_web" "need_web" s_need_web (He.ga K "need_web") fd_need_web
  g_need_web : mg "need_web" = some (.ref (He.ga K "need_web"))
  b_need_web : Binds K fd_need_web ["web"] []
  fd_shown : FuncData
  F_shown : Fun K "shown" "shown" s_shown (He.ga K "shown") fd_shown
  g_shown : mg "shown" = some (.ref (He.ga K "shown"))
  b_shown : Binds K fd_shown ["web"] []
  fd_law : FuncData
  F_law : Fun K "law" "law" s_law (He.ga K "law") fd_law
  g_law : mg "law" = some (.ref (He.ga K "law"))
  b_law : Binds K fd_law ["_law_script"] []
/-! ### each def keeps it -/
theorem sc__law_cell_at : FnScope ["_law_script", "_law_k"] ["_law_script", "_law_k"] (defScope s__law_cell_at) := ⟨rfl, rfl, rfl, by decide +kernel, rfl, by decide +kernel, by decide +kernel⟩
theorem sc__law_changed : FnScope ["_law_text", "_law_cell", "_law_some", "_law_at", "_law_sign"] ["_law_text", "_law_cell"] (defScope s__law_changed) := ⟨rfl, rfl, rfl, by decide +kernel, rfl, by decide +kernel, by decide +kernel⟩
theorem sc__law_number : FnScope ["_law_word", "_law_figures", "_law_sign"] ["_law_word"] (defScope s__law_number) := ⟨rfl, rfl, rfl, by decide +kernel, rfl, by decide +kernel, by decide +kernel⟩
theorem sc__law_step : FnScope ["_law_text", "_law_words", "_law_numbers", "_law_word"] ["_law_text"] (defScope s__law_step) := ⟨rfl, rfl, rfl, by decide +kernel, rfl, by decide +kernel, by decide +kernel⟩
theorem sc__law_due : FnScope ["_law_text", "_law_web", "_law_part", "_law_deeds", "_law_row", "_law_one", "_law_step_here"] ["_law_text"] (defScope s__law_due) := ⟨rfl, rfl, rfl, by decide +kernel, rfl, by decide +kernel, by decide +kernel⟩
theorem sc__law_odd : FnScope ["_law_cell", "_law_some"] ["_law_cell"] (defScope s__law_odd) := ⟨rfl, rfl, rfl, by decide +kernel, rfl, by decide +kernel, by decide +kernel⟩
theorem sc__read_number : FnScope ["word", "figures", "sign"] ["word"] (defScope s__read_number) := ⟨rfl, rfl, rfl, by decide +kernel, rfl, by decide +kernel, by decide +kernel⟩
theorem sc__read_step : FnScope ["text", "words", "word"] ["text"] (defScope s__read_step) := ⟨rfl, rfl, rfl, by decide +kernel, rfl, by decide +kernel, by decide +kernel⟩
theorem sc__read_row : FnScope ["text", "part"] ["text"] (defScope s__read_row) := ⟨rfl, rfl, rfl, by decide +kernel, rfl, by decide +kernel, by decide +kernel⟩
theorem sc_is_whole : FnScope ["thing"] ["thing"] (defScope s_is_whole) := ⟨rfl, rfl, rfl, by decide +kernel, rfl, by decide +kernel, by decide +kernel⟩
theorem sc__is_box : FnScope ["thing"] ["thing"] (defScope s__is_box) := ⟨rfl, rfl, rfl, by decide +kernel, rfl, by decide +kernel, by decide +kernel⟩
theorem sc__is_word : FnScope ["thing", "word"] ["thing", "word"] (defScope s__is_word) := ⟨rfl, rfl, rfl, by decide +kernel, rfl, by decide +kernel, by decide +kernel⟩
theorem sc__is_worth : FnScope ["thing"] ["thing"] (defScope s__is_worth) := ⟨rfl, rfl, rfl, by decide +kernel, rfl, by decide +kernel, by decide +kernel⟩
theorem sc__is_step : FnScope ["thing"] ["thing"] (defScope s__is_step) := ⟨rfl, rfl, rfl, by decide +kernel, rfl, by decide +kernel, by decide +kernel⟩
theorem sc__is_row : FnScope ["thing", "step"] ["thing"] (defScope s__is_row) := ⟨rfl, rfl, rfl, by decide +kernel, rfl, by decide +kernel, by decide +kernel⟩
theorem sc_is_fence : FnScope ["step"] ["step"] (defScope s_is_fence) := ⟨rfl, rfl, rfl, by decide +kernel, rfl, by decide +kernel, by decide +kernel⟩
theorem sc__puts_and_gets : FnScope ["row", "step"] ["row"] (defScope s__puts_and_gets) := ⟨rfl, rfl, rfl, by decide +kernel, rfl, by decide +kernel, by decide +kernel⟩
theorem sc_is_web : FnScope ["thing", "row"] ["thing"] (defScope s_is_web) := ⟨rfl, rfl, rfl, by decide +kernel, rfl, by decide +kernel, by decide +kernel⟩
theorem sc_read : FnScope ["text", "web", "part"] ["text"] (defScope s_read) := ⟨rfl, rfl, rfl, by decide +kernel, rfl, by decide +kernel, by decide +kernel⟩
theorem sc__law_read : FnScope ["_law_text", "error", "_law_other"] ["_law_text"] (defScope s__law_read) := ⟨rfl, rfl, rfl, by decide +kernel, rfl, by decide +kernel, by decide +kernel⟩
theorem sc__law_same : FnScope ["_law_found", "_law_web", "_law_row", "_law_step_here", "_law_word"] ["_law_found", "_law_web"] (defScope s__law_same) := ⟨rfl, rfl, rfl, by decide +kernel, rfl, by decide +kernel, by decide +kernel⟩
theorem sc__law_text_by : FnScope ["_law_web", "_law_rows", "_law_row", "_law_parts", "_law_step_here", "_law_word"] ["_law_web"] (defScope s__law_text_by) := ⟨rfl, rfl, rfl, by decide +kernel, rfl, by decide +kernel, by decide +kernel⟩
theorem sc__law_number_by : FnScope ["_law_cell"] ["_law_cell"] (defScope s__law_number_by) := ⟨rfl, rfl, rfl, by decide +kernel, rfl, by decide +kernel, by decide +kernel⟩
theorem sc__law_step_by : FnScope ["_law_cell"] ["_law_cell"] (defScope s__law_step_by) := ⟨rfl, rfl, rfl, by decide +kernel, rfl, by decide +kernel, by decide +kernel⟩
theorem sc__law_web_by : FnScope ["_law_script", "_law_first", "_law_web", "_law_k", "_law_cell"] ["_law_script"] (defScope s__law_web_by) := ⟨rfl, rfl, rfl, by decide +kernel, rfl, by decide +kernel, by decide +kernel⟩
theorem sc__shown_step : FnScope ["step", "word"] ["step"] (defScope s__shown_step) := ⟨rfl, rfl, rfl, by decide +kernel, rfl, by decide +kernel, by decide +kernel⟩
theorem sc__shown_row : FnScope ["row", "step"] ["row"] (defScope s__shown_row) := ⟨rfl, rfl, rfl, by decide +kernel, rfl, by decide +kernel, by decide +kernel⟩
theorem sc_need_web : FnScope ["web", "row"] ["web"] (defScope s_need_web) := ⟨rfl, rfl, rfl, by decide +kernel, rfl, by decide +kernel, by decide +kernel⟩
theorem sc_shown : FnScope ["web", "row"] ["web"] (defScope s_shown) := ⟨rfl, rfl, rfl, by decide +kernel, rfl, by decide +kernel, by decide +kernel⟩
theorem sc_law : FnScope ["_law_script", "_law_web", "_law_text", "_law_handed", "_law_found", "_law_cell", "_law_due_here", "_law_told", "_law_row"] ["_law_script"] (defScope s_law) := ⟨rfl, rfl, rfl, by decide +kernel, rfl, by decide +kernel, by decide +kernel⟩
section
variable {P : Program} {K : KW} {mg : Str → Option Value} {base : Heap}
theorem bd__law_cell_at (T : Txt K mg) : BodyN P K.w K mg base ["_law_script", "_law_k"] "_law_cell_at" s__law_cell_at (He.ga K "_law_cell_at") 0 b__law_cell_at := by
  exact ⟨_, fun cdv A outer s H E hr => (pss_cons (ps_if (pt_cmpR (op_ltU (hu65 hr)) (pv 1) (pe_callB call_lenU (by rfl) T.z_len PySem.boot_len (pa_cons (pv 0) pa_nil)) (nomark _)) (pss_one (ps_ret (pe_ix (ix_U (hu65 hr)) (pv 0) (pv 1) (fun _ _ => rfl)))) pss_nil) (pss_one (ps_ret pe_int))), fun vs => (snds_seq (snds_if (sndt_test (snd_op rd_ltU q2_ltU snd_var (snd_cb rl_len (q1_1 q1_len) (snda_cons snd_var snda_nil)))) (snds_ret (snd_op rd_ix q2_ix snd_var snd_var)) snds_skip) (snds_ret snd_int))⟩
theorem ok__law_cell_at (T : Txt K mg) : FnOk P K.w K mg base CX0 1 (He.ga K "_law_cell_at") T.fd__law_cell_at ["_law_script", "_law_k"] (spP K (eC5 K) F__law_cell_at) :=
  mk_P T.F__law_cell_at sc__law_cell_at (by rfl) (by rfl) (bd__law_cell_at T) rfl
theorem bd__law_changed (T : Txt K mg) : BodyN P K.w K mg base ["_law_text", "_law_cell", "_law_some", "_law_at", "_law_sign"] "_law_changed" s__law_changed (He.ga K "_law_changed") 0 b__law_changed := by
  exact ⟨_, fun cdv A outer s H E hr => (pss_cons (ps_set (i := 2) sc__law_changed.nd rfl (Or.inl rfl) pe_str) (pss_cons (ps_set (i := 2) sc__law_changed.nd rfl (Or.inl rfl) (pe_op op_addU (pv 2) pe_str)) (pss_cons (ps_set (i := 3) sc__law_changed.nd rfl (Or.inl rfl) (pe_op op_modN (pe_op op_fdivN (pv 1) pe_int) (pe_op op_addU (pe_callB call_lenU (by rfl) T.z_len PySem.boot_len (pa_cons (pv 0) pa_nil)) pe_int))) (pss_cons (ps_set (i := 4) sc__law_changed.nd rfl (Or.inl rfl) (pe_ix (ix_U (hu65 hr)) (pv 2) (pe_op op_modN (pe_op op_fdivN (pv 1) pe_int) pe_int) (fun _ _ => rfl))) (pss_cons (ps_if (pt_cmpR (op_eqD (hr.units)) (pe_op op_modN (pv 1) pe_int) pe_int (nomark _)) (pss_one (ps_ret (pe_op op_addU (pe_op op_addU (pe_slice sl_U (pv 0) po_none (po_some (pv 3))) (pv 4)) (pe_slice sl_U (pv 0) (po_some (pv 3)) po_none)))) pss_nil) (pss_cons (ps_if (pt_cmpR (op_eqD (hr.units)) (pe_op op_modN (pv 1) pe_int) pe_int (nomark _)) (pss_one (ps_ret (pe_op op_addU (pe_slice sl_U (pv 0) po_none (po_some (pv 3))) (pe_slice sl_U (pv 0) (po_some (pe_op op_addU (pv 3) pe_int)) po_none)))) pss_nil) (pss_one (ps_ret (pe_op op_addU (pe_op op_addU (pe_slice sl_U (pv 0) po_none (po_some (pv 3))) (pv 4)) (pe_slice sl_U (pv 0) (po_some (pe_op op_addU (pv 3) pe_int)) po_none)))))))))), fun vs => (snds_seq (snds_asg snd_str sndg_name) (snds_seq (snds_asg (snd_of (sndo_op rdo_add q2_add snd_var snd_str)) sndg_name) (snds_seq (snds_asg (snd_op rd_mod q2_mod (snd_op rd_div q2_div snd_var snd_int) (snd_of (sndo_op rdo_add q2_add (snd_cb rl_len (q1_1 q1_len) (snda_cons snd_var snda_nil)) snd_int))) sndg_name) (snds_seq (snds_asg (snd_op rd_ix q2_ix snd_var (snd_op rd_mod q2_mod (snd_op rd_div q2_div snd_var snd_int) snd_int)) sndg_name) (snds_seq (snds_if (sndt_test (snd_op rd_eq q2_eq (snd_op rd_mod q2_mod snd_var snd_int) snd_int)) (snds_ret (snd_of (sndo_op rdo_add q2_add (snd_of (sndo_op rdo_add q2_add (snd_of (sndo_sl snd_var sndi_none (sndi_some snd_var))) snd_var)) (snd_of (sndo_sl snd_var (sndi_some snd_var) sndi_none))))) snds_skip) (snds_seq (snds_if (sndt_test (snd_op rd_eq q2_eq (snd_op rd_mod q2_mod snd_var snd_int) snd_int)) (snds_ret (snd_of (sndo_op rdo_add q2_add (snd_of (sndo_sl snd_var sndi_none (sndi_some snd_var))) (snd_of (sndo_sl snd_var (sndi_some (snd_of (sndo_op rdo_add q2_add snd_var snd_int))) sndi_none))))) snds_skip) (snds_ret (snd_of (sndo_op rdo_add q2_add (snd_of (sndo_op rdo_add q2_add (snd_of (sndo_sl snd_var sndi_none (sndi_some snd_var))) snd_var)) (snd_of (sndo_sl snd_var (sndi_some (snd_of (sndo_op rdo_add q2_add snd_var snd_int))) sndi_none)))))))))))⟩
theorem ok__law_changed (T : Txt K mg) : FnOk P K.w K mg base CX0 1 (He.ga K "_law_changed") T.fd__law_changed ["_law_text", "_law_cell"] (spP K (eC5 K) F__law_changed) :=
  mk_P T.F__law_changed sc__law_changed (by rfl) (by rfl) (bd__law_changed T) rfl
theorem bd__law_number (T : Txt K mg) : BodyN P K.w K mg base ["_law_word", "_law_figures", "_law_sign"] "_law_number" s__law_number (He.ga K "_law_number") 0 b__law_number := by
  exact ⟨_, fun cdv A outer s H E hr => (pss_cons (ps_set (i := 1) sc__law_number.nd rfl (Or.inl rfl) (pe_ifExp (pt_cmpR (op_eqD (hr.units)) (pe_slice sl_U (pv 0) po_none (po_some pe_int)) pe_str (nomark _)) (pe_slice sl_U (pv 0) (po_some pe_int) po_none) (pv 0))) (pss_cons (ps_if (PW.pt (pw_or (pt_not (pt_chain op_le op_le pe_int (pe_callB call_lenU (by rfl) T.z_len PySem.boot_len (pa_cons (pv 1) pa_nil)) pe_int)) (pw_or1 (pt_cmpR (op_neD (hr.units)) (pe_lc (own := [("_law_sign", 2)]) rfl sc__law_number.nd (pi_str (pv 1)) (blkOk_by (own := [("_law_sign", 2)]) (N := ["_law_word", "_law_figures", "_law_sign"]) (sc := defScope s__law_number) (by decide +kernel)) (fun _ _ _ _ _ => (pg_name (i := 2) sc__law_number.nd rfl (Or.inl rfl))) (fun _ _ _ _ _ => (pts_one (pt_cmpR (op_notInU (hu65 hr)) (pv 2) pe_str (by rfl)))) (fun _ _ _ _ _ => (pv 2))) (pe_lst pa_nil) (nomark _))))) (pss_one (ps_ret pe_non)) pss_nil) (pss_cons (ps_if (PW.pt (pw_and (pt_cmpR (op_eqD (hr.units)) (pe_ix (ix_U (hu65 hr)) (pv 1) pe_int (fun _ _ => rfl)) pe_str (nomark _)) (pw_and1 (pt_cmpR (op_neD (hr.units)) (pv 0) pe_str (nomark _))))) (pss_one (ps_ret pe_non)) pss_nil) (pss_one (ps_ret (pe_callTy call_int_str (by rfl) T.z_int (by decide +kernel) (pa_cons (pv 0) pa_nil))))))), fun vs => (snds_seq (snds_asg (snd_if (sndt_test (snd_op rd_eq q2_eq (snd_of (sndo_sl snd_var sndi_none (sndi_some snd_int))) snd_str)) (snd_of (sndo_sl snd_var (sndi_some snd_int) sndi_none)) snd_var) sndg_name) (snds_seq (snds_if (sndt_or (sndt_not (sndt_test (snd_chain rd_le q2_le rd_le q2_le snd_int (snd_cb rl_len (q1_1 q1_len) (snda_cons snd_var snda_nil)) snd_int))) (sndt_test (snd_op rd_ne q2_ne (snd_of (sndo_lc (bb := false) (sndw_str snd_var) sndg_name (sndt_test (snd_op rd_notin q2_notin snd_var snd_str)) (snde_p snd_var) (by decide))) (snd_of (sndo_lst (b := false) sndao_nil))))) (snds_ret snd_non) snds_skip) (snds_seq (snds_if (sndt_and (sndt_test (snd_op rd_eq q2_eq (snd_op rd_ix q2_ix snd_var snd_int) snd_str)) (sndt_test (snd_op rd_ne q2_ne snd_var snd_str))) (snds_ret snd_non) snds_skip) (snds_ret (snd_cb rl_intT (q1_1 q1_intT) (snda_cons snd_var snda_nil))))))⟩
theorem ok__law_number (T : Txt K mg) : FnOk P K.w K mg base CX0 1 (He.ga K "_law_number") T.fd__law_number ["_law_word"] (spP K (eC5 K) F__law_number) :=
  mk_P T.F__law_number sc__law_number (by rfl) (by rfl) (bd__law_number T) rfl
theorem bd__law_step (T : Txt K mg) : BodyN P K.w K mg base ["_law_text", "_law_words", "_law_numbers", "_law_word"] "_law_step" s__law_step (He.ga K "_law_step") 1 b__law_step := by
  exact ⟨_, fun cdv A outer s H E hr => (pss_cons (ps_set (i := 1) sc__law_step.nd rfl (Or.inl rfl) (pe_split (pv 0) pe_str)) (pss_cons (ps_if (pt_cmpR (op_eqD (hr.units)) (pv 1) (pe_lst (pa_cons pe_str pa_nil)) (nomark _)) (pss_one (ps_ret (pe_tup (pa_cons pe_str pa_nil)))) pss_nil) (pss_cons (ps_if (PW.pt (pw_or (pt_cmpR (op_notInU (hu65 hr)) (pe_ix (ix_U (hu65 hr)) (pv 1) pe_int (fun _ _ => rfl)) (pe_tup (pa_cons pe_str (pa_cons pe_str pa_nil))) (by rfl)) (pw_or1 (pt_cmpR (op_neD (hr.units)) (pe_callB call_lenU (by rfl) T.z_len PySem.boot_len (pa_cons (pv 1) pa_nil)) (pe_op op_sub pe_int (pe_callTy call_int1 (by rfl) T.z_int (by decide +kernel) (pa_cons (pe_cmpR (op_eqD (hr.units)) (pe_ix (ix_U (hu65 hr)) (pv 1) pe_int (fun _ _ => rfl)) pe_str (nomark _)) pa_nil))) (nomark _))))) (pss_one (ps_ret pe_non)) pss_nil) (pss_cons (ps_setLc (i := 2) (own := [("_law_word", 3)]) rfl sc__law_step.nd rfl rfl (sw_true rfl rfl rfl (by decide +kernel)) (pi_seq (pe_slice sl_U (pv 1) (po_some pe_int) po_none)) (blkOk_by (own := [("_law_word", 3)]) (N := ["_law_text", "_law_words", "_law_numbers", "_law_word"]) (sc := defScope s__law_step) (by decide +kernel)) (fun _ _ _ _ _ => (pg_name (i := 3) sc__law_step.nd rfl (Or.inl rfl))) (fun _ _ _ _ _ => pts_nil) (fun _ _ _ _ _ => (pe_call (ok__law_number T) (hr.mono (by decide)) (by rfl) T.g__law_number T.F__law_number.kp T.b__law_number .nil pass0 (pa_cons (pv 3) pa_nil)))) (pss_cons (ps_if (PW.pt (pw_or (pt_cmpR (op_inU (hu65 hr)) pe_non (pv 2) (by rfl)) (pw_or1 (pt_not (pt_chain op_le op_le pe_int (pe_ix (ix_U (hu65 hr)) (pv 2) pe_int (fun _ _ => rfl)) pe_int))))) (pss_one (ps_ret pe_non)) pss_nil) (pss_one (ps_ret (pe_callTy call_tuple_of (by rfl) T.z_tuple (by decide +kernel) (pa_cons (pe_op op_addU (pe_lst (pa_cons (pe_ix (ix_U (hu65 hr)) (pv 1) pe_int (fun _ _ => rfl)) pa_nil)) (pv 2)) pa_nil))))))))), fun vs => (snds_seq (snds_asg (snd_of (sndo_m1 rm_split qm_split snd_var snd_str)) sndg_name) (snds_seq (snds_if (sndt_test (snd_op rd_eq q2_eq snd_var (snd_of (sndo_lst (b := false) (sndao_cons (snde_p snd_str) sndao_nil))))) (snds_ret (snd_tup (snda_cons snd_str snda_nil))) snds_skip) (snds_seq (snds_if (sndt_or (sndt_test (snd_op rd_notin q2_notin (snd_op rd_ix q2_ix snd_var snd_int) (snd_tup (snda_cons snd_str (snda_cons snd_str snda_nil))))) (sndt_test (snd_op rd_ne q2_ne (snd_cb rl_len (q1_1 q1_len) (snda_cons snd_var snda_nil)) (snd_op rd_sub q2_sub snd_int (snd_cb rl_int (q1_1 q1_int) (snda_cons (snd_op rd_eq q2_eq (snd_op rd_ix q2_ix snd_var snd_int) snd_str) snda_nil)))))) (snds_ret snd_non) snds_skip) (snds_seq (snds_asg (snd_of (sndo_lc (bb := false) (sndw_seq (snd_of (sndo_sl snd_var (sndi_some snd_int) sndi_none))) sndg_name sndt_yes (snde_p (snd_call0 (snda_cons snd_var snda_nil))) (by decide))) sndg_name) (snds_seq (snds_if (sndt_or (sndt_test (snd_op rd_in q2_in snd_non snd_var)) (sndt_not (sndt_test (snd_chain rd_le q2_le rd_le q2_le snd_int (snd_op rd_ix q2_ix snd_var snd_int) snd_int)))) (snds_ret snd_non) snds_skip) (snds_ret (snd_cb rl_tup (q1_1 q1_tup) (snda_cons (snd_of (sndo_op rdo_add q2_add (snd_of (sndo_lst (b := false) (sndao_cons (snde_p (snd_op rd_ix q2_ix snd_var snd_int)) sndao_nil))) snd_var)) snda_nil))))))))⟩
theorem ok__law_step (T : Txt K mg) : FnOk P K.w K mg base CX0 2 (He.ga K "_law_step") T.fd__law_step ["_law_text"] (spP K (eC5 K) F__law_step) :=
  mk_P T.F__law_step sc__law_step (by rfl) (by rfl) (bd__law_step T) rfl
theorem bd__law_due (T : Txt K mg) : BodyN P K.w K mg base ["_law_text", "_law_web", "_law_part", "_law_deeds", "_law_row", "_law_one", "_law_step_here"] "_law_due" s__law_due (He.ga K "_law_due") 2 b__law_due := by
  exact ⟨_, fun cdv A outer s H E hr => (pss_cons (ps_set (i := 1) sc__law_due.nd rfl (Or.inl rfl) (pe_lst pa_nil)) (pss_cons (ps_for PassesOwn.never rfl (pi_seq (pe_split (pv 0) pe_str)) (pg_name (i := 2) sc__law_due.nd rfl (Or.inl rfl)) (pss_one (ps_expr (pe_bm PySem.F.plainAttrs_list PySem.F.slot_list_append PySem.F.type_list_append mt_append (pv 1) (pa_cons (pe_ifExp (pt_cmpR (op_neD (hr.units)) (pv 2) pe_str (nomark _)) (pe_lc (own := [("_law_one", 5)]) rfl sc__law_due.nd (pi_seq (pe_split (pv 2) pe_str)) (blkOk_by (own := [("_law_one", 5)]) (N := ["_law_text", "_law_web", "_law_part", "_law_deeds", "_law_row", "_law_one", "_law_step_here"]) (sc := defScope s__law_due) (by decide +kernel)) (fun _ _ _ _ _ => (pg_name (i := 5) sc__law_due.nd rfl (Or.inl rfl))) (fun _ _ _ _ _ => pts_nil) (fun _ _ _ _ _ => (pe_call (ok__law_step T) (hr.mono (by decide)) (by rfl) T.g__law_step T.F__law_step.kp T.b__law_step .nil pass0 (pa_cons (pv 5) pa_nil)))) (pe_lst pa_nil)) pa_nil))))) (pss_cons (ps_if (PW.pt (pw_or (pt_cmpR op_gt (pe_callB call_lenU (by rfl) T.z_len PySem.boot_len (pa_cons (pv 1) pa_nil)) pe_int (nomark _)) (pw_or1 (pt_cmpR (op_neD (hr.units)) (pe_lc (own := [("_law_row", 4)]) rfl sc__law_due.nd (pi_seq (pv 1)) (blkOk_by (own := [("_law_row", 4)]) (N := ["_law_text", "_law_web", "_law_part", "_law_deeds", "_law_row", "_law_one", "_law_step_here"]) (sc := defScope s__law_due) (by decide +kernel)) (fun _ _ _ _ _ => (pg_name (i := 4) sc__law_due.nd rfl (Or.inl rfl))) (fun _ _ _ _ _ => (pts_one (pt_cmpR (op_inU (hu65 hr)) pe_non (pv 4) (by rfl)))) (fun _ _ _ _ _ => (pv 4))) (pe_lst pa_nil) (nomark _))))) (pss_one (ps_ret pe_non)) pss_nil) (pss_cons (ps_set (i := 3) sc__law_due.nd rfl (Or.inl rfl) pe_int) (pss_cons (ps_for PassesOwn.never rfl (pi_seq (pv 1)) (pg_name (i := 4) sc__law_due.nd rfl (Or.inl rfl)) (pss_one (ps_set (i := 3) sc__law_due.nd rfl (Or.inl rfl) (pe_op op_addU (pv 3) (pe_callB call_lenU (by rfl) T.z_len PySem.boot_len (pa_cons (pe_lc (own := [("_law_step_here", 6)]) rfl sc__law_due.nd (pi_seq (pv 4)) (blkOk_by (own := [("_law_step_here", 6)]) (N := ["_law_text", "_law_web", "_law_part", "_law_deeds", "_law_row", "_law_one", "_law_step_here"]) (sc := defScope s__law_due) (by decide +kernel)) (fun _ _ _ _ _ => (pg_name (i := 6) sc__law_due.nd rfl (Or.inl rfl))) (fun _ _ _ _ _ => (pts_one (pt_cmpR (op_neD (hr.units)) (pv 6) (pe_tup (pa_cons pe_str pa_nil)) (nomark _)))) (fun _ _ _ _ _ => (pv 6))) pa_nil)))))) (pss_one (ps_ret (pe_ifExp (pt_cmpR (op_ltU (hu65 hr)) (pv 3) pe_int (nomark _)) (pv 1) pe_non)))))))), fun vs => (snds_seq (snds_asgO (sndo_lst (b := false) sndao_nil)) (snds_seq (snds_for (sndw_seq (snd_of (sndo_m1 rm_split qm_split snd_var snd_str))) sndg_name (snds_app (b := false) sndp_var (snde_p (snd_if (sndt_test (snd_op rd_ne q2_ne snd_var snd_str)) (snd_of (sndo_lc (bb := false) (sndw_seq (snd_of (sndo_m1 rm_split qm_split snd_var snd_str))) sndg_name sndt_yes (snde_p (snd_call0 (snda_cons snd_var snda_nil))) (by decide))) (snd_of (sndo_lst (b := false) sndao_nil)))))) (snds_seq (snds_frz (i := 1) (snds_if (sndt_or (sndt_test (snd_op rd_gt q2_gt (snd_cb rl_len (q1_1 q1_len) (snda_cons snd_var snda_nil)) snd_int)) (sndt_test (snd_op rd_ne q2_ne (snd_of (sndo_lc (bb := false) (sndw_seq snd_var) sndg_name (sndt_test (snd_op rd_in q2_in snd_non snd_var)) (snde_p snd_var) (by decide))) (snd_of (sndo_lst (b := false) sndao_nil))))) (snds_ret snd_non) snds_skip)) (snds_seq (snds_asg snd_int sndg_name) (snds_seq (snds_for (sndw_seq snd_var) sndg_name (snds_asg (snd_of (sndo_op rdo_add q2_add snd_var (snd_cb rl_len (q1_1 q1_len) (snda_cons (snd_of (sndo_lc (bb := false) (sndw_seq snd_var) sndg_name (sndt_test (snd_op rd_ne q2_ne snd_var (snd_tup (snda_cons snd_str snda_nil)))) (snde_p snd_var) (by decide))) snda_nil)))) sndg_name)) (snds_ret (snd_if (sndt_test (snd_op rd_ltU q2_ltU snd_var snd_int)) snd_var snd_non)))))))⟩
theorem ok__law_due (T : Txt K mg) : FnOk P K.w K mg base CX0 3 (He.ga K "_law_due") T.fd__law_due ["_law_text"] (spP K (eC5 K) F__law_due) :=
  mk_P T.F__law_due sc__law_due (by rfl) (by rfl) (bd__law_due T) rfl
theorem bd__law_odd (T : Txt K mg) : BodyN P K.w K mg base ["_law_cell", "_law_some"] "_law_odd" s__law_odd (He.ga K "_law_odd") 0 b__law_odd := by
  exact ⟨_, fun cdv A outer s H E hr => (pss_cons (ps_set (i := 1) sc__law_odd.nd rfl (Or.inl rfl) (pe_lst (pa_cons pe_str (pa_cons pe_str (pa_cons pe_str (pa_cons pe_str (pa_cons pe_str (pa_cons pe_str (pa_cons pe_str (pa_cons pe_str (pa_cons pe_str (pa_cons pe_str (pa_cons pe_str (pa_cons pe_str pa_nil)))))))))))))) (pss_cons (ps_set (i := 1) sc__law_odd.nd rfl (Or.inl rfl) (pe_op op_addU (pv 1) (pe_lst (pa_cons pe_str (pa_cons pe_str (pa_cons pe_str (pa_cons pe_str (pa_cons pe_str (pa_cons pe_str (pa_cons pe_str (pa_cons pe_str (pa_cons pe_str pa_nil)))))))))))) (pss_cons (ps_set (i := 1) sc__law_odd.nd rfl (Or.inl rfl) (pe_op op_addU (pv 1) (pe_lst (pa_cons (pe_op op_addU pe_str (pe_op op_mulU pe_str pe_int)) (pa_cons (pe_op op_addU (pe_op op_mulU pe_str pe_int) pe_str) (pa_cons pe_str pa_nil)))))) (pss_one (ps_ret (pe_ix (ix_U (hu65 hr)) (pv 1) (pe_op op_modN (pv 0) pe_int) (fun _ _ => rfl))))))), fun vs => (snds_seq (snds_asg (snd_of (sndo_lst (b := false) (sndao_cons (snde_p snd_str) (sndao_cons (snde_p snd_str) (sndao_cons (snde_p snd_str) (sndao_cons (snde_p snd_str) (sndao_cons (snde_p snd_str) (sndao_cons (snde_p snd_str) (sndao_cons (snde_p snd_str) (sndao_cons (snde_p snd_str) (sndao_cons (snde_p snd_str) (sndao_cons (snde_p snd_str) (sndao_cons (snde_p snd_str) (sndao_cons (snde_p snd_str) sndao_nil)))))))))))))) sndg_name) (snds_seq (snds_asg (snd_of (sndo_op rdo_add q2_add snd_var (snd_of (sndo_lst (b := false) (sndao_cons (snde_p snd_str) (sndao_cons (snde_p snd_str) (sndao_cons (snde_p snd_str) (sndao_cons (snde_p snd_str) (sndao_cons (snde_p snd_str) (sndao_cons (snde_p snd_str) (sndao_cons (snde_p snd_str) (sndao_cons (snde_p snd_str) (sndao_cons (snde_p snd_str) sndao_nil))))))))))))) sndg_name) (snds_seq (snds_asg (snd_of (sndo_op rdo_add q2_add snd_var (snd_of (sndo_lst (b := false) (sndao_cons (snde_p (snd_of (sndo_op rdo_add q2_add snd_str (snd_of (sndo_op rdo_mul q2_mul snd_str snd_int))))) (sndao_cons (snde_p (snd_of (sndo_op rdo_add q2_add (snd_of (sndo_op rdo_mul q2_mul snd_str snd_int)) snd_str))) (sndao_cons (snde_p snd_str) sndao_nil))))))) sndg_name) (snds_ret (snd_op rd_ix q2_ix snd_var (snd_op rd_mod q2_mod snd_var snd_int))))))⟩
theorem ok__law_odd (T : Txt K mg) : FnOk P K.w K mg base CX0 1 (He.ga K "_law_odd") T.fd__law_odd ["_law_cell"] (spP K (eC5 K) F__law_odd) :=
  mk_P T.F__law_odd sc__law_odd (by rfl) (by rfl) (bd__law_odd T) rfl
theorem bd__read_number (T : Txt K mg) : BodyN P K.w K mg base ["word", "figures", "sign"] "_read_number" s__read_number (He.ga K "_read_number") 0 b__read_number := by
  exact ⟨_, fun cdv A outer s H E hr => (pss_cons (ps_set (i := 1) sc__read_number.nd rfl (Or.inl rfl) (pe_m1 PySem.F.slot_str_removeprefix PySem.F.type_str_removeprefix mt_removeprefix (pv 0) pe_str)) (pss_cons (ps_if (PW.pt (pw_or (pt_not (pt_chain op_le op_le pe_int (pe_callB call_lenU (by rfl) T.z_len PySem.boot_len (pa_cons (pv 1) pa_nil)) (pe_glob (by rfl) T.k__MOST_FIGURES T.v__MOST_FIGURES))) (pw_or1 (pt_not (pt_truth (pe_callB (cr_all rfl) (by rfl) T.z_all (by decide +kernel) (pa_cons (pe_lc (own := [("sign", 2)]) rfl sc__read_number.nd (pi_str (pv 1)) (blkOk_by (own := [("sign", 2)]) (N := ["word", "figures", "sign"]) (sc := defScope s__read_number) (by decide +kernel)) (fun _ _ _ _ _ => (pg_name (i := 2) sc__read_number.nd rfl (Or.inl rfl))) (fun _ _ _ _ _ => pts_nil) (fun _ _ _ _ _ => (pe_cmpR (op_inU (hu65 hr)) (pv 2) (pe_glob (by rfl) T.k__FIGURES T.v__FIGURES) (by rfl)))) pa_nil)) (by intro _; rfl)))))) (pss_one (ps_ret pe_non)) pss_nil) (pss_cons (ps_if (PW.pt (pw_and (pt_truth (pe_m1 PySem.F.slot_str_startswith PySem.F.type_str_startswith mt_startswith (pv 1) pe_str) (by intro _; rfl)) (pw_and1 (pt_cmpR (op_neD (hr.units)) (pv 0) pe_str (nomark _))))) (pss_one (ps_ret pe_non)) pss_nil) (pss_one (ps_ret (pe_callTy call_int_str (by rfl) T.z_int (by decide +kernel) (pa_cons (pv 0) pa_nil))))))), fun vs => (snds_seq (snds_asg (snd_m1 rm_remp qm_remp snd_var snd_str) sndg_name) (snds_seq (snds_if (sndt_or (sndt_not (sndt_test (snd_chain rd_le q2_le rd_le q2_le snd_int (snd_cb rl_len (q1_1 q1_len) (snda_cons snd_var snda_nil)) (snd_glob (d := d__MOST_FIGURES) T.r__MOST_FIGURES)))) (sndt_not (sndt_tru (snd_cb rl_all (q1_1 q1_all) (snda_cons (snd_of (sndo_lc (bb := false) (sndw_str snd_var) sndg_name sndt_yes (snde_p (snd_op rd_in q2_in snd_var (snd_glob (d := d__FIGURES) T.r__FIGURES))) (by decide))) snda_nil))))) (snds_ret snd_non) snds_skip) (snds_seq (snds_if (sndt_and (sndt_tru (snd_m1 rm_startsw qm_startsw snd_var snd_str)) (sndt_test (snd_op rd_ne q2_ne snd_var snd_str))) (snds_ret snd_non) snds_skip) (snds_ret (snd_cb rl_intT (q1_1 q1_intT) (snda_cons snd_var snda_nil))))))⟩
theorem ok__read_number (T : Txt K mg) : FnOk P K.w K mg base CX0 1 (He.ga K "_read_number") T.fd__read_number ["word"] (spP K (eC5 K) F__read_number) :=
  mk_P T.F__read_number sc__read_number (by rfl) (by rfl) (bd__read_number T) rfl
theorem bd__read_step (T : Txt K mg) : BodyN P K.w K mg base ["text", "words", "word"] "_read_step" s__read_step (He.ga K "_read_step") 1 b__read_step := by
  exact ⟨_, fun cdv A outer s H E hr => (pss_cons (ps_set (i := 1) sc__read_step.nd rfl (Or.inl rfl) (pe_split (pv 0) pe_str)) (pss_one (ps_ret (pe_callTy call_tuple_of (by rfl) T.z_tuple (by decide +kernel) (pa_cons (pe_op op_addU (pe_slice sl_U (pv 1) po_none (po_some pe_int)) (pe_lc (own := [("word", 2)]) rfl sc__read_step.nd (pi_seq (pe_slice sl_U (pv 1) (po_some pe_int) po_none)) (blkOk_by (own := [("word", 2)]) (N := ["text", "words", "word"]) (sc := defScope s__read_step) (by decide +kernel)) (fun _ _ _ _ _ => (pg_name (i := 2) sc__read_step.nd rfl (Or.inl rfl))) (fun _ _ _ _ _ => pts_nil) (fun _ _ _ _ _ => (pe_call (ok__read_number T) (hr.mono (by decide)) (by rfl) T.g__read_number T.F__read_number.kp T.b__read_number .nil pass0 (pa_cons (pv 2) pa_nil))))) pa_nil))))), fun vs => (snds_seq (snds_asg (snd_of (sndo_m1 rm_split qm_split snd_var snd_str)) sndg_name) (snds_ret (snd_cb rl_tup (q1_1 q1_tup) (snda_cons (snd_of (sndo_op rdo_add q2_add (snd_of (sndo_sl snd_var sndi_none (sndi_some snd_int))) (snd_of (sndo_lc (bb := false) (sndw_seq (snd_of (sndo_sl snd_var (sndi_some snd_int) sndi_none))) sndg_name sndt_yes (snde_p (snd_call0 (snda_cons snd_var snda_nil))) (by decide))))) snda_nil))))⟩
theorem ok__read_step (T : Txt K mg) : FnOk P K.w K mg base CX0 2 (He.ga K "_read_step") T.fd__read_step ["text"] (spP K (eC5 K) F__read_step) :=
  mk_P T.F__read_step sc__read_step (by rfl) (by rfl) (bd__read_step T) rfl
theorem bd__read_row (T : Txt K mg) : BodyN P K.w K mg base ["text", "part"] "_read_row" s__read_row (He.ga K "_read_row") 2 b__read_row := by
  exact ⟨_, fun cdv A outer s H E hr => (pss_cons (ps_if (pt_cmpR (op_eqD (hr.units)) (pv 0) pe_str (nomark _)) (pss_one (ps_ret (pe_lst pa_nil))) pss_nil) (pss_one (ps_ret (pe_lc (own := [("part", 1)]) rfl sc__read_row.nd (pi_seq (pe_split (pv 0) pe_str)) (blkOk_by (own := [("part", 1)]) (N := ["text", "part"]) (sc := defScope s__read_row) (by decide +kernel)) (fun _ _ _ _ _ => (pg_name (i := 1) sc__read_row.nd rfl (Or.inl rfl))) (fun _ _ _ _ _ => pts_nil) (fun _ _ _ _ _ => (pe_call (ok__read_step T) (hr.mono (by decide)) (by rfl) T.g__read_step T.F__read_step.kp T.b__read_step .nil pass0 (pa_cons (pv 1) pa_nil))))))), fun vs => (snds_seq (snds_if (sndt_test (snd_op rd_eq q2_eq snd_var snd_str)) (snds_ret (snd_of (sndo_lst (b := false) sndao_nil))) snds_skip) (snds_ret (snd_of (sndo_lc (bb := false) (sndw_seq (snd_of (sndo_m1 rm_split qm_split snd_var snd_str))) sndg_name sndt_yes (snde_p (snd_call0 (snda_cons snd_var snda_nil))) (by decide)))))⟩
theorem ok__read_row (T : Txt K mg) : FnOk P K.w K mg base CX0 3 (He.ga K "_read_row") T.fd__read_row ["text"] (spP K (eC5 K) F__read_row) :=
  mk_P T.F__read_row sc__read_row (by rfl) (by rfl) (bd__read_row T) rfl
theorem bd_is_whole (T : Txt K mg) : BodyN P K.w K mg base ["thing"] "is_whole" s_is_whole (He.ga K "is_whole") 0 b_is_whole := by
  exact ⟨_, fun cdv A outer s H E hr => (pss_one (ps_ret (pe_and (pe_callB call_isi (by rfl) T.z_isinstance (by decide +kernel) (pa_cons (pv 0) (pa_cons (pe_bltn (v := .ty "int") (by rfl) T.z_int (by decide +kernel) rfl) pa_nil))) (pe_one (pe_not (pe_callB call_isi (by rfl) T.z_isinstance (by decide +kernel) (pa_cons (pv 0) (pa_cons (pe_bltn (v := .ty "bool") (by rfl) T.z_bool (by decide +kernel) rfl) pa_nil)))))))), fun vs => (snds_ret (snd_and (snd_isi snd_var) (snd_not (snd_isi snd_var))))⟩
theorem ok_is_whole (T : Txt K mg) : FnOk P K.w K mg base CX0 1 (He.ga K "is_whole") T.fd_is_whole ["thing"] (spP K (eC5 K) F_is_whole) :=
  mk_P T.F_is_whole sc_is_whole (by rfl) (by rfl) (bd_is_whole T) rfl
theorem bd__is_box (T : Txt K mg) : BodyN P K.w K mg base ["thing"] "_is_box" s__is_box (He.ga K "_is_box") 1 b__is_box := by
  exact ⟨_, fun cdv A outer s H E hr => (pss_one (ps_ret (pe_and (pe_call (ok_is_whole T) (hr.mono (by decide)) (by rfl) T.g_is_whole T.F_is_whole.kp T.b_is_whole .nil pass0 (pa_cons (pv 0) pa_nil)) (pe_one (pe_chain op_le (op_ltU (hu65 hr)) pe_int (pv 0) (pe_glob (by rfl) T.k_BOXES T.v_BOXES)))))), fun vs => (snds_ret (snd_and (snd_call0 (snda_cons snd_var snda_nil)) (snd_chain rd_le q2_le rd_ltU q2_ltU snd_int snd_var (snd_glob (d := d_BOXES) T.r_BOXES))))⟩
theorem ok__is_box (T : Txt K mg) : FnOk P K.w K mg base CX0 2 (He.ga K "_is_box") T.fd__is_box ["thing"] (spP K (eC5 K) F__is_box) :=
  mk_P T.F__is_box sc__is_box (by rfl) (by rfl) (bd__is_box T) rfl
theorem bd__is_word (T : Txt K mg) : BodyN P K.w K mg base ["thing", "word"] "_is_word" s__is_word (He.ga K "_is_word") 0 b__is_word := by
  exact ⟨_, fun cdv A outer s H E hr => (pss_one (ps_ret (pe_and (pe_callB call_isi (by rfl) T.z_isinstance (by decide +kernel) (pa_cons (pv 0) (pa_cons (pe_bltn (v := .ty "str") (by rfl) T.z_str (by decide +kernel) rfl) pa_nil))) (pe_one (pe_cmpR (op_eqD (hr.units)) (pv 0) (pv 1) (nomark _)))))), fun vs => (snds_ret (snd_and (snd_isi snd_var) (snd_op rd_eq q2_eq snd_var snd_var)))⟩
theorem ok__is_word (T : Txt K mg) : FnOk P K.w K mg base CX0 1 (He.ga K "_is_word") T.fd__is_word ["thing", "word"] (spP K (eC5 K) F__is_word) :=
  mk_P T.F__is_word sc__is_word (by rfl) (by rfl) (bd__is_word T) rfl
theorem bd__is_worth (T : Txt K mg) : BodyN P K.w K mg base ["thing"] "_is_worth" s__is_worth (He.ga K "_is_worth") 1 b__is_worth := by
  exact ⟨_, fun cdv A outer s H E hr => (pss_one (ps_ret (pe_and (pe_call (ok_is_whole T) (hr.mono (by decide)) (by rfl) T.g_is_whole T.F_is_whole.kp T.b_is_whole .nil pass0 (pa_cons (pv 0) pa_nil)) (pe_one (pe_chain (op_ltU (hu65 hr)) (op_ltU (hu65 hr)) (pe_un un_neg (pe_glob (by rfl) T.k__TOO_FAR T.v__TOO_FAR)) (pv 0) (pe_glob (by rfl) T.k__TOO_FAR T.v__TOO_FAR)))))), fun vs => (snds_ret (snd_and (snd_call0 (snda_cons snd_var snda_nil)) (snd_chain rd_ltU q2_ltU rd_ltU q2_ltU (snd_un ru_neg q1_neg (snd_glob (d := d__TOO_FAR) T.r__TOO_FAR)) snd_var (snd_glob (d := d__TOO_FAR) T.r__TOO_FAR))))⟩
theorem ok__is_worth (T : Txt K mg) : FnOk P K.w K mg base CX0 2 (He.ga K "_is_worth") T.fd__is_worth ["thing"] (spP K (eC5 K) F__is_worth) :=
  mk_P T.F__is_worth sc__is_worth (by rfl) (by rfl) (bd__is_worth T) rfl
theorem bd__is_step (T : Txt K mg) : BodyN P K.w K mg base ["thing"] "_is_step" s__is_step (He.ga K "_is_step") 2 b__is_step := by
  exact ⟨_, fun cdv A outer s H E hr => (pss_cons (ps_if (pt_not (pt_truth (pe_callB call_isi (by rfl) T.z_isinstance (by decide +kernel) (pa_cons (pv 0) (pa_cons (pe_bltn (v := .ty "tuple") (by rfl) T.z_tuple (by decide +kernel) rfl) pa_nil))) (by intro _; rfl))) (pss_one (ps_ret pe_bl)) pss_nil) (pss_cons (ps_if (pt_cmpR (op_eqD (hr.units)) (pe_callB call_lenU (by rfl) T.z_len PySem.boot_len (pa_cons (pv 0) pa_nil)) pe_int (nomark _)) (pss_one (ps_ret (pe_and (pe_call (ok__is_word T) (hr.mono (by decide)) (by rfl) T.g__is_word T.F__is_word.kp T.b__is_word .nil pass0 (pa_cons (pe_ix (ix_U (hu65 hr)) (pv 0) pe_int (fun _ _ => rfl)) (pa_cons pe_str pa_nil))) (pe_and (pe_call (ok__is_box T) (hr.mono (by decide)) (by rfl) T.g__is_box T.F__is_box.kp T.b__is_box .nil pass0 (pa_cons (pe_ix (ix_U (hu65 hr)) (pv 0) pe_int (fun _ _ => rfl)) pa_nil)) (pe_one (pe_call (ok__is_worth T) (hr.mono (by decide)) (by rfl) T.g__is_worth T.F__is_worth.kp T.b__is_worth .nil pass0 (pa_cons (pe_ix (ix_U (hu65 hr)) (pv 0) pe_int (fun _ _ => rfl)) pa_nil))))))) pss_nil) (pss_cons (ps_if (pt_cmpR (op_eqD (hr.units)) (pe_callB call_lenU (by rfl) T.z_len PySem.boot_len (pa_cons (pv 0) pa_nil)) pe_int (nomark _)) (pss_one (ps_ret (pe_and (pe_call (ok__is_word T) (hr.mono (by decide)) (by rfl) T.g__is_word T.F__is_word.kp T.b__is_word .nil pass0 (pa_cons (pe_ix (ix_U (hu65 hr)) (pv 0) pe_int (fun _ _ => rfl)) (pa_cons pe_str pa_nil))) (pe_one (pe_call (ok__is_box T) (hr.mono (by decide)) (by rfl) T.g__is_box T.F__is_box.kp T.b__is_box .nil pass0 (pa_cons (pe_ix (ix_U (hu65 hr)) (pv 0) pe_int (fun _ _ => rfl)) pa_nil)))))) pss_nil) (pss_one (ps_ret (pe_and (pe_cmpR (op_eqD (hr.units)) (pe_callB call_lenU (by rfl) T.z_len PySem.boot_len (pa_cons (pv 0) pa_nil)) pe_int (nomark _)) (pe_one (pe_call (ok__is_word T) (hr.mono (by decide)) (by rfl) T.g__is_word T.F__is_word.kp T.b__is_word .nil pass0 (pa_cons (pe_ix (ix_U (hu65 hr)) (pv 0) pe_int (fun _ _ => rfl)) (pa_cons pe_str pa_nil)))))))))), fun vs => (snds_seq (snds_if (sndt_not (sndt_tru (snd_isi snd_var))) (snds_ret snd_bl) snds_skip) (snds_seq (snds_if (sndt_test (snd_op rd_eq q2_eq (snd_cb rl_len (q1_1 q1_len) (snda_cons snd_var snda_nil)) snd_int)) (snds_ret (snd_and (snd_call0 (snda_cons (snd_op rd_ix q2_ix snd_var snd_int) (snda_cons snd_str snda_nil))) (snd_and (snd_call0 (snda_cons (snd_op rd_ix q2_ix snd_var snd_int) snda_nil)) (snd_call0 (snda_cons (snd_op rd_ix q2_ix snd_var snd_int) snda_nil))))) snds_skip) (snds_seq (snds_if (sndt_test (snd_op rd_eq q2_eq (snd_cb rl_len (q1_1 q1_len) (snda_cons snd_var snda_nil)) snd_int)) (snds_ret (snd_and (snd_call0 (snda_cons (snd_op rd_ix q2_ix snd_var snd_int) (snda_cons snd_str snda_nil))) (snd_call0 (snda_cons (snd_op rd_ix q2_ix snd_var snd_int) snda_nil)))) snds_skip) (snds_ret (snd_and (snd_op rd_eq q2_eq (snd_cb rl_len (q1_1 q1_len) (snda_cons snd_var snda_nil)) snd_int) (snd_call0 (snda_cons (snd_op rd_ix q2_ix snd_var snd_int) (snda_cons snd_str snda_nil))))))))⟩
theorem ok__is_step (T : Txt K mg) : FnOk P K.w K mg base CX0 3 (He.ga K "_is_step") T.fd__is_step ["thing"] (spP K (eC5 K) F__is_step) :=
  mk_P T.F__is_step sc__is_step (by rfl) (by rfl) (bd__is_step T) rfl
theorem bd__is_row (T : Txt K mg) : BodyN P K.w K mg base ["thing", "step"] "_is_row" s__is_row (He.ga K "_is_row") 3 b__is_row := by
  exact ⟨_, fun cdv A outer s H E hr => (pss_one (ps_ret (pe_and (pe_callB call_isi (by rfl) T.z_isinstance (by decide +kernel) (pa_cons (pv 0) (pa_cons (pe_bltn (v := .ty "list") (by rfl) T.z_list (by decide +kernel) rfl) pa_nil))) (pe_one (pe_callB (cr_all rfl) (by rfl) T.z_all (by decide +kernel) (pa_cons (pe_lc (own := [("step", 1)]) rfl sc__is_row.nd (pi_seq (pv 0)) (blkOk_by (own := [("step", 1)]) (N := ["thing", "step"]) (sc := defScope s__is_row) (by decide +kernel)) (fun _ _ _ _ _ => (pg_name (i := 1) sc__is_row.nd rfl (Or.inl rfl))) (fun _ _ _ _ _ => pts_nil) (fun _ _ _ _ _ => (pe_call (ok__is_step T) (hr.mono (by decide)) (by rfl) T.g__is_step T.F__is_step.kp T.b__is_step .nil pass0 (pa_cons (pv 1) pa_nil)))) pa_nil)))))), fun vs => (snds_ret (snd_and (snd_isi snd_var) (snd_cb rl_all (q1_1 q1_all) (snda_cons (snd_of (sndo_lc (bb := false) (sndw_seq snd_var) sndg_name sndt_yes (snde_p (snd_call0 (snda_cons snd_var snda_nil))) (by decide))) snda_nil))))⟩
theorem ok__is_row (T : Txt K mg) : FnOk P K.w K mg base CX0 4 (He.ga K "_is_row") T.fd__is_row ["thing"] (spP K (eC5 K) F__is_row) :=
  mk_P T.F__is_row sc__is_row (by rfl) (by rfl) (bd__is_row T) rfl
theorem bd_is_fence (T : Txt K mg) : BodyN P K.w K mg base ["step"] "is_fence" s_is_fence (He.ga K "is_fence") 0 b_is_fence := by
  exact ⟨_, fun cdv A outer s H E hr => (pss_one (ps_ret (pe_cmpR (op_eqD (hr.units)) (pe_ix (ix_U (hu65 hr)) (pv 0) pe_int (fun _ _ => rfl)) pe_str (nomark _)))), fun vs => (snds_ret (snd_op rd_eq q2_eq (snd_op rd_ix q2_ix snd_var snd_int) snd_str))⟩
theorem ok_is_fence (T : Txt K mg) : FnOk P K.w K mg base CX0 1 (He.ga K "is_fence") T.fd_is_fence ["step"] (spP K (eC5 K) F_is_fence) :=
  mk_P T.F_is_fence sc_is_fence (by rfl) (by rfl) (bd_is_fence T) rfl
theorem bd__puts_and_gets (T : Txt K mg) : BodyN P K.w K mg base ["row", "step"] "_puts_and_gets" s__puts_and_gets (He.ga K "_puts_and_gets") 1 b__puts_and_gets := by
  exact ⟨_, fun cdv A outer s H E hr => (pss_one (ps_ret (pe_callB call_lenU (by rfl) T.z_len PySem.boot_len (pa_cons (pe_lc (own := [("step", 1)]) rfl sc__puts_and_gets.nd (pi_seq (pv 0)) (blkOk_by (own := [("step", 1)]) (N := ["row", "step"]) (sc := defScope s__puts_and_gets) (by decide +kernel)) (fun _ _ _ _ _ => (pg_name (i := 1) sc__puts_and_gets.nd rfl (Or.inl rfl))) (fun _ _ _ _ _ => (pts_one (pt_not (pt_truth (pe_call (ok_is_fence T) (hr.mono (by decide)) (by rfl) T.g_is_fence T.F_is_fence.kp T.b_is_fence .nil pass0 (pa_cons (pv 1) pa_nil)) (by intro _; rfl))))) (fun _ _ _ _ _ => (pv 1))) pa_nil)))), fun vs => (snds_ret (snd_cb rl_len (q1_1 q1_len) (snda_cons (snd_of (sndo_lc (bb := false) (sndw_seq snd_var) sndg_name (sndt_not (sndt_tru (snd_call0 (snda_cons snd_var snda_nil)))) (snde_p snd_var) (by decide))) snda_nil)))⟩
theorem ok__puts_and_gets (T : Txt K mg) : FnOk P K.w K mg base CX0 2 (He.ga K "_puts_and_gets") T.fd__puts_and_gets ["row"] (spP K (eC5 K) F__puts_and_gets) :=
  mk_P T.F__puts_and_gets sc__puts_and_gets (by rfl) (by rfl) (bd__puts_and_gets T) rfl
theorem bd_is_web (T : Txt K mg) : BodyN P K.w K mg base ["thing", "row"] "is_web" s_is_web (He.ga K "is_web") 4 b_is_web := by
  exact ⟨_, fun cdv A outer s H E hr => (pss_cons (ps_if (PW.pt (pw_or (pt_not (pt_truth (pe_callB call_isi (by rfl) T.z_isinstance (by decide +kernel) (pa_cons (pv 0) (pa_cons (pe_bltn (v := .ty "list") (by rfl) T.z_list (by decide +kernel) rfl) pa_nil))) (by intro _; rfl))) (pw_or1 (pt_not (pt_chain op_le op_le pe_int (pe_callB call_lenU (by rfl) T.z_len PySem.boot_len (pa_cons (pv 0) pa_nil)) (pe_glob (by rfl) T.k__MOST_HANDS T.v__MOST_HANDS)))))) (pss_one (ps_ret pe_bl)) pss_nil) (pss_cons (ps_if (pt_not (pt_truth (pe_callB (cr_all rfl) (by rfl) T.z_all (by decide +kernel) (pa_cons (pe_lc (own := [("row", 1)]) rfl sc_is_web.nd (pi_seq (pv 0)) (blkOk_by (own := [("row", 1)]) (N := ["thing", "row"]) (sc := defScope s_is_web) (by decide +kernel)) (fun _ _ _ _ _ => (pg_name (i := 1) sc_is_web.nd rfl (Or.inl rfl))) (fun _ _ _ _ _ => pts_nil) (fun _ _ _ _ _ => (pe_call (ok__is_row T) (hr.mono (by decide)) (by rfl) T.g__is_row T.F__is_row.kp T.b__is_row .nil pass0 (pa_cons (pv 1) pa_nil)))) pa_nil)) (by intro _; rfl))) (pss_one (ps_ret pe_bl)) pss_nil) (pss_one (ps_ret (pe_cmpR op_le (pe_callB (cr_sum rfl) (by rfl) T.z_sum (by decide +kernel) (pa_cons (pe_lc (own := [("row", 1)]) rfl sc_is_web.nd (pi_seq (pv 0)) (blkOk_by (own := [("row", 1)]) (N := ["thing", "row"]) (sc := defScope s_is_web) (by decide +kernel)) (fun _ _ _ _ _ => (pg_name (i := 1) sc_is_web.nd rfl (Or.inl rfl))) (fun _ _ _ _ _ => pts_nil) (fun _ _ _ _ _ => (pe_call (ok__puts_and_gets T) (hr.mono (by decide)) (by rfl) T.g__puts_and_gets T.F__puts_and_gets.kp T.b__puts_and_gets .nil pass0 (pa_cons (pv 1) pa_nil)))) pa_nil)) (pe_glob (by rfl) T.k__MOST_PUTS_AND_GETS T.v__MOST_PUTS_AND_GETS) (nomark _)))))), fun vs => (snds_seq (snds_if (sndt_or (sndt_not (sndt_tru (snd_isi snd_var))) (sndt_not (sndt_test (snd_chain rd_le q2_le rd_le q2_le snd_int (snd_cb rl_len (q1_1 q1_len) (snda_cons snd_var snda_nil)) (snd_glob (d := d__MOST_HANDS) T.r__MOST_HANDS))))) (snds_ret snd_bl) snds_skip) (snds_seq (snds_if (sndt_not (sndt_tru (snd_cb rl_all (q1_1 q1_all) (snda_cons (snd_of (sndo_lc (bb := false) (sndw_seq snd_var) sndg_name sndt_yes (snde_p (snd_call0 (snda_cons snd_var snda_nil))) (by decide))) snda_nil)))) (snds_ret snd_bl) snds_skip) (snds_ret (snd_op rd_le q2_le (snd_cb rl_sum (q1_1 q1_sum) (snda_cons (snd_of (sndo_lc (bb := false) (sndw_seq snd_var) sndg_name sndt_yes (snde_p (snd_call0 (snda_cons snd_var snda_nil))) (by decide))) snda_nil)) (snd_glob (d := d__MOST_PUTS_AND_GETS) T.r__MOST_PUTS_AND_GETS)))))⟩
theorem ok_is_web (T : Txt K mg) : FnOk P K.w K mg base CX0 5 (He.ga K "is_web") T.fd_is_web ["thing"] (spP K (eC5 K) F_is_web) :=
  mk_P T.F_is_web sc_is_web (by rfl) (by rfl) (bd_is_web T) rfl
theorem bd_read (T : Txt K mg) : BodyX P K.w K mg base (eC5 K) ["text", "web", "part"] "read" s_read (He.ga K "read") 5 b_read := by
  exact ⟨_, fun cdv A outer s H E hr tk => (pss_cons (ps_if (pt_not (pt_truth (pe_callB call_isi (by rfl) T.z_isinstance (by decide +kernel) (pa_cons (pv 0) (pa_cons (pe_bltn (v := .ty "str") (by rfl) T.z_str (by decide +kernel) rfl) pa_nil))) (by intro _; rfl))) (pss_one (ps_raise rfl tk (pmk_own PySem.F.excBase_ValueError T.r4.x T.gC4 T.r4.k (raises_own T.r4.b T.r4.t) rfl))) pss_nil) (pss_cons (ps_setLc (i := 1) (own := [("part", 2)]) rfl sc_read.nd rfl rfl (sw_true rfl rfl rfl (by decide +kernel)) (pi_seq (pe_split (pv 0) pe_str)) (blkOk_by (own := [("part", 2)]) (N := ["text", "web", "part"]) (sc := defScope s_read) (by decide +kernel)) (fun _ _ _ _ _ => (pg_name (i := 2) sc_read.nd rfl (Or.inl rfl))) (fun _ _ _ _ _ => pts_nil) (fun _ _ _ _ _ => (pe_call (ok__read_row T) (hr.mono (by decide)) (by rfl) T.g__read_row T.F__read_row.kp T.b__read_row .nil pass0 (pa_cons (pv 2) pa_nil)))) (pss_cons (ps_if (pt_not (pt_truth (pe_call (ok_is_web T) (hr.mono (by decide)) (by rfl) T.g_is_web T.F_is_web.kp T.b_is_web .nil pass0 (pa_cons (pv 1) pa_nil)) (by intro _; rfl))) (pss_one (ps_raise rfl tk (pmk_own PySem.F.excBase_ValueError T.r4.x T.gC4 T.r4.k (raises_own T.r4.b T.r4.t) rfl))) pss_nil) (pss_one (ps_ret (pv 1)))))), fun vs E => (snds_seq (snds_if (sndt_not (sndt_tru (snd_isi snd_var))) (snds_raise (c := 4)) snds_skip) (snds_seq (snds_asg (snd_of (sndo_lc (bb := false) (sndw_seq (snd_of (sndo_m1 rm_split qm_split snd_var snd_str))) sndg_name sndt_yes (snde_p (snd_call0 (snda_cons snd_var snda_nil))) (by decide))) sndg_name) (snds_seq (snds_if (sndt_not (sndt_tru (snd_call0 (snda_cons snd_var snda_nil)))) (snds_raise (c := 4)) snds_skip) (snds_ret snd_var))))⟩
theorem ok_read (T : Txt K mg) : FnOk P K.w K mg base (L2.CX P K.w) 6 (He.ga K "read") T.fd_read ["text"] (spP K (eC5 K) F_read) :=
  mk_PX T.F_read sc_read (by rfl) (by rfl) (bd_read T) rfl
theorem bd__law_read (T : Txt K mg) : BodyN P K.w K mg base ["_law_text", "error", "_law_other"] "_law_read" s__law_read (He.ga K "_law_read") 6 b__law_read := by
  exact ⟨_, fun cdv A outer s H E hr => (pss_one (ps_try_as (i := 1) (ts := tSuR K 1 2 (.ref (eC5 K 0)) (.ref (eC5 K 1)) (.ref (eC5 K 2)) (.ref (eC5 K 3)) (.ref (eC5 K 4)) (.ty "ValueError") "other") (Wout := fun _ _ _ _ => False) rfl rfl sc__law_read.nd rfl rfl ⟨by rfl, by decide, .inl T.gW⟩ takes0 (fun W pn xe tk _ => pss_one (ps_ret (pe_callS (ok_read T) (hr.mono (by decide)) (by rfl) T.g_read T.F_read.kp T.b_read (fun σ => passAt tk σ) (pa_cons (pv 0) pa_nil))))
      (fun a oe cls d pn hz hf => pss_ex (fun D hD => by
        obtain ⟨rfl, rfl, c, hc, rfl⟩ := hD
        exact (pss_cons (ps_set (i := 2) sc__law_read.nd rfl (Or.inl rfl) (pe_or (pe_callB (call_isE (T.err.ec c hc) hz hf) (by rfl) T.z_isinstance (by decide +kernel) (pa_cons (pv 1) (pa_cons (pe_glob (v := .ref (eC5 K 0)) (by rfl) T.gC0 rfl) pa_nil))) (pe_one (pe_callB (call_isE (T.err.ec c hc) hz hf) (by rfl) T.z_isinstance (by decide +kernel) (pa_cons (pv 1) (pa_cons (pe_glob (v := .ref (eC5 K 1)) (by rfl) T.gC1 rfl) pa_nil)))))) (pss_cons (ps_set (i := 2) sc__law_read.nd rfl (Or.inl rfl) (pe_or (pv 2) (pe_or (pe_callB (call_isE (T.err.ec c hc) hz hf) (by rfl) T.z_isinstance (by decide +kernel) (pa_cons (pv 1) (pa_cons (pe_glob (v := .ref (eC5 K 2)) (by rfl) T.gC2 rfl) pa_nil))) (pe_one (pe_callB (call_isE (T.err.ec c hc) hz hf) (by rfl) T.z_isinstance (by decide +kernel) (pa_cons (pv 1) (pa_cons (pe_glob (v := .ref (eC5 K 3)) (by rfl) T.gC3 rfl) pa_nil))))))) (pss_one (ps_ret (pe_ifExp (PW.pt (pw_and (pt_truth (pe_callB (call_isE (T.err.ec c hc) hz hf) (by rfl) T.z_isinstance (by decide +kernel) (pa_cons (pv 1) (pa_cons (pe_glob (v := .ref (eC5 K 4)) (by rfl) T.gC4 rfl) pa_nil))) (by intro _; rfl)) (pw_and (pt_truth (pe_callB (call_isE (T.err.ec c hc) hz hf) (by rfl) T.z_isinstance (by decide +kernel) (pa_cons (pv 1) (pa_cons (pe_bltn (v := .ty "ValueError") (by rfl) T.z_ValueError (by decide +kernel) rfl) pa_nil))) (by intro _; rfl)) (pw_and1 (pt_not (pt_truth (pv 2) (by intro _; rfl))))))) pe_non pe_str))))))))), fun vs => (snds_tryG (n := 3) (q := fun c => if ((c == 4) && (true && !(((c == 0) || (c == 1)) || ((c == 2) || (c == 3))))) then .none else .str "other") (qv := fun c => if ((c == 4) && (true && !(((c == 0) || (c == 1)) || ((c == 2) || (c == 3))))) then .non else .str "other") (fun c G => rp_ifns) (fun W => (snds_ret (snd_call (snda_cons snd_var snda_nil)))) (fun c hc => T.err.exm c hc) (fun c hc a Dn σ H hl hs hq => ⟨eC5 K c, ⟨rfl, rfl, c, hc, rfl⟩, suite_read (by decide) hs (by omega) (fun _ h => h) (fun _ h => h) (fun _ h => h) (fun _ h => h) (fun _ h => h) (fun _ h => h) (T.err.kit c hc 0 (by decide)) (T.err.kit c hc 1 (by decide)) (T.err.kit c hc 2 (by decide)) (T.err.kit c hc 3 (by decide)) (T.err.kit c hc 4 (by decide)) (T.err.kitV c hc) hq⟩) (by decide))⟩
theorem ok__law_read (T : Txt K mg) : FnOk P K.w K mg base CX0 7 (He.ga K "_law_read") T.fd__law_read ["_law_text"] (spP K (eC5 K) F__law_read) :=
  mk_P T.F__law_read sc__law_read (by rfl) (by rfl) (bd__law_read T) rfl
theorem bd__law_same (T : Txt K mg) : BodyN P K.w K mg base ["_law_found", "_law_web", "_law_row", "_law_step_here", "_law_word"] "_law_same" s__law_same (He.ga K "_law_same") 0 b__law_same := by
  exact ⟨_, fun cdv A outer s H E hr => (pss_cons (ps_if (PW.pt (pw_or (pt_not (pt_truth (pe_callB call_isi (by rfl) T.z_isinstance (by decide +kernel) (pa_cons (pv 0) (pa_cons (pe_bltn (v := .ty "list") (by rfl) T.z_list (by decide +kernel) rfl) pa_nil))) (by intro _; rfl))) (pw_or1 (pt_cmpR (op_neD (hr.units)) (pv 0) (pv 1) (nomark _))))) (pss_one (ps_ret pe_bl)) pss_nil) (pss_cons (ps_for PassesOwn.never rfl (pi_seq (pv 0)) (pg_name (i := 2) sc__law_same.nd rfl (Or.inl rfl)) (pss_cons (ps_if (pt_not (pt_truth (pe_callB call_isi (by rfl) T.z_isinstance (by decide +kernel) (pa_cons (pv 2) (pa_cons (pe_bltn (v := .ty "list") (by rfl) T.z_list (by decide +kernel) rfl) pa_nil))) (by intro _; rfl))) (pss_one (ps_ret pe_bl)) pss_nil) (pss_one (ps_for PassesOwn.never rfl (pi_seq (pv 2)) (pg_name (i := 3) sc__law_same.nd rfl (Or.inl rfl)) (pss_one (ps_if (PW.pt (pw_or (pt_not (pt_truth (pe_callB call_isi (by rfl) T.z_isinstance (by decide +kernel) (pa_cons (pv 3) (pa_cons (pe_bltn (v := .ty "tuple") (by rfl) T.z_tuple (by decide +kernel) rfl) pa_nil))) (by intro _; rfl))) (pw_or1 (pt_cmpR (op_neD (hr.units)) (pe_lc (own := [("_law_word", 4)]) rfl sc__law_same.nd (pi_seq (pe_slice sl_U (pv 3) (po_some pe_int) po_none)) (blkOk_by (own := [("_law_word", 4)]) (N := ["_law_found", "_law_web", "_law_row", "_law_step_here", "_law_word"]) (sc := defScope s__law_same) (by decide +kernel)) (fun _ _ _ _ _ => (pg_name (i := 4) sc__law_same.nd rfl (Or.inl rfl))) (fun _ _ _ _ _ => (pts_one (pt_truth (pe_callB call_isi (by rfl) T.z_isinstance (by decide +kernel) (pa_cons (pv 4) (pa_cons (pe_bltn (v := .ty "bool") (by rfl) T.z_bool (by decide +kernel) rfl) pa_nil))) (by intro _; rfl)))) (fun _ _ _ _ _ => (pv 4))) (pe_lst pa_nil) (nomark _))))) (pss_one (ps_ret pe_bl)) pss_nil)))))) (pss_one (ps_ret pe_bl)))), fun vs => (snds_seq (snds_if (sndt_or (sndt_not (sndt_tru (snd_isi snd_var))) (sndt_test (snd_op rd_ne q2_ne snd_var snd_var))) (snds_ret snd_bl) snds_skip) (snds_seq (snds_for (sndw_seq snd_var) sndg_name (snds_seq (snds_if (sndt_not (sndt_tru (snd_isi snd_var))) (snds_ret snd_bl) snds_skip) (snds_for (sndw_seq snd_var) sndg_name (snds_if (sndt_or (sndt_not (sndt_tru (snd_isi snd_var))) (sndt_test (snd_op rd_ne q2_ne (snd_of (sndo_lc (bb := false) (sndw_seq (snd_of (sndo_sl snd_var (sndi_some snd_int) sndi_none))) sndg_name (sndt_tru (snd_isi snd_var)) (snde_p snd_var) (by decide))) (snd_of (sndo_lst (b := false) sndao_nil))))) (snds_ret snd_bl) snds_skip)))) (snds_ret snd_bl)))⟩
theorem ok__law_same (T : Txt K mg) : FnOk P K.w K mg base CX0 1 (He.ga K "_law_same") T.fd__law_same ["_law_found", "_law_web"] (spP K (eC5 K) F__law_same) :=
  mk_P T.F__law_same sc__law_same (by rfl) (by rfl) (bd__law_same T) rfl
theorem bd__law_text_by (T : Txt K mg) : BodyN P K.w K mg base ["_law_web", "_law_rows", "_law_row", "_law_parts", "_law_step_here", "_law_word"] "_law_text_by" s__law_text_by (He.ga K "_law_text_by") 0 b__law_text_by := by
  exact ⟨_, fun cdv A outer s H E hr => (pss_cons (ps_set (i := 1) sc__law_text_by.nd rfl (Or.inl rfl) (pe_lst pa_nil)) (pss_cons (ps_for PassesOwn.never rfl (pi_seq (pv 0)) (pg_name (i := 2) sc__law_text_by.nd rfl (Or.inl rfl)) (pss_cons (ps_set (i := 3) sc__law_text_by.nd rfl (Or.inl rfl) (pe_lst pa_nil)) (pss_cons (ps_for PassesOwn.never rfl (pi_seq (pv 2)) (pg_name (i := 4) sc__law_text_by.nd rfl (Or.inl rfl)) (pss_one (ps_expr (pe_bm PySem.F.plainAttrs_list PySem.F.slot_list_append PySem.F.type_list_append mt_append (pv 3) (pa_cons (pe_m1 PySem.F.slot_str_join PySem.F.type_str_join mt_join pe_str (pe_lc (own := [("_law_word", 5)]) rfl sc__law_text_by.nd (pi_seq (pv 4)) (blkOk_by (own := [("_law_word", 5)]) (N := ["_law_web", "_law_rows", "_law_row", "_law_parts", "_law_step_here", "_law_word"]) (sc := defScope s__law_text_by) (by decide +kernel)) (fun _ _ _ _ _ => (pg_name (i := 5) sc__law_text_by.nd rfl (Or.inl rfl))) (fun _ _ _ _ _ => pts_nil) (fun _ _ _ _ _ => (pe_callTy call_strOf (by rfl) T.z_str (by decide +kernel) (pa_cons (pv 5) pa_nil))))) pa_nil))))) (pss_one (ps_expr (pe_bm PySem.F.plainAttrs_list PySem.F.slot_list_append PySem.F.type_list_append mt_append (pv 1) (pa_cons (pe_m1 PySem.F.slot_str_join PySem.F.type_str_join mt_join pe_str (pv 3)) pa_nil))))))) (pss_one (ps_ret (pe_m1 PySem.F.slot_str_join PySem.F.type_str_join mt_join pe_str (pv 1)))))), fun vs => (snds_seq (snds_asgO (sndo_lst (b := false) sndao_nil)) (snds_seq (snds_for (sndw_seq snd_var) sndg_name (snds_seq (snds_asgO (sndo_lst (b := false) sndao_nil)) (snds_seq (snds_for (sndw_seq snd_var) sndg_name (snds_app (b := false) sndp_var (snde_p (snd_m1 rm_join qm_join snd_str (snd_of (sndo_lc (bb := false) (sndw_seq snd_var) sndg_name sndt_yes (snde_p (snd_cb rl_strOf (q1_1 q1_strOf) (snda_cons snd_var snda_nil))) (by decide))))))) (snds_app (b := false) sndp_var (snde_p (snd_bor (i := 3) (snd_m1 rm_join qm_join snd_str snd_var))))))) (snds_frz (i := 1) (snds_ret (snd_m1 rm_join qm_join snd_str snd_var)))))⟩
theorem ok__law_text_by (T : Txt K mg) : FnOk P K.w K mg base CX0 1 (He.ga K "_law_text_by") T.fd__law_text_by ["_law_web"] (spP K (eC5 K) F__law_text_by) :=
  mk_P T.F__law_text_by sc__law_text_by (by rfl) (by rfl) (bd__law_text_by T) rfl
theorem bd__law_number_by (T : Txt K mg) : BodyN P K.w K mg base ["_law_cell"] "_law_number_by" s__law_number_by (He.ga K "_law_number_by") 0 b__law_number_by := by
  exact ⟨_, fun cdv A outer s H E hr => (pss_cons (ps_if (pt_cmpR (op_eqD (hr.units)) (pe_op op_modN (pv 0) pe_int) pe_int (nomark _)) (pss_one (ps_ret (pe_op op_sub (pe_op op_modN (pe_op op_addU (pe_op op_mulU (pe_op op_fdivN (pv 0) pe_int) (pe_op op_pow pe_int pe_int)) pe_int) (pe_op op_sub (pe_op op_mulU pe_int (pe_op op_pow pe_int pe_int)) pe_int)) (pe_op op_sub (pe_op op_pow pe_int pe_int) pe_int)))) pss_nil) (pss_one (ps_ret (pe_op op_sub (pe_op op_modN (pe_op op_fdivN (pv 0) pe_int) pe_int) pe_int)))), fun vs => (snds_seq (snds_if (sndt_test (snd_op rd_eq q2_eq (snd_op rd_mod q2_mod snd_var snd_int) snd_int)) (snds_ret (snd_op rd_sub q2_sub (snd_op rd_mod q2_mod (snd_of (sndo_op rdo_add q2_add (snd_of (sndo_op rdo_mul q2_mul (snd_op rd_div q2_div snd_var snd_int) (snd_op rd_pow q2_pow snd_int snd_int))) snd_int)) (snd_op rd_sub q2_sub (snd_of (sndo_op rdo_mul q2_mul snd_int (snd_op rd_pow q2_pow snd_int snd_int))) snd_int)) (snd_op rd_sub q2_sub (snd_op rd_pow q2_pow snd_int snd_int) snd_int))) snds_skip) (snds_ret (snd_op rd_sub q2_sub (snd_op rd_mod q2_mod (snd_op rd_div q2_div snd_var snd_int) snd_int) snd_int)))⟩
theorem ok__law_number_by (T : Txt K mg) : FnOk P K.w K mg base CX0 1 (He.ga K "_law_number_by") T.fd__law_number_by ["_law_cell"] (spP K (eC5 K) F__law_number_by) :=
  mk_P T.F__law_number_by sc__law_number_by (by rfl) (by rfl) (bd__law_number_by T) rfl
theorem bd__law_step_by (T : Txt K mg) : BodyN P K.w K mg base ["_law_cell"] "_law_step_by" s__law_step_by (He.ga K "_law_step_by") 1 b__law_step_by := by
  exact ⟨_, fun cdv A outer s H E hr => (pss_cons (ps_if (pt_cmpR (op_ltU (hu65 hr)) (pe_op op_modN (pv 0) pe_int) pe_int (nomark _)) (pss_one (ps_ret (pe_tup (pa_cons pe_str (pa_cons (pe_op op_modN (pe_op op_fdivN (pv 0) pe_int) pe_int) (pa_cons (pe_call (ok__law_number_by T) (hr.mono (by decide)) (by rfl) T.g__law_number_by T.F__law_number_by.kp T.b__law_number_by .nil pass0 (pa_cons (pe_op op_fdivN (pv 0) pe_int) pa_nil)) pa_nil)))))) pss_nil) (pss_cons (ps_if (pt_cmpR (op_ltU (hu65 hr)) (pe_op op_modN (pv 0) pe_int) pe_int (nomark _)) (pss_one (ps_ret (pe_tup (pa_cons pe_str (pa_cons (pe_op op_modN (pe_op op_fdivN (pv 0) pe_int) pe_int) pa_nil))))) pss_nil) (pss_one (ps_ret (pe_tup (pa_cons pe_str pa_nil)))))), fun vs => (snds_seq (snds_if (sndt_test (snd_op rd_ltU q2_ltU (snd_op rd_mod q2_mod snd_var snd_int) snd_int)) (snds_ret (snd_tup (snda_cons snd_str (snda_cons (snd_op rd_mod q2_mod (snd_op rd_div q2_div snd_var snd_int) snd_int) (snda_cons (snd_call0 (snda_cons (snd_op rd_div q2_div snd_var snd_int) snda_nil)) snda_nil))))) snds_skip) (snds_seq (snds_if (sndt_test (snd_op rd_ltU q2_ltU (snd_op rd_mod q2_mod snd_var snd_int) snd_int)) (snds_ret (snd_tup (snda_cons snd_str (snda_cons (snd_op rd_mod q2_mod (snd_op rd_div q2_div snd_var snd_int) snd_int) snda_nil)))) snds_skip) (snds_ret (snd_tup (snda_cons snd_str snda_nil)))))⟩
theorem ok__law_step_by (T : Txt K mg) : FnOk P K.w K mg base CX0 2 (He.ga K "_law_step_by") T.fd__law_step_by ["_law_cell"] (spP K (eC5 K) F__law_step_by) :=
  mk_P T.F__law_step_by sc__law_step_by (by rfl) (by rfl) (bd__law_step_by T) rfl
theorem bd__law_web_by (T : Txt K mg) : BodyN P K.w K mg base ["_law_script", "_law_first", "_law_web", "_law_k", "_law_cell"] "_law_web_by" s__law_web_by (He.ga K "_law_web_by") 2 b__law_web_by := by
  exact ⟨_, fun cdv A outer s H E hr => (pss_cons (ps_set (i := 1) sc__law_web_by.nd rfl (Or.inl rfl) (pe_call (ok__law_cell_at T) (hr.mono (by decide)) (by rfl) T.g__law_cell_at T.F__law_cell_at.kp T.b__law_cell_at .nil pass0 (pa_cons (pv 0) (pa_cons pe_int pa_nil)))) (pss_cons (ps_setLc (i := 2) (own := [("_law_k", 3)]) rfl sc__law_web_by.nd rfl rfl (sw_true rfl rfl rfl (by decide +kernel)) (pi_range1 (by rfl) T.z_range (pa_cons (pe_op op_addU pe_int (pe_op op_modN (pv 1) pe_int)) pa_nil)) (blkOk_by (own := [("_law_k", 3)]) (N := ["_law_script", "_law_first", "_law_web", "_law_k", "_law_cell"]) (sc := defScope s__law_web_by) (by decide +kernel)) (fun _ _ _ _ _ => (pg_name (i := 3) sc__law_web_by.nd rfl (Or.inl rfl))) (fun _ _ _ _ _ => pts_nil) (fun _ _ _ _ _ => (pe_lst pa_nil))) (pss_cons (ps_for PassesOwn.never rfl (pi_range1 (by rfl) T.z_range (pa_cons (pe_op op_modN (pe_op op_fdivN (pv 1) pe_int) pe_int) pa_nil)) (pg_name (i := 3) sc__law_web_by.nd rfl (Or.inl rfl)) (pss_cons (ps_set (i := 4) sc__law_web_by.nd rfl (Or.inl rfl) (pe_call (ok__law_cell_at T) (hr.mono (by decide)) (by rfl) T.g__law_cell_at T.F__law_cell_at.kp T.b__law_cell_at .nil pass0 (pa_cons (pv 0) (pa_cons (pe_op op_addU pe_int (pv 3)) pa_nil)))) (pss_one (ps_expr (pe_bm PySem.F.plainAttrs_list PySem.F.slot_list_append PySem.F.type_list_append mt_append (pe_ix ix_seq (pv 2) (pe_op op_modN (pe_op op_fdivN (pv 4) pe_int) (pe_callB call_lenU (by rfl) T.z_len PySem.boot_len (pa_cons (pv 2) pa_nil))) (fun _ _ => rfl)) (pa_cons (pe_call (ok__law_step_by T) (hr.mono (by decide)) (by rfl) T.g__law_step_by T.F__law_step_by.kp T.b__law_step_by .nil pass0 (pa_cons (pe_op op_addU (pv 4) (pe_op op_mulU pe_int (pv 3))) pa_nil)) pa_nil)))))) (pss_one (ps_ret (pv 2)))))), fun vs => (snds_seq (snds_asg (snd_call0 (snda_cons snd_var (snda_cons snd_int snda_nil))) sndg_name) (snds_seq (snds_asgO (sndo_lc (bb := true) (sndw_range1 (snda_cons (snd_of (sndo_op rdo_add q2_add snd_int (snd_op rd_mod q2_mod snd_var snd_int))) snda_nil)) sndg_name sndt_yes (snde_of (sndo_lst (b := true) sndao_nil)) (by decide))) (snds_seq (snds_for (sndw_range1 (snda_cons (snd_op rd_mod q2_mod (snd_op rd_div q2_div snd_var snd_int) snd_int) snda_nil)) sndg_name (snds_seq (snds_asg (snd_call0 (snda_cons snd_var (snda_cons (snd_of (sndo_op rdo_add q2_add snd_int snd_var)) snda_nil))) sndg_name) (snds_app (b := true) (sndp_ix sndp_var (snd_op rd_mod q2_mod (snd_op rd_div q2_div snd_var snd_int) (snd_bor (i := 2) (snd_cb rl_len (q1_1 q1_len) (snda_cons snd_var snda_nil))))) (snde_nl (snd_call0 (snda_cons (snd_of (sndo_op rdo_add q2_add snd_var (snd_of (sndo_op rdo_mul q2_mul snd_int snd_var)))) snda_nil)))))) (snds_frz (i := 2) (snds_ret snd_var)))))⟩
theorem ok__law_web_by (T : Txt K mg) : FnOk P K.w K mg base CX0 3 (He.ga K "_law_web_by") T.fd__law_web_by ["_law_script"] (spP K (eC5 K) F__law_web_by) :=
  mk_P T.F__law_web_by sc__law_web_by (by rfl) (by rfl) (bd__law_web_by T) rfl
theorem bd__shown_step (T : Txt K mg) : BodyN P K.w K mg base ["step", "word"] "_shown_step" s__shown_step (He.ga K "_shown_step") 0 b__shown_step := by
  exact ⟨_, fun cdv A outer s H E hr => (pss_one (ps_ret (pe_m1 PySem.F.slot_str_join PySem.F.type_str_join mt_join pe_str (pe_lc (own := [("word", 1)]) rfl sc__shown_step.nd (pi_seq (pv 0)) (blkOk_by (own := [("word", 1)]) (N := ["step", "word"]) (sc := defScope s__shown_step) (by decide +kernel)) (fun _ _ _ _ _ => (pg_name (i := 1) sc__shown_step.nd rfl (Or.inl rfl))) (fun _ _ _ _ _ => pts_nil) (fun _ _ _ _ _ => (pe_callTy call_strOf (by rfl) T.z_str (by decide +kernel) (pa_cons (pv 1) pa_nil))))))), fun vs => (snds_ret (snd_m1 rm_join qm_join snd_str (snd_of (sndo_lc (bb := false) (sndw_seq snd_var) sndg_name sndt_yes (snde_p (snd_cb rl_strOf (q1_1 q1_strOf) (snda_cons snd_var snda_nil))) (by decide)))))⟩
theorem ok__shown_step (T : Txt K mg) : FnOk P K.w K mg base CX0 1 (He.ga K "_shown_step") T.fd__shown_step ["step"] (spP K (eC5 K) F__shown_step) :=
  mk_P T.F__shown_step sc__shown_step (by rfl) (by rfl) (bd__shown_step T) rfl
theorem bd__shown_row (T : Txt K mg) : BodyN P K.w K mg base ["row", "step"] "_shown_row" s__shown_row (He.ga K "_shown_row") 1 b__shown_row := by
  exact ⟨_, fun cdv A outer s H E hr => (pss_one (ps_ret (pe_m1 PySem.F.slot_str_join PySem.F.type_str_join mt_join pe_str (pe_lc (own := [("step", 1)]) rfl sc__shown_row.nd (pi_seq (pv 0)) (blkOk_by (own := [("step", 1)]) (N := ["row", "step"]) (sc := defScope s__shown_row) (by decide +kernel)) (fun _ _ _ _ _ => (pg_name (i := 1) sc__shown_row.nd rfl (Or.inl rfl))) (fun _ _ _ _ _ => pts_nil) (fun _ _ _ _ _ => (pe_call (ok__shown_step T) (hr.mono (by decide)) (by rfl) T.g__shown_step T.F__shown_step.kp T.b__shown_step .nil pass0 (pa_cons (pv 1) pa_nil))))))), fun vs => (snds_ret (snd_m1 rm_join qm_join snd_str (snd_of (sndo_lc (bb := false) (sndw_seq snd_var) sndg_name sndt_yes (snde_p (snd_call0 (snda_cons snd_var snda_nil))) (by decide)))))⟩
theorem ok__shown_row (T : Txt K mg) : FnOk P K.w K mg base CX0 2 (He.ga K "_shown_row") T.fd__shown_row ["row"] (spP K (eC5 K) F__shown_row) :=
  mk_P T.F__shown_row sc__shown_row (by rfl) (by rfl) (bd__shown_row T) rfl
theorem bd_need_web (T : Txt K mg) : BodyX P K.w K mg base (eC5 K) ["web", "row"] "need_web" s_need_web (He.ga K "need_web") 5 b_need_web := by
  exact ⟨_, fun cdv A outer s H E hr tk => (pss_cons (ps_if (pt_not (pt_truth (pe_call (ok_is_web T) (hr.mono (by decide)) (by rfl) T.g_is_web T.F_is_web.kp T.b_is_web .nil pass0 (pa_cons (pv 0) pa_nil)) (by intro _; rfl))) (pss_one (ps_raise rfl tk (pmk_own PySem.F.excBase_ValueError T.r0.x T.gC0 T.r0.k (raises_own T.r0.b T.r0.t) rfl))) pss_nil) (pss_one (ps_ret (pe_lc (own := [("row", 1)]) rfl sc_need_web.nd (pi_seq (pv 0)) (blkOk_by (own := [("row", 1)]) (N := ["web", "row"]) (sc := defScope s_need_web) (by decide +kernel)) (fun _ _ _ _ _ => (pg_name (i := 1) sc_need_web.nd rfl (Or.inl rfl))) (fun _ _ _ _ _ => pts_nil) (fun _ _ _ _ _ => (pe_callTy (call_listW rfl) (by rfl) T.z_list (by decide +kernel) (pa_cons (pv 1) pa_nil))))))), fun vs E => (snds_seq (snds_if (sndt_not (sndt_tru (snd_call0 (snda_cons snd_var snda_nil)))) (snds_raise (c := 0)) snds_skip) (snds_ret (snd_of (sndo_lc (bb := false) (sndw_seq snd_var) sndg_name sndt_yes (snde_of (sndo_cb rlo_listW (q1_1 q1_listW) (snda_cons snd_var snda_nil))) (by decide)))))⟩
theorem ok_need_web (T : Txt K mg) : FnOk P K.w K mg base (L2.CX P K.w) 6 (He.ga K "need_web") T.fd_need_web ["web"] (spP K (eC5 K) F_need_web) :=
  mk_PX T.F_need_web sc_need_web (by rfl) (by rfl) (bd_need_web T) rfl
theorem bd_shown (T : Txt K mg) : BodyX P K.w K mg base (eC5 K) ["web", "row"] "shown" s_shown (He.ga K "shown") 6 b_shown := by
  exact ⟨_, fun cdv A outer s H E hr tk => (pss_one (ps_ret (pe_m1 PySem.F.slot_str_join PySem.F.type_str_join mt_join pe_str (pe_lc (own := [("row", 1)]) rfl sc_shown.nd (pi_seq (pe_callS (ok_need_web T) (hr.mono (by decide)) (by rfl) T.g_need_web T.F_need_web.kp T.b_need_web (fun σ => passAt tk σ) (pa_cons (pv 0) pa_nil))) (blkOk_by (own := [("row", 1)]) (N := ["web", "row"]) (sc := defScope s_shown) (by decide +kernel)) (fun _ _ _ _ _ => (pg_name (i := 1) sc_shown.nd rfl (Or.inl rfl))) (fun _ _ _ _ _ => pts_nil) (fun _ _ _ _ _ => (pe_call (ok__shown_row T) (hr.mono (by decide)) (by rfl) T.g__shown_row T.F__shown_row.kp T.b__shown_row .nil pass0 (pa_cons (pv 1) pa_nil))))))), fun vs E => (snds_ret (snd_m1 rm_join qm_join snd_str (snd_of (sndo_lc (bb := false) (sndw_seq (snd_call (snda_cons snd_var snda_nil))) sndg_name sndt_yes (snde_p (snd_call0 (snda_cons snd_var snda_nil))) (by decide)))))⟩
theorem ok_shown (T : Txt K mg) : FnOk P K.w K mg base (L2.CX P K.w) 7 (He.ga K "shown") T.fd_shown ["web"] (spP K (eC5 K) F_shown) :=
  mk_PX T.F_shown sc_shown (by rfl) (by rfl) (bd_shown T) rfl
theorem bd_law (T : Txt K mg) : BodyX P K.w K mg base (eC5 K) ["_law_script", "_law_web", "_law_text", "_law_handed", "_law_found", "_law_cell", "_law_due_here", "_law_told", "_law_row"] "law" s_law (He.ga K "law") 7 b_law := by
  exact ⟨_, fun cdv A outer s H E hr tk => (pss_cons (ps_set (i := 1) sc_law.nd rfl (Or.inl rfl) (pe_call (ok__law_web_by T) (hr.mono (by decide)) (by rfl) T.g__law_web_by T.F__law_web_by.kp T.b__law_web_by .nil pass0 (pa_cons (pv 0) pa_nil))) (pss_cons (ps_set (i := 2) sc_law.nd rfl (Or.inl rfl) (pe_call (ok__law_text_by T) (hr.mono (by decide)) (by rfl) T.g__law_text_by T.F__law_text_by.kp T.b__law_text_by .nil pass0 (pa_cons (pv 1) pa_nil))) (pss_cons (ps_setLc (i := 3) (own := [("_law_row", 8)]) rfl sc_law.nd rfl rfl (sw_true rfl rfl rfl (by decide +kernel)) (pi_seq (pv 1)) (blkOk_by (own := [("_law_row", 8)]) (N := ["_law_script", "_law_web", "_law_text", "_law_handed", "_law_found", "_law_cell", "_law_due_here", "_law_told", "_law_row"]) (sc := defScope s_law) (by decide +kernel)) (fun _ _ _ _ _ => (pg_name (i := 8) sc_law.nd rfl (Or.inl rfl))) (fun _ _ _ _ _ => pts_nil) (fun _ _ _ _ _ => (pe_callTy (call_listW rfl) (by rfl) T.z_list (by decide +kernel) (pa_cons (pv 8) pa_nil)))) (pss_cons (ps_set (i := 4) sc_law.nd rfl (Or.inl rfl) (pe_callS (ok_shown T) (hr.mono (by decide)) (by rfl) T.g_shown T.F_shown.kp T.b_shown (fun σ => passAt tk σ) (pa_cons (pv 3) pa_nil))) (pss_cons (ps_if (PW.pt (pw_or (pt_not (pt_truth (pe_callB call_isi (by rfl) T.z_isinstance (by decide +kernel) (pa_cons (pv 4) (pa_cons (pe_bltn (v := .ty "str") (by rfl) T.z_str (by decide +kernel) rfl) pa_nil))) (by intro _; rfl))) (pw_or (pt_cmpR (op_neD (hr.units)) (pv 4) (pv 2) (nomark _)) (pw_or (pt_cmpR (op_neD (hr.units)) (pv 3) (pv 1) (nomark _)) (pw_or1 (pt_not (pt_truth (pe_call (ok__law_same T) (hr.mono (by decide)) (by rfl) T.g__law_same T.F__law_same.kp T.b__law_same .nil pass0 (pa_cons (pe_call (ok__law_read T) (hr.mono (by decide)) (by rfl) T.g__law_read T.F__law_read.kp T.b__law_read .nil pass0 (pa_cons (pv 2) pa_nil)) (pa_cons (pv 1) pa_nil))) (by intro _; rfl)))))))) (pss_one (ps_ret pe_bl)) pss_nil) (pss_cons (ps_set (i := 5) sc_law.nd rfl (Or.inl rfl) (pe_call (ok__law_cell_at T) (hr.mono (by decide)) (by rfl) T.g__law_cell_at T.F__law_cell_at.kp T.b__law_cell_at .nil pass0 (pa_cons (pv 0) (pa_cons pe_int pa_nil)))) (pss_cons (ps_if (pt_cmpR (op_eqD (hr.units)) (pe_op op_modN (pv 5) pe_int) pe_int (nomark _)) (pss_one (ps_ret (pe_cmpR op_isNX (pe_call (ok__law_read T) (hr.mono (by decide)) (by rfl) T.g__law_read T.F__law_read.kp T.b__law_read .nil pass0 (pa_cons (pe_ix (ix_U (hu65 hr)) (pe_lst (pa_cons pe_non (pa_cons pe_int (pa_cons (pe_lst (pa_cons pe_str pa_nil)) (pa_cons pe_bl pa_nil))))) (pe_op op_modN (pe_op op_fdivN (pv 5) pe_int) pe_int) (fun _ _ => rfl)) pa_nil)) pe_non (nomark _)))) pss_nil) (pss_cons (ps_if (pt_cmpR (op_eqD (hr.units)) (pe_op op_modN (pv 5) pe_int) pe_int (nomark _)) (pss_one (ps_set (i := 2) sc_law.nd rfl (Or.inl rfl) (pe_call (ok__law_odd T) (hr.mono (by decide)) (by rfl) T.g__law_odd T.F__law_odd.kp T.b__law_odd .nil pass0 (pa_cons (pe_op op_fdivN (pv 5) pe_int) pa_nil)))) pss_nil) (pss_cons (ps_if (pt_cmpR (op_eqD (hr.units)) (pe_op op_modN (pv 5) pe_int) pe_int (nomark _)) (pss_one (ps_set (i := 2) sc_law.nd rfl (Or.inl rfl) (pe_call (ok__law_changed T) (hr.mono (by decide)) (by rfl) T.g__law_changed T.F__law_changed.kp T.b__law_changed .nil pass0 (pa_cons (pv 2) (pa_cons (pe_op op_fdivN (pv 5) pe_int) pa_nil))))) pss_nil) (pss_cons (ps_set (i := 6) sc_law.nd rfl (Or.inl rfl) (pe_call (ok__law_due T) (hr.mono (by decide)) (by rfl) T.g__law_due T.F__law_due.kp T.b__law_due .nil pass0 (pa_cons (pv 2) pa_nil))) (pss_cons (ps_set (i := 7) sc_law.nd rfl (Or.inl rfl) (pe_call (ok__law_read T) (hr.mono (by decide)) (by rfl) T.g__law_read T.F__law_read.kp T.b__law_read .nil pass0 (pa_cons (pv 2) pa_nil))) (pss_cons (ps_if (pt_cmpR op_isNX (pv 6) pe_non (nomark _)) (pss_one (ps_ret (pe_cmpR op_isNX (pv 7) pe_non (nomark _)))) pss_nil) (pss_one (ps_ret (pe_call (ok__law_same T) (hr.mono (by decide)) (by rfl) T.g__law_same T.F__law_same.kp T.b__law_same .nil pass0 (pa_cons (pv 7) (pa_cons (pv 6) pa_nil))))))))))))))))), fun vs E => (snds_seq (snds_asg (snd_call0 (snda_cons snd_var snda_nil)) sndg_name) (snds_seq (snds_asg (snd_call0 (snda_cons snd_var snda_nil)) sndg_name) (snds_seq (snds_asg (snd_of (sndo_lc (bb := false) (sndw_seq snd_var) sndg_name sndt_yes (snde_of (sndo_cb rlo_listW (q1_1 q1_listW) (snda_cons snd_var snda_nil))) (by decide))) sndg_name) (snds_seq (snds_asg (snd_call (snda_cons snd_var snda_nil)) sndg_name) (snds_seq (snds_if (sndt_or (sndt_not (sndt_tru (snd_isi snd_var))) (sndt_or (sndt_test (snd_op rd_ne q2_ne snd_var snd_var)) (sndt_or (sndt_test (snd_op rd_ne q2_ne snd_var snd_var)) (sndt_not (sndt_tru (snd_call0 (snda_cons (snd_call0 (snda_cons snd_var snda_nil)) (snda_cons snd_var snda_nil)))))))) (snds_ret snd_bl) snds_skip) (snds_seq (snds_asg (snd_call0 (snda_cons snd_var (snda_cons snd_int snda_nil))) sndg_name) (snds_seq (snds_if (sndt_test (snd_op rd_eq q2_eq (snd_op rd_mod q2_mod snd_var snd_int) snd_int)) (snds_ret (snd_op rd_isN q2_isN (snd_call0 (snda_cons (snd_op rd_ix q2_ix (snd_of (sndo_lst (b := false) (sndao_cons (snde_p snd_non) (sndao_cons (snde_p snd_int) (sndao_cons (snde_of (sndo_lst (b := false) (sndao_cons (snde_p snd_str) sndao_nil))) (sndao_cons (snde_p snd_bl) sndao_nil)))))) (snd_op rd_mod q2_mod (snd_op rd_div q2_div snd_var snd_int) snd_int)) snda_nil)) snd_non)) snds_skip) (snds_seq (snds_if (sndt_test (snd_op rd_eq q2_eq (snd_op rd_mod q2_mod snd_var snd_int) snd_int)) (snds_asg (snd_call0 (snda_cons (snd_op rd_div q2_div snd_var snd_int) snda_nil)) sndg_name) snds_skip) (snds_seq (snds_if (sndt_test (snd_op rd_eq q2_eq (snd_op rd_mod q2_mod snd_var snd_int) snd_int)) (snds_asg (snd_call0 (snda_cons snd_var (snda_cons (snd_op rd_div q2_div snd_var snd_int) snda_nil))) sndg_name) snds_skip) (snds_seq (snds_asg (snd_call0 (snda_cons snd_var snda_nil)) sndg_name) (snds_seq (snds_asg (snd_call0 (snda_cons snd_var snda_nil)) sndg_name) (snds_seq (snds_if (sndt_test (snd_op rd_isN q2_isN snd_var snd_non)) (snds_ret (snd_op rd_isN q2_isN snd_var snd_non)) snds_skip) (snds_ret (snd_call0 (snda_cons snd_var (snda_cons snd_var snda_nil))))))))))))))))⟩
theorem ok_law (T : Txt K mg) : FnOk P K.w K mg base (L2.CX P K.w) 8 (He.ga K "law") T.fd_law ["_law_script"] (spP K (eC5 K) F_law) :=
  mk_PX T.F_law sc_law (by rfl) (by rfl) (bd_law T) rfl
end
end K12

set_option Elab.async false
set_option linter.all false
set_option maxRecDepth 100000
set_option maxHeartbeats 0
namespace K12
open PySem PySem.Spec PyProof.Rows L2 Fw Pg
/-! ### the head: its facts, the run -/
def fnL : List He.FnD := [⟨("_law_cell_at", none), "_law_cell_at", "_law_cell_at", defArgs s__law_cell_at, defBody s__law_cell_at, defScope s__law_cell_at⟩, ⟨("_law_changed", none), "_law_changed", "_law_changed", defArgs s__law_changed, defBody s__law_changed, defScope s__law_changed⟩, ⟨("_law_number", none), "_law_number", "_law_number", defArgs s__law_number, defBody s__law_number, defScope s__law_number⟩, ⟨("_law_step", none), "_law_step", "_law_step", defArgs s__law_step, defBody s__law_step, defScope s__law_step⟩, ⟨("_law_due", none), "_law_due", "_law_due", defArgs s__law_due, defBody s__law_due, defScope s__law_due⟩, ⟨("_law_odd", none), "_law_odd", "_law_odd", defArgs s__law_odd, defBody s__law_odd, defScope s__law_odd⟩, ⟨("_read_number", none), "_read_number", "_read_number", defArgs s__read_number, defBody s__read_number, defScope s__read_number⟩, ⟨("_read_step", none), "_read_step", "_read_step", defArgs s__read_step, defBody s__read_step, defScope s__read_step⟩, ⟨("_read_row", none), "_read_row", "_read_row", defArgs s__read_row, defBody s__read_row, defScope s__read_row⟩, ⟨("is_whole", none), "is_whole", "is_whole", defArgs s_is_whole, defBody s_is_whole, defScope s_is_whole⟩, ⟨("_is_box", none), "_is_box", "_is_box", defArgs s__is_box, defBody s__is_box, defScope s__is_box⟩, ⟨("_is_word", none), "_is_word", "_is_word", defArgs s__is_word, defBody s__is_word, defScope s__is_word⟩, ⟨("_is_worth", none), "_is_worth", "_is_worth", defArgs s__is_worth, defBody s__is_worth, defScope s__is_worth⟩, ⟨("_is_step", none), "_is_step", "_is_step", defArgs s__is_step, defBody s__is_step, defScope s__is_step⟩, ⟨("_is_row", none), "_is_row", "_is_row", defArgs s__is_row, defBody s__is_row, defScope s__is_row⟩, ⟨("is_fence", none), "is_fence", "is_fence", defArgs s_is_fence, defBody s_is_fence, defScope s_is_fence⟩, ⟨("_puts_and_gets", none), "_puts_and_gets", "_puts_and_gets", defArgs s__puts_and_gets, defBody s__puts_and_gets, defScope s__puts_and_gets⟩, ⟨("is_web", none), "is_web", "is_web", defArgs s_is_web, defBody s_is_web, defScope s_is_web⟩, ⟨("read", none), "read", "read", defArgs s_read, defBody s_read, defScope s_read⟩, ⟨("_law_read", none), "_law_read", "_law_read", defArgs s__law_read, defBody s__law_read, defScope s__law_read⟩, ⟨("_law_same", none), "_law_same", "_law_same", defArgs s__law_same, defBody s__law_same, defScope s__law_same⟩, ⟨("_law_text_by", none), "_law_text_by", "_law_text_by", defArgs s__law_text_by, defBody s__law_text_by, defScope s__law_text_by⟩, ⟨("_law_number_by", none), "_law_number_by", "_law_number_by", defArgs s__law_number_by, defBody s__law_number_by, defScope s__law_number_by⟩, ⟨("_law_step_by", none), "_law_step_by", "_law_step_by", defArgs s__law_step_by, defBody s__law_step_by, defScope s__law_step_by⟩, ⟨("_law_web_by", none), "_law_web_by", "_law_web_by", defArgs s__law_web_by, defBody s__law_web_by, defScope s__law_web_by⟩, ⟨("_shown_step", none), "_shown_step", "_shown_step", defArgs s__shown_step, defBody s__shown_step, defScope s__shown_step⟩, ⟨("_shown_row", none), "_shown_row", "_shown_row", defArgs s__shown_row, defBody s__shown_row, defScope s__shown_row⟩, ⟨("need_web", none), "need_web", "need_web", defArgs s_need_web, defBody s_need_web, defScope s_need_web⟩, ⟨("shown", none), "shown", "shown", defArgs s_shown, defBody s_shown, defScope s_shown⟩, ⟨("law", none), "law", "law", defArgs s_law, defBody s_law, defScope s_law⟩]
def faL : List He.Fa := [.glo "WebError", .glo "BadWeb", .glo "NoMove", .glo "NotOver", .glo "NoPlace", .glo "NoText", .exc "BadWeb", .exc "NoText", .free "ValueError", .free "all", .free "bool", .free "int", .free "isinstance", .free "len", .free "list", .free "range", .free "str", .free "sum", .free "tuple", .int "BOXES" 4, .int "_MOST_FIGURES" 30, .int "_MOST_HANDS" 3, .int "_MOST_PUTS_AND_GETS" 8, .int "_TOO_FAR" 1000000000000000000000000000000, .str "_FIGURES" "0123456789", .glo "_law_cell_at", .glo "_law_changed", .glo "_law_number", .glo "_law_step", .glo "_law_due", .glo "_law_odd", .glo "_read_number", .glo "_read_step", .glo "_read_row", .glo "is_whole", .glo "_is_box", .glo "_is_word", .glo "_is_worth", .glo "_is_step", .glo "_is_row", .glo "is_fence", .glo "_puts_and_gets", .glo "is_web", .glo "read", .glo "_law_read", .glo "_law_same", .glo "_law_text_by", .glo "_law_number_by", .glo "_law_step_by", .glo "_law_web_by", .glo "_shown_step", .glo "_shown_row", .glo "need_web", .glo "shown", .glo "law", .keep "_law_cell_at", .keep "_law_changed", .keep "_law_number", .keep "_law_step", .keep "_law_due", .keep "_law_odd", .keep "_read_number", .keep "_read_step", .keep "_read_row", .keep "is_whole", .keep "_is_box", .keep "_is_word", .keep "_is_worth", .keep "_is_step", .keep "_is_row", .keep "is_fence", .keep "_puts_and_gets", .keep "is_web", .keep "read", .keep "_law_read", .keep "_law_same", .keep "_law_text_by", .keep "_law_number_by", .keep "_law_step_by", .keep "_law_web_by", .keep "_shown_step", .keep "_shown_row", .keep "need_web", .keep "shown", .keep "law"]
def exL (K : PySem.W.Frag) : Bool := allB K
abbrev R : PySem.W.OpenRow := PySem.W.OpenLaw.row PySem.Challenge.rw_fencewright_k12_written_and_read
abbrev hk : PySem.W.Hook := hookF 5 faL fnL exL
def ob (s : PySem.W.SharedT) : AlF := obsFG 5 faL fnL exL (HandSHeadRun.getT s)
theorem ob_eq (s : PySem.W.SharedT) : ob s = hk.obs s.abs := obsFG_eq (HandSHeadRun.getT_eq s)
def loose0 : List Str := ["WebError", "BadWeb", "NoMove", "NotOver", "NoPlace", "NoText", "BOXES", "_MOST_HANDS", "_MOST_PUTS_AND_GETS", "_TOO_FAR", "is_whole", "_is_word"]
def loose1 : List Str := ["_is_box", "_is_worth", "_is_step", "is_fence", "_is_row", "_puts_and_gets", "is_web", "need_web", "_FIGURES", "_MOST_FIGURES", "_shown_step", "_shown_row"]
def loose2 : List Str := ["shown", "_read_number", "_read_step", "_read_row", "read", "_law_cell_at", "_law_number_by", "_law_step_by", "_law_web_by", "_law_text_by", "_law_changed", "_law_odd"]
def loose3 : List Str := ["_law_number", "_law_step", "_law_due", "_law_read", "_law_same"]
def looseL : List Str := loose0 ++ loose1 ++ loose2 ++ loose3
theorem run (w : World) : HandSHeadRun.RunEq R (PySem.W.view R.prog [45]) hk ob 8000 looseL w := by
  intro os
  kernel_rfl
theorem facts {h : Heap} {K : KW} {mg : Str → Option Value} (X : K.F.In h) (G : h.Ns mainGlobals mg) (hfa : K.fa = He.ga K.F) (c : SaysF faL fnL exL K.F) : Nonempty (Txt K mg) := by
  have gl : ∀ {x : Str} (i : Nat), faL[i]? = some (.glo x) → mg x = some (.ref (He.ga K x)) := fun i e => He.glo_ok X G (c.fact i e)
  have fr : ∀ {x : Str} (i : Nat), faL[i]? = some (.free x) → mg x = none := fun i e => He.free_ok X G (c.fact i e)
  have kp : ∀ {x : Str} (i : Nat), faL[i]? = some (.keep x) → PySem.W.keepIn K (.ref (He.ga K x)) = true := fun i e => He.keep_ok (c.fact i e)
  have rr : ∀ (k : Nat) (i : Nat), faL[i]? = some (.exc (eNm k)) → RaiseT K k := fun k i e => by
    obtain ⟨h1, h2, h3, h4⟩ := He.exc_ok (c.fact i e)
    exact ⟨h1, h2, h3, h4⟩
  obtain ⟨fd__law_cell_at, F__law_cell_at⟩ := c.def_ 0 (st := s__law_cell_at) (x := "_law_cell_at") rfl (kp 55 rfl)
  obtain ⟨fd__law_changed, F__law_changed⟩ := c.def_ 1 (st := s__law_changed) (x := "_law_changed") rfl (kp 56 rfl)
  obtain ⟨fd__law_number, F__law_number⟩ := c.def_ 2 (st := s__law_number) (x := "_law_number") rfl (kp 57 rfl)
  obtain ⟨fd__law_step, F__law_step⟩ := c.def_ 3 (st := s__law_step) (x := "_law_step") rfl (kp 58 rfl)
  obtain ⟨fd__law_due, F__law_due⟩ := c.def_ 4 (st := s__law_due) (x := "_law_due") rfl (kp 59 rfl)
  obtain ⟨fd__law_odd, F__law_odd⟩ := c.def_ 5 (st := s__law_odd) (x := "_law_odd") rfl (kp 60 rfl)
  obtain ⟨fd__read_number, F__read_number⟩ := c.def_ 6 (st := s__read_number) (x := "_read_number") rfl (kp 61 rfl)
  obtain ⟨fd__read_step, F__read_step⟩ := c.def_ 7 (st := s__read_step) (x := "_read_step") rfl (kp 62 rfl)
  obtain ⟨fd__read_row, F__read_row⟩ := c.def_ 8 (st := s__read_row) (x := "_read_row") rfl (kp 63 rfl)
  obtain ⟨fd_is_whole, F_is_whole⟩ := c.def_ 9 (st := s_is_whole) (x := "is_whole") rfl (kp 64 rfl)
  obtain ⟨fd__is_box, F__is_box⟩ := c.def_ 10 (st := s__is_box) (x := "_is_box") rfl (kp 65 rfl)
  obtain ⟨fd__is_word, F__is_word⟩ := c.def_ 11 (st := s__is_word) (x := "_is_word") rfl (kp 66 rfl)
  obtain ⟨fd__is_worth, F__is_worth⟩ := c.def_ 12 (st := s__is_worth) (x := "_is_worth") rfl (kp 67 rfl)
  obtain ⟨fd__is_step, F__is_step⟩ := c.def_ 13 (st := s__is_step) (x := "_is_step") rfl (kp 68 rfl)
  obtain ⟨fd__is_row, F__is_row⟩ := c.def_ 14 (st := s__is_row) (x := "_is_row") rfl (kp 69 rfl)
  obtain ⟨fd_is_fence, F_is_fence⟩ := c.def_ 15 (st := s_is_fence) (x := "is_fence") rfl (kp 70 rfl)
  obtain ⟨fd__puts_and_gets, F__puts_and_gets⟩ := c.def_ 16 (st := s__puts_and_gets) (x := "_puts_and_gets") rfl (kp 71 rfl)
  obtain ⟨fd_is_web, F_is_web⟩ := c.def_ 17 (st := s_is_web) (x := "is_web") rfl (kp 72 rfl)
  obtain ⟨fd_read, F_read⟩ := c.def_ 18 (st := s_read) (x := "read") rfl (kp 73 rfl)
  obtain ⟨fd__law_read, F__law_read⟩ := c.def_ 19 (st := s__law_read) (x := "_law_read") rfl (kp 74 rfl)
  obtain ⟨fd__law_same, F__law_same⟩ := c.def_ 20 (st := s__law_same) (x := "_law_same") rfl (kp 75 rfl)
  obtain ⟨fd__law_text_by, F__law_text_by⟩ := c.def_ 21 (st := s__law_text_by) (x := "_law_text_by") rfl (kp 76 rfl)
  obtain ⟨fd__law_number_by, F__law_number_by⟩ := c.def_ 22 (st := s__law_number_by) (x := "_law_number_by") rfl (kp 77 rfl)
  obtain ⟨fd__law_step_by, F__law_step_by⟩ := c.def_ 23 (st := s__law_step_by) (x := "_law_step_by") rfl (kp 78 rfl)
  obtain ⟨fd__law_web_by, F__law_web_by⟩ := c.def_ 24 (st := s__law_web_by) (x := "_law_web_by") rfl (kp 79 rfl)
  obtain ⟨fd__shown_step, F__shown_step⟩ := c.def_ 25 (st := s__shown_step) (x := "_shown_step") rfl (kp 80 rfl)
  obtain ⟨fd__shown_row, F__shown_row⟩ := c.def_ 26 (st := s__shown_row) (x := "_shown_row") rfl (kp 81 rfl)
  obtain ⟨fd_need_web, F_need_web⟩ := c.def_ 27 (st := s_need_web) (x := "need_web") rfl (kp 82 rfl)
  obtain ⟨fd_shown, F_shown⟩ := c.def_ 28 (st := s_shown) (x := "shown") rfl (kp 83 rfl)
  obtain ⟨fd_law, F_law⟩ := c.def_ 29 (st := s_law) (x := "law") rfl (kp 84 rfl)
  obtain ⟨t_BOXES, k_BOXES⟩ := He.int_ok X G (c.fact 19 rfl)
  obtain ⟨t__MOST_FIGURES, k__MOST_FIGURES⟩ := He.int_ok X G (c.fact 20 rfl)
  obtain ⟨t__MOST_HANDS, k__MOST_HANDS⟩ := He.int_ok X G (c.fact 21 rfl)
  obtain ⟨t__MOST_PUTS_AND_GETS, k__MOST_PUTS_AND_GETS⟩ := He.int_ok X G (c.fact 22 rfl)
  obtain ⟨t__TOO_FAR, k__TOO_FAR⟩ := He.int_ok X G (c.fact 23 rfl)
  obtain ⟨t__FIGURES, k__FIGURES⟩ := He.str_ok X G (c.fact 24 rfl)
  have ex := c.more
  unfold exL at ex
  have err := ex
  exact ⟨{
    err := allB_ok err
    hfa := hfa
    gW := gl 0 rfl
    gC0 := gl 1 rfl
    gC1 := gl 2 rfl
    gC2 := gl 3 rfl
    gC3 := gl 4 rfl
    gC4 := gl 5 rfl
    r0 := rr 0 6 rfl
    r4 := rr 4 7 rfl
    z_ValueError := fr 8 rfl
    z_all := fr 9 rfl
    z_bool := fr 10 rfl
    z_int := fr 11 rfl
    z_isinstance := fr 12 rfl
    z_len := fr 13 rfl
    z_list := fr 14 rfl
    z_range := fr 15 rfl
    z_str := fr 16 rfl
    z_sum := fr 17 rfl
    z_tuple := fr 18 rfl
    u_BOXES := .int 4 t_BOXES
    k_BOXES := k_BOXES
    v_BOXES := ⟨_, rfl⟩
    r_BOXES := fun _ => .int _
    u__FIGURES := .str "0123456789" t__FIGURES
    k__FIGURES := k__FIGURES
    v__FIGURES := ⟨_, rfl⟩
    r__FIGURES := fun _ => .str _
    u__MOST_FIGURES := .int 30 t__MOST_FIGURES
    k__MOST_FIGURES := k__MOST_FIGURES
    v__MOST_FIGURES := ⟨_, rfl⟩
    r__MOST_FIGURES := fun _ => .int _
    u__MOST_HANDS := .int 3 t__MOST_HANDS
    k__MOST_HANDS := k__MOST_HANDS
    v__MOST_HANDS := ⟨_, rfl⟩
    r__MOST_HANDS := fun _ => .int _
    u__MOST_PUTS_AND_GETS := .int 8 t__MOST_PUTS_AND_GETS
    k__MOST_PUTS_AND_GETS := k__MOST_PUTS_AND_GETS
    v__MOST_PUTS_AND_GETS := ⟨_, rfl⟩
    r__MOST_PUTS_AND_GETS := fun _ => .int _
    u__TOO_FAR := .int 1000000000000000000000000000000 t__TOO_FAR
    k__TOO_FAR := k__TOO_FAR
    v__TOO_FAR := ⟨_, rfl⟩
    r__TOO_FAR := fun _ => .int _
    fd__law_cell_at := fd__law_cell_at
    F__law_cell_at := F__law_cell_at
    g__law_cell_at := gl 25 rfl
    b__law_cell_at := F__law_cell_at.binds fun _ _ _ _ _ _ us hl => match us, hl with | [_, _], _ => rfl
    fd__law_changed := fd__law_changed
    F__law_changed := F__law_changed
    g__law_changed := gl 26 rfl
    b__law_changed := F__law_changed.binds fun _ _ _ _ _ _ us hl => match us, hl with | [_, _], _ => rfl
    fd__law_number := fd__law_number
    F__law_number := F__law_number
    g__law_number := gl 27 rfl
    b__law_number := F__law_number.binds fun _ _ _ _ _ _ us hl => match us, hl with | [_], _ => rfl
    fd__law_step := fd__law_step
    F__law_step := F__law_step
    g__law_step := gl 28 rfl
    b__law_step := F__law_step.binds fun _ _ _ _ _ _ us hl => match us, hl with | [_], _ => rfl
    fd__law_due := fd__law_due
    F__law_due := F__law_due
    g__law_due := gl 29 rfl
    b__law_due := F__law_due.binds fun _ _ _ _ _ _ us hl => match us, hl with | [_], _ => rfl
    fd__law_odd := fd__law_odd
    F__law_odd := F__law_odd
    g__law_odd := gl 30 rfl
    b__law_odd := F__law_odd.binds fun _ _ _ _ _ _ us hl => match us, hl with | [_], _ => rfl
    fd__read_number := fd__read_number
    F__read_number := F__read_number
    g__read_number := gl 31 rfl
    b__read_number := F__read_number.binds fun _ _ _ _ _ _ us hl => match us, hl with | [_], _ => rfl
    fd__read_step := fd__read_step
    F__read_step := F__read_step
    g__read_step := gl 32 rfl
    b__read_step := F__read_step.binds fun _ _ _ _ _ _ us hl => match us, hl with | [_], _ => rfl
    fd__read_row := fd__read_row
    F__read_row := F__read_row
    g__read_row := gl 33 rfl
    b__read_row := F__read_row.binds fun _ _ _ _ _ _ us hl => match us, hl with | [_], _ => rfl
    fd_is_whole := fd_is_whole
    F_is_whole := F_is_whole
    g_is_whole := gl 34 rfl
    b_is_whole := F_is_whole.binds fun _ _ _ _ _ _ us hl => match us, hl with | [_], _ => rfl
    fd__is_box := fd__is_box
    F__is_box := F__is_box
    g__is_box := gl 35 rfl
    b__is_box := F__is_box.binds fun _ _ _ _ _ _ us hl => match us, hl with | [_], _ => rfl
    fd__is_word := fd__is_word
    F__is_word := F__is_word
    g__is_word := gl 36 rfl
    b__is_word := F__is_word.binds fun _ _ _ _ _ _ us hl => match us, hl with | [_, _], _ => rfl
    fd__is_worth := fd__is_worth
    F__is_worth := F__is_worth
    g__is_worth := gl 37 rfl
    b__is_worth := F__is_worth.binds fun _ _ _ _ _ _ us hl => match us, hl with | [_], _ => rfl
    fd__is_step := fd__is_step
    F__is_step := F__is_step
    g__is_step := gl 38 rfl
    b__is_step := F__is_step.binds fun _ _ _ _ _ _ us hl => match us, hl with | [_], _ => rfl
    fd__is_row := fd__is_row
    F__is_row := F__is_row
    g__is_row := gl 39 rfl
    b__is_row := F__is_row.binds fun _ _ _ _ _ _ us hl => match us, hl with | [_], _ => rfl
    fd_is_fence := fd_is_fence
    F_is_fence := F_is_fence
    g_is_fence := gl 40 rfl
    b_is_fence := F_is_fence.binds fun _ _ _ _ _ _ us hl => match us, hl with | [_], _ => rfl
    fd__puts_and_gets := fd__puts_and_gets
    F__puts_and_gets := F__puts_and_gets
    g__puts_and_gets := gl 41 rfl
    b__puts_and_gets := F__puts_and_gets.binds fun _ _ _ _ _ _ us hl => match us, hl with | [_], _ => rfl
    fd_is_web := fd_is_web
    F_is_web := F_is_web
    g_is_web := gl 42 rfl
    b_is_web := F_is_web.binds fun _ _ _ _ _ _ us hl => match us, hl with | [_], _ => rfl
    fd_read := fd_read
    F_read := F_read
    g_read := gl 43 rfl
    b_read := F_read.binds fun _ _ _ _ _ _ us hl => match us, hl with | [_], _ => rfl
    fd__law_read := fd__law_read
    F__law_read := F__law_read
    g__law_read := gl 44 rfl
    b__law_read := F__law_read.binds fun _ _ _ _ _ _ us hl => match us, hl with | [_], _ => rfl
    fd__law_same := fd__law_same
    F__law_same := F__law_same
    g__law_same := gl 45 rfl
    b__law_same := F__law_same.binds fun _ _ _ _ _ _ us hl => match us, hl with | [_, _], _ => rfl
    fd__law_text_by := fd__law_text_by
    F__law_text_by := F__law_text_by
    g__law_text_by := gl 46 rfl
    b__law_text_by := F__law_text_by.binds fun _ _ _ _ _ _ us hl => match us, hl with | [_], _ => rfl
    fd__law_number_by := fd__law_number_by
    F__law_number_by := F__law_number_by
    g__law_number_by := gl 47 rfl
    b__law_number_by := F__law_number_by.binds fun _ _ _ _ _ _ us hl => match us, hl with | [_], _ => rfl
    fd__law_step_by := fd__law_step_by
    F__law_step_by := F__law_step_by
    g__law_step_by := gl 48 rfl
    b__law_step_by := F__law_step_by.binds fun _ _ _ _ _ _ us hl => match us, hl with | [_], _ => rfl
    fd__law_web_by := fd__law_web_by
    F__law_web_by := F__law_web_by
    g__law_web_by := gl 49 rfl
    b__law_web_by := F__law_web_by.binds fun _ _ _ _ _ _ us hl => match us, hl with | [_], _ => rfl
    fd__shown_step := fd__shown_step
    F__shown_step := F__shown_step
    g__shown_step := gl 50 rfl
    b__shown_step := F__shown_step.binds fun _ _ _ _ _ _ us hl => match us, hl with | [_], _ => rfl
    fd__shown_row := fd__shown_row
    F__shown_row := F__shown_row
    g__shown_row := gl 51 rfl
    b__shown_row := F__shown_row.binds fun _ _ _ _ _ _ us hl => match us, hl with | [_], _ => rfl
    fd_need_web := fd_need_web
    F_need_web := F_need_web
    g_need_web := gl 52 rfl
    b_need_web := F_need_web.binds fun _ _ _ _ _ _ us hl => match us, hl with | [_], _ => rfl
    fd_shown := fd_shown
    F_shown := F_shown
    g_shown := gl 53 rfl
    b_shown := F_shown.binds fun _ _ _ _ _ _ us hl => match us, hl with | [_], _ => rfl
    fd_law := fd_law
    F_law := F_law
    g_law := gl 54 rfl
    b_law := F_law.binds fun _ _ _ _ _ _ us hl => match us, hl with | [_], _ => rfl
  }⟩
end K12

set_option Elab.async false
set_option linter.all false
set_option maxRecDepth 100000
set_option maxHeartbeats 4000000
namespace K12
open PySem PySem.Spec PyProof.Rows L2 Fw Pg TL
theorem tl_cut1 (x : Str) : tl (cutS x none (some 1)) = (tl x).take 1 := by
  unfold cutS
  have e : HT.sIx x.length x.length (some (1 : Int)) = min 1 x.length := HT.sIx_nat _ _ 1
  rw [HT.sIx_none, e, List.drop_zero, Nat.sub_zero]
  show (tl x).take (min 1 x.length) = _
  rw [len_tl]
  cases tl x <;> simp
theorem tl_cut2 (x : Str) : tl (cutS x (some 1) none) = (tl x).drop 1 := by
  unfold cutS
  have e : HT.sIx x.length 0 (some (1 : Int)) = min 1 x.length := HT.sIx_nat _ _ 1
  rw [HT.sIx_none, e]
  show ((tl x).drop (min 1 x.length)).take (x.length - min 1 x.length) = _
  rw [len_tl]
  cases tl x with
  | nil => rfl
  | cons a l =>
    have : min 1 (a :: l).length = 1 := by simp
    rw [this]
    refine List.take_of_length_le ?_
    simp
theorem law_number_ok (x : Str) (hx : Fine x) (hl : x.length ≤ 100000) : F__law_number [.str x] = .ok (oI (nOf (tl x))) := by
  have b : x.length ≤ 16000000 := by omega
  have t1 := tl_cut1 x
  have t2 := tl_cut2 x
  have f1 : Fine (cutS x none (some 1)) := fun c hc => by rw [t1] at hc; exact hx c (List.mem_of_mem_take hc)
  have dd : tl ("-" : Str) = [45] := by decide +kernel
  have q := dEq_str f1.ok so_dash
  rw [eq_tl, t1, dd] at q
  have hd : decide ((tl x).take 1 = [45]) = decide ((tl x).head? = some 45) := by
    cases tl x with
    | nil => rfl
    | cons a l => simp
  rw [hd] at q
  obtain ⟨y, n1, rd⟩ : ∃ y, sAsg (pName 1) (eIf (bOf (eOp dEq (eSl (eVar 0) oNone (oSome (eC (.int 1)))) (eC (.str "-")))) (eSl (eVar 0) (oSome (eC (.int 1))) oNone) (eVar 0)) [.p (.str x), .no, .no] = .nx [.p (.str x), .p (.str y), .no] ∧ tl y = figs (tl x) := by
    have c : bOf (eOp dEq (eSl (eVar 0) oNone (oSome (eC (.int 1)))) (eC (.str "-"))) [.p (.str x), .no, .no] = .ok (decide ((tl x).head? = some 45)) := by
      unfold bOf
      rw [(eOp_ok (x := .str (cutS x none (some 1))) (by simp [fnP, fnO, ins, retP, retO, sSeq, sIf, sAsg, sRet, sRetO, sSkip, sRetN, sRaise, sDrop, rOut, eOp, eUn, eVar, eC, rget, eArgs, aNil, aCons, eAnd, eOr, eNot, bOf, bNot, bAnd, bOr, bTru, dTru, bYes, eIf, eCall0, eCall, eChain, eSl, oNone, oSome, dSl, dAdd, dSub, dMod, dDiv, dNeg, dLt, dLtU, dLe, dGt, dGe, dIs, dIx, dIxI, d1, dLen1, dTup, dLst, dListOf, dListW, dTupOf, dIntOf, dIsi, isScr, tyName, scrOf, pName, pTup, psCons, psNil, Res.bind, noExc, ofOpt, patOut, loopOut, wipeR, lcTurn, eNL, noList, noListAll, eFlat, flatL, wSeq, wRange1, wRange2, wEnum, wRev, bigv, b]) rfl).trans q]
      rfl
    unfold figs
    by_cases h : (tl x).head? = some 45
    · rw [decide_eq_true h] at c
      refine ⟨cutS x (some 1) none, sAsg_nm ((eIf_t c).trans (by simp [fnP, fnO, ins, retP, retO, sSeq, sIf, sAsg, sRet, sRetO, sSkip, sRetN, sRaise, sDrop, rOut, eOp, eUn, eVar, eC, rget, eArgs, aNil, aCons, eAnd, eOr, eNot, bOf, bNot, bAnd, bOr, bTru, dTru, bYes, eIf, eCall0, eCall, eChain, eSl, oNone, oSome, dSl, dAdd, dSub, dMod, dDiv, dNeg, dLt, dLtU, dLe, dGt, dGe, dIs, dIx, dIxI, d1, dLen1, dTup, dLst, dListOf, dListW, dTupOf, dIntOf, dIsi, isScr, tyName, scrOf, pName, pTup, psCons, psNil, Res.bind, noExc, ofOpt, patOut, loopOut, wipeR, lcTurn, eNL, noList, noListAll, eFlat, flatL, wSeq, wRange1, wRange2, wEnum, wRev, bigv, b])), ?_⟩
      rw [t2, if_pos h, List.drop_one]
    · rw [decide_eq_false h] at c
      exact ⟨x, sAsg_nm ((eIf_f c).trans rfl), by rw [if_neg h]⟩
  have xl := len_tl x
  have fl : y.length = (figs (tl x)).length := by rw [len_tl, rd]
  have fl2 : (figs (tl x)).length ≤ x.length := by
    rw [xl]
    unfold figs
    split
    · rw [List.length_tail]; omega
    · omega
  have b1 : y.length ≤ 16000000 := by omega
  have fy := figs_fine hx rd
  have e1 : C1__law_number [.p (.str x), .p (.str y), .no] = .ok (.list (((tl y).filter fun c => !isFig c).map fun c => PyData.str ⟨#[c]⟩)) := by
    have e := eLc_filter (it := wStr (eVar 1)) (pat := pName 2) (tt := bOf (eOp (dIn true) (eVar 2) (eC (.str "0123456789")))) (elt := eVar 2) (vs := [2]) (ρ := [.p (.str x), .p (.str y), .no]) (ds := (tl y).map fun c => PyData.str ⟨#[c]⟩) (p := fun d => match d with | .str z => !isFig (z.cps.toList.headD 0) | _ => false) (f := id) (by simp [wStr, Fw.signs, fnP, fnO, ins, retP, retO, sSeq, sIf, sAsg, sRet, sRetO, sSkip, sRetN, sRaise, sDrop, rOut, eOp, eUn, eVar, eC, rget, eArgs, aNil, aCons, eAnd, eOr, eNot, bOf, bNot, bAnd, bOr, bTru, dTru, bYes, eIf, eCall0, eCall, eChain, eSl, oNone, oSome, dSl, dAdd, dSub, dMod, dDiv, dNeg, dLt, dLtU, dLe, dGt, dGe, dIs, dIx, dIxI, d1, dLen1, dTup, dLst, dListOf, dListW, dTupOf, dIntOf, dIsi, isScr, tyName, scrOf, pName, pTup, psCons, psNil, Res.bind, noExc, ofOpt, patOut, loopOut, wipeR, lcTurn, eNL, noList, noListAll, eFlat, flatL, wSeq, wRange1, wRange2, wEnum, wRev]) (fun d hd => by
      obtain ⟨c, hc, rfl⟩ := List.mem_map.mp hd
      have q : dIn true (.str ⟨#[c]⟩) (.str FIG) = .ok (.bool (!isFig c)) := by
        rw [← fig_in c]
        show Res.ok (PyData.bool (decide (c ∈ FIG.cps.toList) != true)) = _
        rw [Bool.bne_true]
      have q2 : dIn true (.str ⟨#[c]⟩) (.str "0123456789") = .ok (.bool (!isFig c)) := q
      simp [lcTurn, pName, wipeR, bOf, eOp, eVar, eC, rget, Res.bind, q2]
      cases isFig c <;> rfl) (by rw [List.length_map, bigv, ← len_tl]; omega)
    rw [filter_map (fun c => PyData.str ⟨#[c]⟩) _ (fun c => !isFig c) (fun c => rfl), List.map_map] at e
    exact e
  have sl : ∀ l : List Nat, (∀ c ∈ l, c < 128) → dNe (.list (l.map fun c => PyData.str ⟨#[c]⟩)) (.list []) = .ok (.bool (!l.isEmpty)) := fun l h => by
    rw [dNe_sh (n := 1) (.list (n := 0) fun d hd => by
      obtain ⟨c, hc, rfl⟩ := List.mem_map.mp hd
      exact .str (Fine.ok fun c' hc' => by
        have : c' = c := by simpa using hc'
        rw [this]
        exact h c hc)) sh_nil (by decide)]
    cases l <;> simp [PyData.eqv, PyData.eqvAll]
  have e2 : bOf (eOp dNe C1__law_number (eArgs dLst aNil)) [.p (.str x), .p (.str y), .no] = .ok (!(figs (tl x)).all isFig) := by
    unfold bOf
    rw [(eOp_ok e1 (y := .list []) (by simp [fnP, fnO, ins, retP, retO, sSeq, sIf, sAsg, sRet, sRetO, sSkip, sRetN, sRaise, sDrop, rOut, eOp, eUn, eVar, eC, rget, eArgs, aNil, aCons, eAnd, eOr, eNot, bOf, bNot, bAnd, bOr, bTru, dTru, bYes, eIf, eCall0, eCall, eChain, eSl, oNone, oSome, dSl, dAdd, dSub, dMod, dDiv, dNeg, dLt, dLtU, dLe, dGt, dGe, dIs, dIx, dIxI, d1, dLen1, dTup, dLst, dListOf, dListW, dTupOf, dIntOf, dIsi, isScr, tyName, scrOf, pName, pTup, psCons, psNil, Res.bind, noExc, ofOpt, patOut, loopOut, wipeR, lcTurn, eNL, noList, noListAll, eFlat, flatL, wSeq, wRange1, wRange2, wEnum, wRev, bigv])).trans (sl _ fun c hc => fy c (List.mem_filter.mp hc).1), rd]
    show Res.ok _ = _
    congr 1
    generalize figs (tl x) = l
    induction l with
    | nil => rfl
    | cons a l ih =>
      rw [List.all_cons]
      cases h : isFig a with
      | true => rw [List.filter_cons_of_neg (by simp [h])]; simpa using ih
      | false => rw [List.filter_cons_of_pos (by simp [h])]; rfl
  have a1 : bOf (eChain dLe dLe (eC (.int 1)) (eArgs (d1 dLen1) (aCons (eVar 1) aNil)) (eC (.int 30))) [.p (.str x), .p (.str y), .no] = .ok (decide (1 ≤ (figs (tl x)).length ∧ (figs (tl x)).length ≤ 30)) := by
    rw [← fl]
    by_cases h1 : 1 ≤ y.length
    · have h1' : (1 : Int) ≤ (y.length : Nat) := by omega
      by_cases h2 : y.length ≤ 30
      · have h2' : ((y.length : Nat) : Int) ≤ 30 := by omega
        simp [fnP, fnO, ins, retP, retO, sSeq, sIf, sAsg, sRet, sRetO, sSkip, sRetN, sRaise, sDrop, rOut, eOp, eUn, eVar, eC, rget, eArgs, aNil, aCons, eAnd, eOr, eNot, bOf, bNot, bAnd, bOr, bTru, dTru, bYes, eIf, eCall0, eCall, eChain, eSl, oNone, oSome, dSl, dAdd, dSub, dMod, dDiv, dNeg, dLt, dLtU, dLe, dGt, dGe, dIs, dIx, dIxI, d1, dLen1, dTup, dLst, dListOf, dListW, dTupOf, dIntOf, dIsi, isScr, tyName, scrOf, pName, pTup, psCons, psNil, Res.bind, noExc, ofOpt, patOut, loopOut, wipeR, lcTurn, eNL, noList, noListAll, eFlat, flatL, wSeq, wRange1, wRange2, wEnum, wRev, bigv, b1, h1, h1', h2, h2']
      · have h2' : ¬ (((y.length : Nat) : Int) ≤ 30) := by omega
        simp [fnP, fnO, ins, retP, retO, sSeq, sIf, sAsg, sRet, sRetO, sSkip, sRetN, sRaise, sDrop, rOut, eOp, eUn, eVar, eC, rget, eArgs, aNil, aCons, eAnd, eOr, eNot, bOf, bNot, bAnd, bOr, bTru, dTru, bYes, eIf, eCall0, eCall, eChain, eSl, oNone, oSome, dSl, dAdd, dSub, dMod, dDiv, dNeg, dLt, dLtU, dLe, dGt, dGe, dIs, dIx, dIxI, d1, dLen1, dTup, dLst, dListOf, dListW, dTupOf, dIntOf, dIsi, isScr, tyName, scrOf, pName, pTup, psCons, psNil, Res.bind, noExc, ofOpt, patOut, loopOut, wipeR, lcTurn, eNL, noList, noListAll, eFlat, flatL, wSeq, wRange1, wRange2, wEnum, wRev, bigv, b1, h1, h1', h2, h2']
    · have h1' : ¬ ((1 : Int) ≤ (y.length : Nat)) := by omega
      simp [fnP, fnO, ins, retP, retO, sSeq, sIf, sAsg, sRet, sRetO, sSkip, sRetN, sRaise, sDrop, rOut, eOp, eUn, eVar, eC, rget, eArgs, aNil, aCons, eAnd, eOr, eNot, bOf, bNot, bAnd, bOr, bTru, dTru, bYes, eIf, eCall0, eCall, eChain, eSl, oNone, oSome, dSl, dAdd, dSub, dMod, dDiv, dNeg, dLt, dLtU, dLe, dGt, dGe, dIs, dIx, dIxI, d1, dLen1, dTup, dLst, dListOf, dListW, dTupOf, dIntOf, dIsi, isScr, tyName, scrOf, pName, pTup, psCons, psNil, Res.bind, noExc, ofOpt, patOut, loopOut, wipeR, lcTurn, eNL, noList, noListAll, eFlat, flatL, wSeq, wRange1, wRange2, wEnum, wRev, bigv, b1, h1, h1']
  have c1 : (bOr (bNot (bOf (eChain dLe dLe (eC (.int 1)) (eArgs (d1 dLen1) (aCons (eVar 1) aNil)) (eC (.int 30))))) (bOf (eOp dNe C1__law_number (eArgs dLst aNil)))) [.p (.str x), .p (.str y), .no] = .ok (!(decide (1 ≤ (figs (tl x)).length ∧ (figs (tl x)).length ≤ 30) && (figs (tl x)).all isFig)) := by
    unfold bOr bNot
    rw [a1, e2]
    cases decide (1 ≤ (figs (tl x)).length ∧ (figs (tl x)).length ≤ 30) <;> cases (figs (tl x)).all isFig <;> rfl
  show noExc (retP (b__law_number [.p (.str x), .no, .no])) = _
  unfold b__law_number nOf
  rw [sSeq_nx n1]
  cases q1 : decide (1 ≤ (figs (tl x)).length ∧ (figs (tl x)).length ≤ 30) && (figs (tl x)).all isFig with
  | false =>
    rw [q1] at c1
    have no : numOk (tl x) = false := by unfold numOk; rw [q1]; rfl
    rw [sIf_retC c1, no, if_neg (by decide)]
    rfl
  | true =>
    rw [q1] at c1
    rw [sSeq_nx (sIf_skip c1)]
    have q1' := (Bool.and_eq_true _ _ ▸ q1 : _ ∧ _)
    have l1 := (of_decide_eq_true q1'.1).1
    obtain ⟨a, r, ea⟩ : ∃ a r, tl y = a :: r := by
      cases h : tl y with
      | nil => rw [← rd, h] at l1; exact absurd l1 (by decide)
      | cons a r => exact ⟨a, r, rfl⟩
    have i0 : eOp dIx (eVar 1) (eC (.int 0)) [.p (.str x), .p (.str y), .no] = .ok (.str ⟨#[a]⟩) := by
      have g : atI y.cps.toList 0 = some a := by
        show atI (tl y) 0 = _
        rw [ea]
        exact at0 _ _
      simp [fnP, fnO, ins, retP, retO, sSeq, sIf, sAsg, sRet, sRetO, sSkip, sRetN, sRaise, sDrop, rOut, eOp, eUn, eVar, eC, rget, eArgs, aNil, aCons, eAnd, eOr, eNot, bOf, bNot, bAnd, bOr, bTru, dTru, bYes, eIf, eCall0, eCall, eChain, eSl, oNone, oSome, dSl, dAdd, dSub, dMod, dDiv, dNeg, dLt, dLtU, dLe, dGt, dGe, dIs, dIx, dIxI, d1, dLen1, dTup, dLst, dListOf, dListW, dTupOf, dIntOf, dIsi, isScr, tyName, scrOf, pName, pTup, psCons, psNil, Res.bind, noExc, ofOpt, patOut, loopOut, wipeR, lcTurn, eNL, noList, noListAll, eFlat, flatL, wSeq, wRange1, wRange2, wEnum, wRev, bigv, b1, g]
    have fa : Fine ⟨#[a]⟩ := fun c hc => by
      have : c = a := by simpa using hc
      rw [this]
      exact fy a (by rw [ea]; exact List.mem_cons_self)
    have qa := dEq_str fa.ok so_0
    rw [eq_tl, tl_0] at qa
    have ha : decide (tl (⟨#[a]⟩ : Str) = [48]) = decide ((figs (tl x)).head? = some 48) := by
      rw [← rd, ea]
      show decide ([a] = [48]) = decide (some a = some 48)
      simp
    rw [ha] at qa
    have ne := dNe_str hx.ok so_0
    rw [eq_tl, tl_0] at ne
    have c2 : (bAnd (bOf (eOp dEq (eOp dIx (eVar 1) (eC (.int 0))) (eC (.str "0")))) (bOf (eOp dNe (eVar 0) (eC (.str "0"))))) [.p (.str x), .p (.str y), .no] = .ok (decide ((figs (tl x)).head? = some 48) && !decide (tl x = [48])) := by
      have a1 : bOf (eOp dEq (eOp dIx (eVar 1) (eC (.int 0))) (eC (.str "0"))) [.p (.str x), .p (.str y), .no] = .ok (decide ((figs (tl x)).head? = some 48)) := by
        unfold bOf
        rw [(eOp_ok i0 rfl).trans qa]
        rfl
      have a2 : bOf (eOp dNe (eVar 0) (eC (.str "0"))) [.p (.str x), .p (.str y), .no] = .ok (!decide (tl x = [48])) := by
        unfold bOf
        rw [(eOp_ok rfl rfl).trans ne]
        rfl
      unfold bAnd
      rw [a1, a2]
      cases decide ((figs (tl x)).head? = some 48) <;> rfl
    cases q2 : decide ((figs (tl x)).head? = some 48) && !decide (tl x = [48]) with
    | true =>
      rw [q2] at c2
      have no : numOk (tl x) = false := by unfold numOk; rw [q1, q2]; rfl
      rw [sIf_retC c2, no, if_neg (by decide)]
      rfl
    | false =>
      rw [q2] at c2
      have no : numOk (tl x) = true := by unfold numOk; rw [q1, q2]; rfl
      obtain ⟨i1, i2⟩ := int_of no
      rw [sSeq_nx (sIf_skip c2), no, if_pos rfl, sRet_ok (d := .int (numVal (tl x))) (by simp [fnP, fnO, ins, retP, retO, sSeq, sIf, sAsg, sRet, sRetO, sSkip, sRetN, sRaise, sDrop, rOut, eOp, eUn, eVar, eC, rget, eArgs, aNil, aCons, eAnd, eOr, eNot, bOf, bNot, bAnd, bOr, bTru, dTru, bYes, eIf, eCall0, eCall, eChain, eSl, oNone, oSome, dSl, dAdd, dSub, dMod, dDiv, dNeg, dLt, dLtU, dLe, dGt, dGe, dIs, dIx, dIxI, d1, dLen1, dTup, dLst, dListOf, dListW, dTupOf, dIntOf, dIsi, isScr, tyName, scrOf, pName, pTup, psCons, psNil, Res.bind, noExc, ofOpt, patOut, loopOut, wipeR, lcTurn, eNL, noList, noListAll, eFlat, flatL, wSeq, wRange1, wRange2, wEnum, wRev, dIntT, i1, i2])]
      rfl
end K12

set_option Elab.async false
set_option linter.all false
set_option maxRecDepth 100000
set_option maxHeartbeats 4000000
namespace K12
open PySem PySem.Spec PyProof.Rows L2 Fw Pg TL
def oS : Option Stp → D
  | none => .none
  | some s => eStp s
theorem ne_pgS : (("put" : Str) == "get") = false := ne_pg
theorem sh_strs {W : List Str} (h : ∀ p ∈ W, Fine p) : Sh 1 (.list (W.map PyData.str)) := .list (n := 0) fun d hd => by
  obtain ⟨p, hp, rfl⟩ := List.mem_map.mp hd
  exact .str (h p hp).ok
theorem sh_oI (o : Option Int) : Sh 0 (oI o) := by
  cases o with
  | none => exact .none
  | some n => exact .int n
def isF : List Str → Bool
  | [a] => a == "fence"
  | _ => false
theorem eq_fence {W : List Str} (h : ∀ p ∈ W, Fine p) : dEq (.list (W.map PyData.str)) (.list [.str "fence"]) = .ok (.bool (isF W)) := by
  rw [dEq_sh (n := 1) (sh_strs h) (.list (n := 0) fun d hd => by rw [List.mem_singleton.mp hd]; exact .str so_fence) (by decide)]
  match W with
  | [] => simp [PyData.eqv, PyData.eqvAll, isF]
  | [a] => simp [PyData.eqv, PyData.eqvAll, isF]
  | a :: b :: ws => simp [PyData.eqv, PyData.eqvAll, isF]
theorem in_words (a : Str) : dIn true (.str a) (.tuple [.str "put", .str "get"]) = .ok (.bool (!((("put" : Str) == a) || (("get" : Str) == a)))) := by
  simp [dIn, flatD, eqv_str]
theorem comm_eq (a b : Str) : (a == b) = (b == a) := by
  by_cases h : a = b
  · subst h; rfl
  · have : b ≠ a := fun z => h z.symm
    rw [beq_eq_false_iff_ne.mpr h, beq_eq_false_iff_ne.mpr this]
theorem none_in (l : List (Option Int)) : dIn false .none (.list (l.map oI)) = .ok (.bool (l.any Option.isNone)) := by
  have s : SeqAt.shaped (.list (l.map oI)) = true := (Sh.list (n := 0) fun d hd => by
    obtain ⟨o, _, rfl⟩ := List.mem_map.mp hd
    exact sh_oI o).ok (by decide)
  have s0 : SeqAt.shaped .none = true := (Sh.none (n := 0)).ok (by decide)
  show (if SeqAt.shaped .none = true ∧ SeqAt.shaped (.list (l.map oI)) = true then Res.ok (PyData.bool (if false then !((l.map oI).any fun z => PyData.eqv z .none) else (l.map oI).any fun z => PyData.eqv z .none)) else .bad) = _
  rw [if_pos ⟨s0, s⟩]
  congr 2
  show ((l.map oI).any fun z => PyData.eqv z .none) = _
  rw [List.any_map]
  congr 1
  funext o
  cases o <;> simp [oI, PyData.eqv]
theorem law_step_ok {x : Str} (h : Small x) : F__law_step [.str x] = .ok (oS (stepOf (wordsOf1 x))) := by
  obtain ⟨h1, h2, h3⟩ := split_ok sep_w h.fine
  have hl := h.len
  have ds := dSplit_ok (x := x) ln_w (by omega)
  have hW : ∀ p ∈ wordsOf1 x, Fine p := fun p hp => (h1 p hp).1
  have n1 : sAsg (pName 1) (eM1 dSplit (eVar 0) (eC (.str " "))) [.p (.str x), .no, .no, .no] = .nx [.p (.str x), .p (.list ((wordsOf1 x).map PyData.str)), .no, .no] := sAsg_nm (by simp [eM1, fnP, fnO, ins, retP, retO, sSeq, sIf, sAsg, sRet, sRetO, sSkip, sRetN, sRaise, sDrop, rOut, eOp, eUn, eVar, eC, rget, eArgs, aNil, aCons, eAnd, eOr, eNot, bOf, bNot, bAnd, bOr, bTru, dTru, bYes, eIf, eCall0, eCall, eChain, eSl, oNone, oSome, dSl, dAdd, dSub, dMod, dDiv, dNeg, dLt, dLtU, dLe, dGt, dGe, dIs, dIx, dIxI, d1, dLen1, dTup, dLst, dListOf, dListW, dTupOf, dIntOf, dIsi, isScr, tyName, scrOf, pName, pTup, psCons, psNil, Res.bind, noExc, ofOpt, patOut, loopOut, wipeR, lcTurn, eNL, noList, noListAll, eFlat, flatL, wSeq, wRange1, wRange2, wEnum, wRev, ds, wordsOf1])
  have hne : wordsOf1 x ≠ [] := (words_ok h).2.1
  have hlw := (words_ok h).2.2
  have hp : ∀ p ∈ wordsOf1 x, p.length ≤ 900 := fun p hp => by have := (h1 p hp).2; omega
  have ef := eq_fence hW
  show noExc (retP (b__law_step [.p (.str x), .no, .no, .no])) = _
  unfold b__law_step
  rw [sSeq_nx n1]
  generalize wordsOf1 x = W at hW hne hlw hp ef ⊢
  have cf : bOf (eOp dEq (eVar 1) (eArgs dLst (aCons (eC (.str "fence")) aNil))) [.p (.str x), .p (.list (W.map PyData.str)), .no, .no] = .ok (isF W) := by
    unfold bOf
    rw [(eOp_ok (x := .list (W.map PyData.str)) (y := .list [.str "fence"]) rfl (by simp [fnP, fnO, ins, retP, retO, sSeq, sIf, sAsg, sRet, sRetO, sSkip, sRetN, sRaise, sDrop, rOut, eOp, eUn, eVar, eC, rget, eArgs, aNil, aCons, eAnd, eOr, eNot, bOf, bNot, bAnd, bOr, bTru, dTru, bYes, eIf, eCall0, eCall, eChain, eSl, oNone, oSome, dSl, dAdd, dSub, dMod, dDiv, dNeg, dLt, dLtU, dLe, dGt, dGe, dIs, dIx, dIxI, d1, dLen1, dTup, dLst, dListOf, dListW, dTupOf, dIntOf, dIsi, isScr, tyName, scrOf, pName, pTup, psCons, psNil, Res.bind, noExc, ofOpt, patOut, loopOut, wipeR, lcTurn, eNL, noList, noListAll, eFlat, flatL, wSeq, wRange1, wRange2, wEnum, wRev, bigv])).trans ef]
    rfl
  have e3 : C1__law_step [.p (.str x), .p (.list (W.map PyData.str)), .no, .no] = .ok (.list ((W.tail.map fun w => nOf (tl w)).map oI)) := by
    have t2 := cut_drop (W.map PyData.str) 1 (by
      rw [List.length_map]
      cases W with
      | nil => exact absurd rfl hne
      | cons a l => simp)
    have t2' : Fw.cutD (W.map PyData.str) (some 1) none = W.tail.map PyData.str := by
      have : Fw.cutD (W.map PyData.str) (some 1) none = (W.map PyData.str).drop 1 := t2
      rw [this, List.drop_one, List.map_tail]
    rw [List.map_map]
    refine eLc_enc (f := PyData.str) (l := W.tail) ?_ (fun w hw => ?_) (by rw [bigv, List.length_tail]; omega)
    · simp [fnP, fnO, ins, retP, retO, sSeq, sIf, sAsg, sRet, sRetO, sSkip, sRetN, sRaise, sDrop, rOut, eOp, eUn, eVar, eC, rget, eArgs, aNil, aCons, eAnd, eOr, eNot, bOf, bNot, bAnd, bOr, bTru, dTru, bYes, eIf, eCall0, eCall, eChain, eSl, oNone, oSome, dSl, dAdd, dSub, dMod, dDiv, dNeg, dLt, dLtU, dLe, dGt, dGe, dIs, dIx, dIxI, d1, dLen1, dTup, dLst, dListOf, dListW, dTupOf, dIntOf, dIsi, isScr, tyName, scrOf, pName, pTup, psCons, psNil, Res.bind, noExc, ofOpt, patOut, loopOut, wipeR, lcTurn, eNL, noList, noListAll, eFlat, flatL, wSeq, wRange1, wRange2, wEnum, wRev, t2']
    · have hw' := List.mem_of_mem_tail hw
      simp [fnP, fnO, ins, retP, retO, sSeq, sIf, sAsg, sRet, sRetO, sSkip, sRetN, sRaise, sDrop, rOut, eOp, eUn, eVar, eC, rget, eArgs, aNil, aCons, eAnd, eOr, eNot, bOf, bNot, bAnd, bOr, bTru, dTru, bYes, eIf, eCall0, eCall, eChain, eSl, oNone, oSome, dSl, dAdd, dSub, dMod, dDiv, dNeg, dLt, dLtU, dLe, dGt, dGe, dIs, dIx, dIxI, d1, dLen1, dTup, dLst, dListOf, dListW, dTupOf, dIntOf, dIsi, isScr, tyName, scrOf, pName, pTup, psCons, psNil, Res.bind, noExc, ofOpt, patOut, loopOut, wipeR, lcTurn, eNL, noList, noListAll, eFlat, flatL, wSeq, wRange1, wRange2, wEnum, wRev, law_number_ok w (hW w hw') (by have := hp w hw'; omega)]
  match W, hne with
  | [a], _ =>
    cases q : a == "fence" with
    | true =>
      have e := eq_of_beq q
      subst e
      have st : stepOf ["fence"] = some .fence := by decide +kernel
      have cf := cf.trans (congrArg Res.ok (show isF [_] = _ from q))
      rw [sSeq_ret ((sIf_t cf).trans (sRet_ok (d := .tuple [.str "fence"]) (by simp [fnP, fnO, ins, retP, retO, sSeq, sIf, sAsg, sRet, sRetO, sSkip, sRetN, sRaise, sDrop, rOut, eOp, eUn, eVar, eC, rget, eArgs, aNil, aCons, eAnd, eOr, eNot, bOf, bNot, bAnd, bOr, bTru, dTru, bYes, eIf, eCall0, eCall, eChain, eSl, oNone, oSome, dSl, dAdd, dSub, dMod, dDiv, dNeg, dLt, dLtU, dLe, dGt, dGe, dIs, dIx, dIxI, d1, dLen1, dTup, dLst, dListOf, dListW, dTupOf, dIntOf, dIsi, isScr, tyName, scrOf, pName, pTup, psCons, psNil, Res.bind, noExc, ofOpt, patOut, loopOut, wipeR, lcTurn, eNL, noList, noListAll, eFlat, flatL, wSeq, wRange1, wRange2, wEnum, wRev, bigv]))), st]
      rfl
    | false =>
      have st : stepOf [a] = none := by
        show (if (a == "fence") = true then some Stp.fence else none) = none
        rw [q]
        rfl
      have cf := cf.trans (congrArg Res.ok (show isF [_] = _ from q))
      have iw := in_words a
      have c2 : (bOr (bOf (eOp (dIn true) (eOp dIx (eVar 1) (eC (.int 0))) (eArgs dTup (aCons (eC (.str "put")) (aCons (eC (.str "get")) aNil))))) (bOf (eOp dNe (eArgs (d1 dLen1) (aCons (eVar 1) aNil)) (eOp dSub (eC (.int 3)) (eArgs (d1 dIntOf) (aCons (eOp dEq (eOp dIx (eVar 1) (eC (.int 0))) (eC (.str "get"))) aNil)))))) [.p (.str x), .p (.list ([a].map PyData.str)), .no, .no] = .ok true := by
        have g := dEq_str (hW a List.mem_cons_self).ok so_get
        cases z : (!((("put" : Str) == a) || (("get" : Str) == a))) <;> rw [z] at iw
        · cases y : (a == "get") <;> rw [y] at g <;> simp [fnP, fnO, ins, retP, retO, sSeq, sIf, sAsg, sRet, sRetO, sSkip, sRetN, sRaise, sDrop, rOut, eOp, eUn, eVar, eC, rget, eArgs, aNil, aCons, eAnd, eOr, eNot, bOf, bNot, bAnd, bOr, bTru, dTru, bYes, eIf, eCall0, eCall, eChain, eSl, oNone, oSome, dSl, dAdd, dSub, dMod, dDiv, dNeg, dLt, dLtU, dLe, dGt, dGe, dIs, dIx, dIxI, d1, dLen1, dTup, dLst, dListOf, dListW, dTupOf, dIntOf, dIsi, isScr, tyName, scrOf, pName, pTup, psCons, psNil, Res.bind, noExc, ofOpt, patOut, loopOut, wipeR, lcTurn, eNL, noList, noListAll, eFlat, flatL, wSeq, wRange1, wRange2, wEnum, wRev, at0, bigv, iw, g, dNe_int]
        · simp [fnP, fnO, ins, retP, retO, sSeq, sIf, sAsg, sRet, sRetO, sSkip, sRetN, sRaise, sDrop, rOut, eOp, eUn, eVar, eC, rget, eArgs, aNil, aCons, eAnd, eOr, eNot, bOf, bNot, bAnd, bOr, bTru, dTru, bYes, eIf, eCall0, eCall, eChain, eSl, oNone, oSome, dSl, dAdd, dSub, dMod, dDiv, dNeg, dLt, dLtU, dLe, dGt, dGe, dIs, dIx, dIxI, d1, dLen1, dTup, dLst, dListOf, dListW, dTupOf, dIntOf, dIsi, isScr, tyName, scrOf, pName, pTup, psCons, psNil, Res.bind, noExc, ofOpt, patOut, loopOut, wipeR, lcTurn, eNL, noList, noListAll, eFlat, flatL, wSeq, wRange1, wRange2, wEnum, wRev, at0, bigv, iw]
      rw [sSeq_nx (sIf_skip cf), sIf_retC c2, st]
      rfl
  | [a, b], _ =>
    have iw := in_words a
    have g := dEq_str (hW a List.mem_cons_self).ok so_get
    rw [sSeq_nx (sIf_skip cf)]
    by_cases q : a = "get"
    · subst q
      have gg : (("get" : Str) == "get") = true := beq_self_eq_true _
      rw [gg] at g
      have iw' : dIn true (.str "get") (.tuple [.str "put", .str "get"]) = .ok (.bool false) := by rw [iw, ne_pgS, gg]; rfl
      have c2 : (bOr (bOf (eOp (dIn true) (eOp dIx (eVar 1) (eC (.int 0))) (eArgs dTup (aCons (eC (.str "put")) (aCons (eC (.str "get")) aNil))))) (bOf (eOp dNe (eArgs (d1 dLen1) (aCons (eVar 1) aNil)) (eOp dSub (eC (.int 3)) (eArgs (d1 dIntOf) (aCons (eOp dEq (eOp dIx (eVar 1) (eC (.int 0))) (eC (.str "get"))) aNil)))))) [.p (.str x), .p (.list ([("get" : Str), b].map PyData.str)), .no, .no] = .ok false := by
        simp [fnP, fnO, ins, retP, retO, sSeq, sIf, sAsg, sRet, sRetO, sSkip, sRetN, sRaise, sDrop, rOut, eOp, eUn, eVar, eC, rget, eArgs, aNil, aCons, eAnd, eOr, eNot, bOf, bNot, bAnd, bOr, bTru, dTru, bYes, eIf, eCall0, eCall, eChain, eSl, oNone, oSome, dSl, dAdd, dSub, dMod, dDiv, dNeg, dLt, dLtU, dLe, dGt, dGe, dIs, dIx, dIxI, d1, dLen1, dTup, dLst, dListOf, dListW, dTupOf, dIntOf, dIsi, isScr, tyName, scrOf, pName, pTup, psCons, psNil, Res.bind, noExc, ofOpt, patOut, loopOut, wipeR, lcTurn, eNL, noList, noListAll, eFlat, flatL, wSeq, wRange1, wRange2, wEnum, wRev, at0, bigv, iw', g, dNe_int]
      have st : stepOf ["get", b] = (boxOf (nOf (tl b))).map Stp.get := by
        show (if (("get" : Str) == "get") = true then (boxOf (nOf (tl b))).map Stp.get else none) = _
        rw [gg, if_pos rfl]
      have n3 := sAsg_nm (i := 2) e3
      have ni := none_in [nOf (tl b)]
      rw [sSeq_nx (sIf_skip c2), sSeq_nx n3, st]
      show noExc (retP (sSeq _ _ [.p (.str x), .p (.list ([("get" : Str), b].map PyData.str)), .p (.list ([nOf (tl b)].map oI)), .no])) = _
      cases z : nOf (tl b) with
      | none =>
        rw [z] at ni
        have ni' : dIn false .none (.list [.none]) = .ok (.bool true) := ni
        rw [sIf_retC (by simp [fnP, fnO, ins, retP, retO, sSeq, sIf, sAsg, sRet, sRetO, sSkip, sRetN, sRaise, sDrop, rOut, eOp, eUn, eVar, eC, rget, eArgs, aNil, aCons, eAnd, eOr, eNot, bOf, bNot, bAnd, bOr, bTru, dTru, bYes, eIf, eCall0, eCall, eChain, eSl, oNone, oSome, dSl, dAdd, dSub, dMod, dDiv, dNeg, dLt, dLtU, dLe, dGt, dGe, dIs, dIx, dIxI, d1, dLen1, dTup, dLst, dListOf, dListW, dTupOf, dIntOf, dIsi, isScr, tyName, scrOf, pName, pTup, psCons, psNil, Res.bind, noExc, ofOpt, patOut, loopOut, wipeR, lcTurn, eNL, noList, noListAll, eFlat, flatL, wSeq, wRange1, wRange2, wEnum, wRev, oI, ni'])]
        rfl
      | some n =>
        rw [z] at ni
        have ni' : dIn false .none (.list [.int n]) = .ok (.bool false) := ni
        by_cases hn : 0 ≤ n ∧ n < 4
        · have h3' : n ≤ 3 := by omega
          have bx : boxOf (some n) = some n.toNat := if_pos hn
          rw [bx, sSeq_nx (sIf_skip (by simp [fnP, fnO, ins, retP, retO, sSeq, sIf, sAsg, sRet, sRetO, sSkip, sRetN, sRaise, sDrop, rOut, eOp, eUn, eVar, eC, rget, eArgs, aNil, aCons, eAnd, eOr, eNot, bOf, bNot, bAnd, bOr, bTru, dTru, bYes, eIf, eCall0, eCall, eChain, eSl, oNone, oSome, dSl, dAdd, dSub, dMod, dDiv, dNeg, dLt, dLtU, dLe, dGt, dGe, dIs, dIx, dIxI, d1, dLen1, dTup, dLst, dListOf, dListW, dTupOf, dIntOf, dIsi, isScr, tyName, scrOf, pName, pTup, psCons, psNil, Res.bind, noExc, ofOpt, patOut, loopOut, wipeR, lcTurn, eNL, noList, noListAll, eFlat, flatL, wSeq, wRange1, wRange2, wEnum, wRev, oI, ni', at0, hn.1, h3']))]
          have e : n = ((n.toNat : Nat) : Int) := by omega
          rw [sRet_ok (d := .tuple [.str "get", .int n]) (by simp [fnP, fnO, ins, retP, retO, sSeq, sIf, sAsg, sRet, sRetO, sSkip, sRetN, sRaise, sDrop, rOut, eOp, eUn, eVar, eC, rget, eArgs, aNil, aCons, eAnd, eOr, eNot, bOf, bNot, bAnd, bOr, bTru, dTru, bYes, eIf, eCall0, eCall, eChain, eSl, oNone, oSome, dSl, dAdd, dSub, dMod, dDiv, dNeg, dLt, dLtU, dLe, dGt, dGe, dIs, dIx, dIxI, d1, dLen1, dTup, dLst, dListOf, dListW, dTupOf, dIntOf, dIsi, isScr, tyName, scrOf, pName, pTup, psCons, psNil, Res.bind, noExc, ofOpt, patOut, loopOut, wipeR, lcTurn, eNL, noList, noListAll, eFlat, flatL, wSeq, wRange1, wRange2, wEnum, wRev, oI, at0, bigv])]
          show Res.ok (PyData.tuple [.str "get", .int n]) = Res.ok (PyData.tuple [.str "get", .int (n.toNat : Nat)])
          rw [← e]
        · have bx : boxOf (some n) = none := if_neg hn
          rw [bx, sIf_retC (by
            by_cases h0 : 0 ≤ n
            · have h3' : ¬ (n ≤ 3) := by omega
              simp [fnP, fnO, ins, retP, retO, sSeq, sIf, sAsg, sRet, sRetO, sSkip, sRetN, sRaise, sDrop, rOut, eOp, eUn, eVar, eC, rget, eArgs, aNil, aCons, eAnd, eOr, eNot, bOf, bNot, bAnd, bOr, bTru, dTru, bYes, eIf, eCall0, eCall, eChain, eSl, oNone, oSome, dSl, dAdd, dSub, dMod, dDiv, dNeg, dLt, dLtU, dLe, dGt, dGe, dIs, dIx, dIxI, d1, dLen1, dTup, dLst, dListOf, dListW, dTupOf, dIntOf, dIsi, isScr, tyName, scrOf, pName, pTup, psCons, psNil, Res.bind, noExc, ofOpt, patOut, loopOut, wipeR, lcTurn, eNL, noList, noListAll, eFlat, flatL, wSeq, wRange1, wRange2, wEnum, wRev, oI, ni', at0, h0, h3']
            · simp [fnP, fnO, ins, retP, retO, sSeq, sIf, sAsg, sRet, sRetO, sSkip, sRetN, sRaise, sDrop, rOut, eOp, eUn, eVar, eC, rget, eArgs, aNil, aCons, eAnd, eOr, eNot, bOf, bNot, bAnd, bOr, bTru, dTru, bYes, eIf, eCall0, eCall, eChain, eSl, oNone, oSome, dSl, dAdd, dSub, dMod, dDiv, dNeg, dLt, dLtU, dLe, dGt, dGe, dIs, dIx, dIxI, d1, dLen1, dTup, dLst, dListOf, dListW, dTupOf, dIntOf, dIsi, isScr, tyName, scrOf, pName, pTup, psCons, psNil, Res.bind, noExc, ofOpt, patOut, loopOut, wipeR, lcTurn, eNL, noList, noListAll, eFlat, flatL, wSeq, wRange1, wRange2, wEnum, wRev, oI, ni', at0, h0])]
          rfl
    · have q' : (a == "get") = false := by simp [q]
      have qc : (("get" : Str) == a) = false := by rw [comm_eq]; exact q'
      rw [q'] at g
      rw [qc, Bool.or_false] at iw
      have st : stepOf [a, b] = none := by
        show (if (a == "get") = true then (boxOf (nOf (tl b))).map Stp.get else none) = _
        rw [q']
        rfl
      rw [st, sIf_retC (by
        cases z : (("put" : Str) == a) <;> rw [z] at iw <;> simp [fnP, fnO, ins, retP, retO, sSeq, sIf, sAsg, sRet, sRetO, sSkip, sRetN, sRaise, sDrop, rOut, eOp, eUn, eVar, eC, rget, eArgs, aNil, aCons, eAnd, eOr, eNot, bOf, bNot, bAnd, bOr, bTru, dTru, bYes, eIf, eCall0, eCall, eChain, eSl, oNone, oSome, dSl, dAdd, dSub, dMod, dDiv, dNeg, dLt, dLtU, dLe, dGt, dGe, dIs, dIx, dIxI, d1, dLen1, dTup, dLst, dListOf, dListW, dTupOf, dIntOf, dIsi, isScr, tyName, scrOf, pName, pTup, psCons, psNil, Res.bind, noExc, ofOpt, patOut, loopOut, wipeR, lcTurn, eNL, noList, noListAll, eFlat, flatL, wSeq, wRange1, wRange2, wEnum, wRev, at0, bigv, iw, g, dNe_int])]
      rfl
  | [a, b, c], _ =>
    have iw := in_words a
    have g := dEq_str (hW a List.mem_cons_self).ok so_get
    rw [sSeq_nx (sIf_skip cf)]
    by_cases q : a = "put"
    · subst q
      have gg : (("put" : Str) == "put") = true := beq_self_eq_true _
      have g0 : (("put" : Str) == "get") = false := ne_pg
      rw [g0] at g
      have iw' : dIn true (.str "put") (.tuple [.str "put", .str "get"]) = .ok (.bool false) := by rw [iw, gg]; rfl
      have c2 : (bOr (bOf (eOp (dIn true) (eOp dIx (eVar 1) (eC (.int 0))) (eArgs dTup (aCons (eC (.str "put")) (aCons (eC (.str "get")) aNil))))) (bOf (eOp dNe (eArgs (d1 dLen1) (aCons (eVar 1) aNil)) (eOp dSub (eC (.int 3)) (eArgs (d1 dIntOf) (aCons (eOp dEq (eOp dIx (eVar 1) (eC (.int 0))) (eC (.str "get"))) aNil)))))) [.p (.str x), .p (.list ([("put" : Str), b, c].map PyData.str)), .no, .no] = .ok false := by
        simp [fnP, fnO, ins, retP, retO, sSeq, sIf, sAsg, sRet, sRetO, sSkip, sRetN, sRaise, sDrop, rOut, eOp, eUn, eVar, eC, rget, eArgs, aNil, aCons, eAnd, eOr, eNot, bOf, bNot, bAnd, bOr, bTru, dTru, bYes, eIf, eCall0, eCall, eChain, eSl, oNone, oSome, dSl, dAdd, dSub, dMod, dDiv, dNeg, dLt, dLtU, dLe, dGt, dGe, dIs, dIx, dIxI, d1, dLen1, dTup, dLst, dListOf, dListW, dTupOf, dIntOf, dIsi, isScr, tyName, scrOf, pName, pTup, psCons, psNil, Res.bind, noExc, ofOpt, patOut, loopOut, wipeR, lcTurn, eNL, noList, noListAll, eFlat, flatL, wSeq, wRange1, wRange2, wEnum, wRev, at0, bigv, iw', g, dNe_int]
      have st : stepOf ["put", b, c] = (match boxOf (nOf (tl b)), nOf (tl c) with | some x, some v => some (Stp.put x v) | _, _ => none) := by
        show (if (("put" : Str) == "put") = true then (match boxOf (nOf (tl b)), nOf (tl c) with | some x, some v => some (Stp.put x v) | _, _ => none) else none) = _
        rw [gg, if_pos rfl]
      have n3 := sAsg_nm (i := 2) e3
      have ni := none_in [nOf (tl b), nOf (tl c)]
      rw [sSeq_nx (sIf_skip c2), sSeq_nx n3, st]
      show noExc (retP (sSeq _ _ [.p (.str x), .p (.list ([("put" : Str), b, c].map PyData.str)), .p (.list ([nOf (tl b), nOf (tl c)].map oI)), .no])) = _
      cases z : nOf (tl b) with
      | none =>
        rw [z] at ni
        have ni' : dIn false .none (.list [.none, oI (nOf (tl c))]) = .ok (.bool true) := ni
        rw [sIf_retC (by simp [fnP, fnO, ins, retP, retO, sSeq, sIf, sAsg, sRet, sRetO, sSkip, sRetN, sRaise, sDrop, rOut, eOp, eUn, eVar, eC, rget, eArgs, aNil, aCons, eAnd, eOr, eNot, bOf, bNot, bAnd, bOr, bTru, dTru, bYes, eIf, eCall0, eCall, eChain, eSl, oNone, oSome, dSl, dAdd, dSub, dMod, dDiv, dNeg, dLt, dLtU, dLe, dGt, dGe, dIs, dIx, dIxI, d1, dLen1, dTup, dLst, dListOf, dListW, dTupOf, dIntOf, dIsi, isScr, tyName, scrOf, pName, pTup, psCons, psNil, Res.bind, noExc, ofOpt, patOut, loopOut, wipeR, lcTurn, eNL, noList, noListAll, eFlat, flatL, wSeq, wRange1, wRange2, wEnum, wRev, oI] at ni' ⊢; simp [ni'])]
        rfl
      | some n =>
        cases y : nOf (tl c) with
        | none =>
          rw [z, y] at ni
          have ni' : dIn false .none (.list [.int n, .none]) = .ok (.bool true) := ni
          rw [sIf_retC (by simp [fnP, fnO, ins, retP, retO, sSeq, sIf, sAsg, sRet, sRetO, sSkip, sRetN, sRaise, sDrop, rOut, eOp, eUn, eVar, eC, rget, eArgs, aNil, aCons, eAnd, eOr, eNot, bOf, bNot, bAnd, bOr, bTru, dTru, bYes, eIf, eCall0, eCall, eChain, eSl, oNone, oSome, dSl, dAdd, dSub, dMod, dDiv, dNeg, dLt, dLtU, dLe, dGt, dGe, dIs, dIx, dIxI, d1, dLen1, dTup, dLst, dListOf, dListW, dTupOf, dIntOf, dIsi, isScr, tyName, scrOf, pName, pTup, psCons, psNil, Res.bind, noExc, ofOpt, patOut, loopOut, wipeR, lcTurn, eNL, noList, noListAll, eFlat, flatL, wSeq, wRange1, wRange2, wEnum, wRev, oI, ni'])]
          cases boxOf (some n) <;> rfl
        | some v =>
          rw [z, y] at ni
          have ni' : dIn false .none (.list [.int n, .int v]) = .ok (.bool false) := ni
          by_cases hn : 0 ≤ n ∧ n < 4
          · have h3' : n ≤ 3 := by omega
            have bx : boxOf (some n) = some n.toNat := if_pos hn
            rw [bx, sSeq_nx (sIf_skip (by simp [fnP, fnO, ins, retP, retO, sSeq, sIf, sAsg, sRet, sRetO, sSkip, sRetN, sRaise, sDrop, rOut, eOp, eUn, eVar, eC, rget, eArgs, aNil, aCons, eAnd, eOr, eNot, bOf, bNot, bAnd, bOr, bTru, dTru, bYes, eIf, eCall0, eCall, eChain, eSl, oNone, oSome, dSl, dAdd, dSub, dMod, dDiv, dNeg, dLt, dLtU, dLe, dGt, dGe, dIs, dIx, dIxI, d1, dLen1, dTup, dLst, dListOf, dListW, dTupOf, dIntOf, dIsi, isScr, tyName, scrOf, pName, pTup, psCons, psNil, Res.bind, noExc, ofOpt, patOut, loopOut, wipeR, lcTurn, eNL, noList, noListAll, eFlat, flatL, wSeq, wRange1, wRange2, wEnum, wRev, oI, ni', at0, hn.1, h3']))]
            have e : n = ((n.toNat : Nat) : Int) := by omega
            rw [sRet_ok (d := .tuple [.str "put", .int n, .int v]) (by simp [fnP, fnO, ins, retP, retO, sSeq, sIf, sAsg, sRet, sRetO, sSkip, sRetN, sRaise, sDrop, rOut, eOp, eUn, eVar, eC, rget, eArgs, aNil, aCons, eAnd, eOr, eNot, bOf, bNot, bAnd, bOr, bTru, dTru, bYes, eIf, eCall0, eCall, eChain, eSl, oNone, oSome, dSl, dAdd, dSub, dMod, dDiv, dNeg, dLt, dLtU, dLe, dGt, dGe, dIs, dIx, dIxI, d1, dLen1, dTup, dLst, dListOf, dListW, dTupOf, dIntOf, dIsi, isScr, tyName, scrOf, pName, pTup, psCons, psNil, Res.bind, noExc, ofOpt, patOut, loopOut, wipeR, lcTurn, eNL, noList, noListAll, eFlat, flatL, wSeq, wRange1, wRange2, wEnum, wRev, oI, at0, bigv])]
            show Res.ok (PyData.tuple [.str "put", .int n, .int v]) = Res.ok (PyData.tuple [.str "put", .int (n.toNat : Nat), .int v])
            rw [← e]
          · have bx : boxOf (some n) = none := if_neg hn
            rw [bx, sIf_retC (by
              by_cases h0 : 0 ≤ n
              · have h3' : ¬ (n ≤ 3) := by omega
                simp [fnP, fnO, ins, retP, retO, sSeq, sIf, sAsg, sRet, sRetO, sSkip, sRetN, sRaise, sDrop, rOut, eOp, eUn, eVar, eC, rget, eArgs, aNil, aCons, eAnd, eOr, eNot, bOf, bNot, bAnd, bOr, bTru, dTru, bYes, eIf, eCall0, eCall, eChain, eSl, oNone, oSome, dSl, dAdd, dSub, dMod, dDiv, dNeg, dLt, dLtU, dLe, dGt, dGe, dIs, dIx, dIxI, d1, dLen1, dTup, dLst, dListOf, dListW, dTupOf, dIntOf, dIsi, isScr, tyName, scrOf, pName, pTup, psCons, psNil, Res.bind, noExc, ofOpt, patOut, loopOut, wipeR, lcTurn, eNL, noList, noListAll, eFlat, flatL, wSeq, wRange1, wRange2, wEnum, wRev, oI, ni', at0, h0, h3']
              · simp [fnP, fnO, ins, retP, retO, sSeq, sIf, sAsg, sRet, sRetO, sSkip, sRetN, sRaise, sDrop, rOut, eOp, eUn, eVar, eC, rget, eArgs, aNil, aCons, eAnd, eOr, eNot, bOf, bNot, bAnd, bOr, bTru, dTru, bYes, eIf, eCall0, eCall, eChain, eSl, oNone, oSome, dSl, dAdd, dSub, dMod, dDiv, dNeg, dLt, dLtU, dLe, dGt, dGe, dIs, dIx, dIxI, d1, dLen1, dTup, dLst, dListOf, dListW, dTupOf, dIntOf, dIsi, isScr, tyName, scrOf, pName, pTup, psCons, psNil, Res.bind, noExc, ofOpt, patOut, loopOut, wipeR, lcTurn, eNL, noList, noListAll, eFlat, flatL, wSeq, wRange1, wRange2, wEnum, wRev, oI, ni', at0, h0])]
            rfl
    · have q' : (a == "put") = false := by simp [q]
      have qc : (("put" : Str) == a) = false := by rw [comm_eq]; exact q'
      rw [qc, Bool.false_or] at iw
      have st : stepOf [a, b, c] = none := by
        show (if (a == "put") = true then (match boxOf (nOf (tl b)), nOf (tl c) with | some x, some v => some (Stp.put x v) | _, _ => none) else none) = _
        rw [q']
        rfl
      rw [comm_eq] at iw
      rw [st, sIf_retC (by
        cases z : (a == "get") <;> rw [z] at iw g <;> simp [fnP, fnO, ins, retP, retO, sSeq, sIf, sAsg, sRet, sRetO, sSkip, sRetN, sRaise, sDrop, rOut, eOp, eUn, eVar, eC, rget, eArgs, aNil, aCons, eAnd, eOr, eNot, bOf, bNot, bAnd, bOr, bTru, dTru, bYes, eIf, eCall0, eCall, eChain, eSl, oNone, oSome, dSl, dAdd, dSub, dMod, dDiv, dNeg, dLt, dLtU, dLe, dGt, dGe, dIs, dIx, dIxI, d1, dLen1, dTup, dLst, dListOf, dListW, dTupOf, dIntOf, dIsi, isScr, tyName, scrOf, pName, pTup, psCons, psNil, Res.bind, noExc, ofOpt, patOut, loopOut, wipeR, lcTurn, eNL, noList, noListAll, eFlat, flatL, wSeq, wRange1, wRange2, wEnum, wRev, at0, bigv, iw, g, dNe_int])]
      rfl
  | a :: b :: c :: d :: ws, _ =>
    have iw := in_words a
    have g := dEq_str (hW a List.mem_cons_self).ok so_get
    have e1 : ¬ (((ws.length : Int) + 1 + 1 + 1 + 1) = 3) := by omega
    have e2 : ¬ (((ws.length : Int) + 1 + 1 + 1 + 1) = 2) := by omega
    rw [sSeq_nx (sIf_skip cf)]
    have st : stepOf (a :: b :: c :: d :: ws) = none := rfl
    rw [st, sIf_retC (by
      cases z : (!((("put" : Str) == a) || (("get" : Str) == a))) <;> rw [z] at iw
      · cases y : (a == "get") <;> rw [y] at g <;> simp [fnP, fnO, ins, retP, retO, sSeq, sIf, sAsg, sRet, sRetO, sSkip, sRetN, sRaise, sDrop, rOut, eOp, eUn, eVar, eC, rget, eArgs, aNil, aCons, eAnd, eOr, eNot, bOf, bNot, bAnd, bOr, bTru, dTru, bYes, eIf, eCall0, eCall, eChain, eSl, oNone, oSome, dSl, dAdd, dSub, dMod, dDiv, dNeg, dLt, dLtU, dLe, dGt, dGe, dIs, dIx, dIxI, d1, dLen1, dTup, dLst, dListOf, dListW, dTupOf, dIntOf, dIsi, isScr, tyName, scrOf, pName, pTup, psCons, psNil, Res.bind, noExc, ofOpt, patOut, loopOut, wipeR, lcTurn, eNL, noList, noListAll, eFlat, flatL, wSeq, wRange1, wRange2, wEnum, wRev, at0, bigv, iw, g, dNe_int, e1, e2]
      · simp [fnP, fnO, ins, retP, retO, sSeq, sIf, sAsg, sRet, sRetO, sSkip, sRetN, sRaise, sDrop, rOut, eOp, eUn, eVar, eC, rget, eArgs, aNil, aCons, eAnd, eOr, eNot, bOf, bNot, bAnd, bOr, bTru, dTru, bYes, eIf, eCall0, eCall, eChain, eSl, oNone, oSome, dSl, dAdd, dSub, dMod, dDiv, dNeg, dLt, dLtU, dLe, dGt, dGe, dIs, dIx, dIxI, d1, dLen1, dTup, dLst, dListOf, dListW, dTupOf, dIntOf, dIsi, isScr, tyName, scrOf, pName, pTup, psCons, psNil, Res.bind, noExc, ofOpt, patOut, loopOut, wipeR, lcTurn, eNL, noList, noListAll, eFlat, flatL, wSeq, wRange1, wRange2, wEnum, wRev, at0, bigv, iw])]
    rfl
end K12

set_option Elab.async false
set_option linter.all false
set_option maxRecDepth 100000
set_option maxHeartbeats 4000000
namespace K12
open PySem PySem.Spec PyProof.Rows L2 Fw Pg TL
theorem number_by_ok {c : Int} {B : Nat} (h : Bd B c) (hB : 0 < B ∧ B ≤ 2000000) : ∃ n : Int, F__law_number_by [.int c] = .ok (.int n) ∧ -1000000000000000000000000000000 < n ∧ n < 1000000000000000000000000000000 := by
  have m := mul_ok (h.div 5 (by decide)) hB
  by_cases e : c.fmod 5 = 0
  · refine ⟨((c.fdiv 5 * 48271 ^ 7 + 5).fmod (1999999999999999999999999999999 : Nat)) - 999999999999999999999999999999, ?_, ?_⟩
    · have m' : Fw.CMulX (c.fdiv 5) 610666465330867800319356957143791 := m
      have m2 : Fw.CMulX 2 1000000000000000000000000000000 := by
        unfold Fw.CMulX
        decide +kernel
      simp [F__law_number_by, b__law_number_by, fnP, fnO, ins, retP, retO, sSeq, sIf, sAsg, sRet, sRetO, sSkip, sRetN, sRaise, sDrop, rOut, eOp, eUn, eVar, eC, rget, eArgs, aNil, aCons, eAnd, eOr, eNot, bOf, bNot, bAnd, bOr, bTru, dTru, bYes, eIf, eCall0, eCall, eChain, eSl, oNone, oSome, dSl, dAdd, dSub, dMod, dDiv, dNeg, dLt, dLtU, dLe, dGt, dGe, dIs, dIx, dIxI, d1, dLen1, dTup, dLst, dListOf, dListW, dTupOf, dIntOf, dIsi, isScr, tyName, scrOf, pName, pTup, psCons, psNil, Res.bind, noExc, ofOpt, patOut, loopOut, wipeR, lcTurn, eNL, noList, noListAll, eFlat, flatL, wSeq, wRange1, wRange2, wEnum, wRev, dMul, dPow, dEq_int, e, m', m2]
    · have f := fmod_lt (c.fdiv 5 * 48271 ^ 7 + 5) 1999999999999999999999999999999 (by decide)
      omega
  · refine ⟨(c.fdiv 5).fmod (9 : Nat) - 4, ?_, ?_⟩
    · simp [F__law_number_by, b__law_number_by, fnP, fnO, ins, retP, retO, sSeq, sIf, sAsg, sRet, sRetO, sSkip, sRetN, sRaise, sDrop, rOut, eOp, eUn, eVar, eC, rget, eArgs, aNil, aCons, eAnd, eOr, eNot, bOf, bNot, bAnd, bOr, bTru, dTru, bYes, eIf, eCall0, eCall, eChain, eSl, oNone, oSome, dSl, dAdd, dSub, dMod, dDiv, dNeg, dLt, dLtU, dLe, dGt, dGe, dIs, dIx, dIxI, d1, dLen1, dTup, dLst, dListOf, dListW, dTupOf, dIntOf, dIsi, isScr, tyName, scrOf, pName, pTup, psCons, psNil, Res.bind, noExc, ofOpt, patOut, loopOut, wipeR, lcTurn, eNL, noList, noListAll, eFlat, flatL, wSeq, wRange1, wRange2, wEnum, wRev, dEq_int, e]
    · have f := fmod_lt (c.fdiv 5) 9 (by decide)
      omega
theorem step_by_ok : StepBy F__law_step_by := fun c B h hB => by
  obtain ⟨n, e, h1, h2⟩ := number_by_ok (h.div 28 (by decide)) hB
  have f := fmod_lt (c.fdiv 7) 4 (by decide)
  have e' : F__law_number_by [.int (c.fdiv 28)] = .ok (.int n) := e
  obtain ⟨b, hb⟩ : ∃ b : Nat, (c.fdiv 7).fmod 4 = (b : Int) := ⟨((c.fdiv 7).fmod 4).toNat, by
    have : 0 ≤ (c.fdiv 7).fmod 4 := f.1
    omega⟩
  have b4 : b < 4 := by
    have : (c.fdiv 7).fmod 4 < 4 := f.2
    omega
  by_cases k3 : c.fmod 7 < 3
  · refine ⟨.put b n, ⟨b4, h1, h2⟩, ?_⟩
    simp [F__law_step_by, b__law_step_by, fnP, fnO, ins, retP, retO, sSeq, sIf, sAsg, sRet, sRetO, sSkip, sRetN, sRaise, sDrop, rOut, eOp, eUn, eVar, eC, rget, eArgs, aNil, aCons, eAnd, eOr, eNot, bOf, bNot, bAnd, bOr, bTru, dTru, bYes, eIf, eCall0, eCall, eChain, eSl, oNone, oSome, dSl, dAdd, dSub, dMod, dDiv, dNeg, dLt, dLtU, dLe, dGt, dGe, dIs, dIx, dIxI, d1, dLen1, dTup, dLst, dListOf, dListW, dTupOf, dIntOf, dIsi, isScr, tyName, scrOf, pName, pTup, psCons, psNil, Res.bind, noExc, ofOpt, patOut, loopOut, wipeR, lcTurn, eNL, noList, noListAll, eFlat, flatL, wSeq, wRange1, wRange2, wEnum, wRev, eStp, k3, e', hb, bigv]
  · by_cases k6 : c.fmod 7 < 6
    · refine ⟨.get b, b4, ?_⟩
      simp [F__law_step_by, b__law_step_by, fnP, fnO, ins, retP, retO, sSeq, sIf, sAsg, sRet, sRetO, sSkip, sRetN, sRaise, sDrop, rOut, eOp, eUn, eVar, eC, rget, eArgs, aNil, aCons, eAnd, eOr, eNot, bOf, bNot, bAnd, bOr, bTru, dTru, bYes, eIf, eCall0, eCall, eChain, eSl, oNone, oSome, dSl, dAdd, dSub, dMod, dDiv, dNeg, dLt, dLtU, dLe, dGt, dGe, dIs, dIx, dIxI, d1, dLen1, dTup, dLst, dListOf, dListW, dTupOf, dIntOf, dIsi, isScr, tyName, scrOf, pName, pTup, psCons, psNil, Res.bind, noExc, ofOpt, patOut, loopOut, wipeR, lcTurn, eNL, noList, noListAll, eFlat, flatL, wSeq, wRange1, wRange2, wEnum, wRev, eStp, k3, k6, hb, bigv]
    · refine ⟨.fence, trivial, ?_⟩
      simp [F__law_step_by, b__law_step_by, fnP, fnO, ins, retP, retO, sSeq, sIf, sAsg, sRet, sRetO, sSkip, sRetN, sRaise, sDrop, rOut, eOp, eUn, eVar, eC, rget, eArgs, aNil, aCons, eAnd, eOr, eNot, bOf, bNot, bAnd, bOr, bTru, dTru, bYes, eIf, eCall0, eCall, eChain, eSl, oNone, oSome, dSl, dAdd, dSub, dMod, dDiv, dNeg, dLt, dLtU, dLe, dGt, dGe, dIs, dIx, dIxI, d1, dLen1, dTup, dLst, dListOf, dListW, dTupOf, dIntOf, dIsi, isScr, tyName, scrOf, pName, pTup, psCons, psNil, Res.bind, noExc, ofOpt, patOut, loopOut, wipeR, lcTurn, eNL, noList, noListAll, eFlat, flatL, wSeq, wRange1, wRange2, wEnum, wRev, eStp, k3, k6, bigv]
theorem web_by_ok {ns : List Int} {B : Nat} (hb : ∀ z ∈ ns, Builtin.Int.intBits z ≤ B) (hB : B ≤ 1048576) : ∃ w, WebOk w ∧ (w.map List.length).sum ≤ 8 ∧ F__law_web_by [scr ns] = .ok (eWeb w) := by
  obtain ⟨w, m, x, y, hm, I, e⟩ := web_run step_by_ok (dv := 11) (by decide) hb hB
  refine ⟨w, I.web hm (by decide), I.few, ?_⟩
  show noExc (retP (b__law_web_by [.p (scr ns), .no, .no, .no, .no])) = _
  refine Eq.trans (congrArg (fun o => noExc (retP o)) (e (sFrz 2 (sRet (eVar 2))))) rfl
/-! ### the web, read by the law -/
def lawRow (x : Str) : D := .list ((parts x).map fun p => oS (stepOf (wordsOf1 p)))
theorem row1_ok {x : Str} (h : Small x) (t : D) (rs : List D) (a3 a4 a5 a6 : Sl) (hl : rs.length < 16000000) : L1__law_due [.p t, .o none false (.list rs), .p (.str x), a3, a4, a5, a6] = .nx [.p t, .o none false (.list (rs ++ [lawRow x])), .p (.str x), a3, a4, a5, a6] := by
  have q := dNe_str h.fine.ok so_e
  have ds := dSplit_ok (x := x) ln_s (by have := h.len; omega)
  obtain ⟨p1, p2⟩ := parts_ok h
  have v : eIf (bOf (eOp dNe (eVar 2) (eC (.str "")))) C1__law_due (eArgs dLst aNil) [.p t, .o none false (.list rs), .p (.str x), a3, a4, a5, a6] = .ok (lawRow x) := by
    have c : bOf (eOp dNe (eVar 2) (eC (.str ""))) [.p t, .o none false (.list rs), .p (.str x), a3, a4, a5, a6] = .ok (!(x == "")) := by
      unfold bOf
      rw [(eOp_ok rfl rfl).trans q]
      rfl
    cases e : x == "" with
    | true =>
      rw [e] at c
      have pe : parts x = [] := if_pos e
      rw [eIf_f c]
      unfold lawRow
      rw [pe]
      simp [fnP, fnO, ins, retP, retO, sSeq, sIf, sAsg, sRet, sRetO, sSkip, sRetN, sRaise, sDrop, rOut, eOp, eUn, eVar, eC, rget, eArgs, aNil, aCons, eAnd, eOr, eNot, bOf, bNot, bAnd, bOr, bTru, dTru, bYes, eIf, eCall0, eCall, eChain, eSl, oNone, oSome, dSl, dAdd, dSub, dMod, dDiv, dNeg, dLt, dLtU, dLe, dGt, dGe, dIs, dIx, dIxI, d1, dLen1, dTup, dLst, dListOf, dListW, dTupOf, dIntOf, dIsi, isScr, tyName, scrOf, pName, pTup, psCons, psNil, Res.bind, noExc, ofOpt, patOut, loopOut, wipeR, lcTurn, eNL, noList, noListAll, eFlat, flatL, wSeq, wRange1, wRange2, wEnum, wRev, bigv]
    | false =>
      rw [e] at c
      have pe : parts x = Txt.split x "; " := if_neg (by rw [e]; decide)
      rw [eIf_t c]
      unfold lawRow
      rw [pe] at p1 p2 ⊢
      exact eLc_enc (f := PyData.str) (by simp [eM1, fnP, fnO, ins, retP, retO, sSeq, sIf, sAsg, sRet, sRetO, sSkip, sRetN, sRaise, sDrop, rOut, eOp, eUn, eVar, eC, rget, eArgs, aNil, aCons, eAnd, eOr, eNot, bOf, bNot, bAnd, bOr, bTru, dTru, bYes, eIf, eCall0, eCall, eChain, eSl, oNone, oSome, dSl, dAdd, dSub, dMod, dDiv, dNeg, dLt, dLtU, dLe, dGt, dGe, dIs, dIx, dIxI, d1, dLen1, dTup, dLst, dListOf, dListW, dTupOf, dIntOf, dIsi, isScr, tyName, scrOf, pName, pTup, psCons, psNil, Res.bind, noExc, ofOpt, patOut, loopOut, wipeR, lcTurn, eNL, noList, noListAll, eFlat, flatL, wSeq, wRange1, wRange2, wEnum, wRev, ds]) (fun p hp => by simp [fnP, fnO, ins, retP, retO, sSeq, sIf, sAsg, sRet, sRetO, sSkip, sRetN, sRaise, sDrop, rOut, eOp, eUn, eVar, eC, rget, eArgs, aNil, aCons, eAnd, eOr, eNot, bOf, bNot, bAnd, bOr, bTru, dTru, bYes, eIf, eCall0, eCall, eChain, eSl, oNone, oSome, dSl, dAdd, dSub, dMod, dDiv, dNeg, dLt, dLtU, dLe, dGt, dGe, dIs, dIx, dIxI, d1, dLen1, dTup, dLst, dListOf, dListW, dTupOf, dIntOf, dIsi, isScr, tyName, scrOf, pName, pTup, psCons, psNil, Res.bind, noExc, ofOpt, patOut, loopOut, wipeR, lcTurn, eNL, noList, noListAll, eFlat, flatL, wSeq, wRange1, wRange2, wEnum, wRev, law_step_ok (p1 p hp), wordsOf1]) (by rw [bigv]; omega)
  unfold L1__law_due sApp
  show (rOut (.ok ⟨false, .list rs, _⟩) _ fun p => sAppK p false _ _) = _
  show sAppK ⟨false, .list rs, fun d' => [.p t, .o none false d', .p (.str x), a3, a4, a5, a6]⟩ false _ _ = _
  rw [v]
  show (if false = false then (if rs.length < big then Out.nx _ else .bad) else .bad) = _
  rw [if_pos rfl, if_pos (show rs.length < big by rw [bigv]; exact hl)]
theorem rows1_go (t : D) (a3 a4 a5 a6 : Sl) : ∀ (l : List Str) (rs : List D) (x : Sl), (∀ p ∈ l, Small p) → rs.length + l.length ≤ 10000 → ∃ x', forGo (pName 2) L1__law_due (l.map PyData.str) [.p t, .o none false (.list rs), x, a3, a4, a5, a6] = .nx [.p t, .o none false (.list (rs ++ l.map lawRow)), x', a3, a4, a5, a6]
  | [], rs, x, _, _ => ⟨x, by simp [forGo]⟩
  | p :: l, rs, x, h, hl => by
    have hl' : rs.length + (l.length + 1) ≤ 10000 := hl
    obtain ⟨x', e⟩ := rows1_go t a3 a4 a5 a6 l (rs ++ [lawRow p]) (.p (.str p)) (fun q hq => h q (List.mem_cons_of_mem _ hq)) (by rw [List.length_append, List.length_singleton]; omega)
    refine ⟨x', Eq.trans (congrArg (fun o => loopOut o (forGo (pName 2) L1__law_due (l.map PyData.str))) (row1_ok (h p List.mem_cons_self) t rs a3 a4 a5 a6 (by omega))) (e.trans ?_)⟩
    rw [List.append_assoc]
    rfl
theorem sh_oS (o : Option Stp) : Sh 1 (oS o) := by
  cases o with
  | none => exact .none
  | some s => exact sh_stp s
theorem sh_lawRow (x : Str) : Sh 2 (lawRow x) := .list (n := 1) fun d hd => by
  obtain ⟨p, _, rfl⟩ := List.mem_map.mp hd
  exact sh_oS _
theorem none_row (x : Str) : dIn false .none (lawRow x) = .ok (.bool (!validR x)) := by
  have s0 : SeqAt.shaped .none = true := (Sh.none (n := 0)).ok (by decide)
  unfold lawRow
  show (if SeqAt.shaped .none = true ∧ SeqAt.shaped (lawRow x) = true then Res.ok (PyData.bool (if false then !(((parts x).map fun p => oS (stepOf (wordsOf1 p))).any fun z => PyData.eqv z .none) else ((parts x).map fun p => oS (stepOf (wordsOf1 p))).any fun z => PyData.eqv z .none)) else .bad) = _
  rw [if_pos ⟨s0, (sh_lawRow x).ok (by decide)⟩]
  congr 2
  show (((parts x).map fun p => oS (stepOf (wordsOf1 p))).any fun z => PyData.eqv z .none) = !validR x
  unfold validR
  induction parts x with
  | nil => rfl
  | cons p l ih =>
    rw [List.map_cons, List.any_cons, ih, List.all_cons, Bool.not_and]
    congr 1
    cases h : stepOf (wordsOf1 p) with
    | none => simp [oS, PyData.eqv]
    | some s => cases s <;> simp [oS, eStp, PyData.eqv]
theorem lawRow_eq {x : Str} (hv : validR x = true) : lawRow x = eRow (stepsV x) := by
  have a := List.all_eq_true.mp hv
  unfold lawRow eRow stepsV
  rw [filterMap_all (fun p => stepOf (wordsOf1 p)) eStp (fun p => oS (stepOf (wordsOf1 p))) (parts x) fun p hp => by
    obtain ⟨s, e⟩ := Option.isSome_iff_exists.mp (a p hp)
    exact ⟨s, e, by rw [e]; rfl⟩]
theorem ne_fen (s : Stp) : dNe (eStp s) (.tuple [.str "fence"]) = .ok (.bool (deed s)) := by
  have h : Sh 1 (.tuple [.str "fence"]) := sh_stp .fence
  rw [dNe_sh (sh_stp s) h (by decide)]
  cases s <;> simp [eStp, deed, PyData.eqv, PyData.eqvAll]
theorem c3_ok (r : List Stp) (hl : r.length ≤ 1000) (a0 a1 a2 a3 a5 a6 : Sl) : eArgs (d1 dLen1) (aCons C3__law_due aNil) [a0, a1, a2, a3, .p (eRow r), a5, a6] = .ok (.int (deeds r : Nat)) := by
  have e := eLc_filter (it := wSeq (eVar 4)) (pat := pName 6) (tt := bOf (eOp dNe (eVar 6) (eArgs dTup (aCons (eC (.str "fence")) aNil)))) (elt := eVar 6) (vs := [6]) (ρ := [a0, a1, a2, a3, .p (eRow r), a5, a6]) (ds := r.map eStp) (p := isDeed) (f := id) (by simp [eRow, fnP, fnO, ins, retP, retO, sSeq, sIf, sAsg, sRet, sRetO, sSkip, sRetN, sRaise, sDrop, rOut, eOp, eUn, eVar, eC, rget, eArgs, aNil, aCons, eAnd, eOr, eNot, bOf, bNot, bAnd, bOr, bTru, dTru, bYes, eIf, eCall0, eCall, eChain, eSl, oNone, oSome, dSl, dAdd, dSub, dMod, dDiv, dNeg, dLt, dLtU, dLe, dGt, dGe, dIs, dIx, dIxI, d1, dLen1, dTup, dLst, dListOf, dListW, dTupOf, dIntOf, dIsi, isScr, tyName, scrOf, pName, pTup, psCons, psNil, Res.bind, noExc, ofOpt, patOut, loopOut, wipeR, lcTurn, eNL, noList, noListAll, eFlat, flatL, wSeq, wRange1, wRange2, wEnum, wRev]) (fun d hd => by
      obtain ⟨s, hs, rfl⟩ := List.mem_map.mp hd
      rw [isDeed_of]
      have e1 := ne_fen s
      simp [lcTurn, pName, wipeR, fnP, fnO, ins, retP, retO, sSeq, sIf, sAsg, sRet, sRetO, sSkip, sRetN, sRaise, sDrop, rOut, eOp, eUn, eVar, eC, rget, eArgs, aNil, aCons, eAnd, eOr, eNot, bOf, bNot, bAnd, bOr, bTru, dTru, bYes, eIf, eCall0, eCall, eChain, eSl, oNone, oSome, dSl, dAdd, dSub, dMod, dDiv, dNeg, dLt, dLtU, dLe, dGt, dGe, dIs, dIx, dIxI, d1, dLen1, dTup, dLst, dListOf, dListW, dTupOf, dIntOf, dIsi, isScr, tyName, scrOf, pName, pTup, psCons, psNil, Res.bind, noExc, ofOpt, patOut, loopOut, wipeR, lcTurn, eNL, noList, noListAll, eFlat, flatL, wSeq, wRange1, wRange2, wEnum, wRev, bigv, e1]
      cases deed s <;> rfl) (by simp [bigv]; omega)
  rw [filter_map eStp isDeed deed isDeed_of, List.map_map] at e
  rw [eArgs1 (show C3__law_due _ = _ from e)]
  simp [d1, dLen1, deeds]
theorem count_go (a0 a1 a2 a5 a6 : Sl) : ∀ (l : Web) (n : Int) (x : Sl), (∀ r ∈ l, r.length ≤ 1000) → ∃ x', forGo (pName 4) L2__law_due (l.map eRow) [a0, a1, a2, .p (.int n), x, a5, a6] = .nx [a0, a1, a2, .p (.int (n + ((l.map deeds).sum : Nat))), x', a5, a6]
  | [], n, x, _ => ⟨x, by simp [forGo]⟩
  | r :: l, n, x, h => by
    obtain ⟨x', e⟩ := count_go a0 a1 a2 a5 a6 l (n + (deeds r : Nat)) (.p (eRow r)) fun q hq => h q (List.mem_cons_of_mem _ hq)
    refine ⟨x', ?_⟩
    have t : L2__law_due [a0, a1, a2, .p (.int n), .p (eRow r), a5, a6] = .nx [a0, a1, a2, .p (.int (n + (deeds r : Nat))), .p (eRow r), a5, a6] := sAsg_nm ((eOp_ok rfl (c3_ok r (h r List.mem_cons_self) a0 a1 a2 (.p (.int n)) a5 a6)).trans rfl)
    refine Eq.trans (congrArg (fun o => loopOut o (forGo (pName 4) L2__law_due (l.map eRow))) t) (e.trans ?_)
    rw [List.map_cons, List.sum_cons]
    have : n + ((deeds r : Nat) : Int) + ((l.map deeds).sum : Nat) = n + ((deeds r + (l.map deeds).sum : Nat) : Int) := by omega
    rw [this]
def oW : Option Web → D
  | none => .none
  | some w => eWeb w
theorem due_ok {t : Str} (h : Small t) : F__law_due [.str t] = .ok (oW (parseW t)) := by
  obtain ⟨r1, r2, r3⟩ := rows_ok h
  have ds := dSplit_ok (x := t) ln_r (by have := h.len; omega)
  have n1 : sAsgO false 1 (eArgs dLst aNil) [.p (.str t), .no, .no, .no, .no, .no, .no] = .nx [.p (.str t), .o none false (.list []), .no, .no, .no, .no, .no] := by simp [sAsgO, fnP, fnO, ins, retP, retO, sSeq, sIf, sAsg, sRet, sRetO, sSkip, sRetN, sRaise, sDrop, rOut, eOp, eUn, eVar, eC, rget, eArgs, aNil, aCons, eAnd, eOr, eNot, bOf, bNot, bAnd, bOr, bTru, dTru, bYes, eIf, eCall0, eCall, eChain, eSl, oNone, oSome, dSl, dAdd, dSub, dMod, dDiv, dNeg, dLt, dLtU, dLe, dGt, dGe, dIs, dIx, dIxI, d1, dLen1, dTup, dLst, dListOf, dListW, dTupOf, dIntOf, dIsi, isScr, tyName, scrOf, pName, pTup, psCons, psNil, Res.bind, noExc, ofOpt, patOut, loopOut, wipeR, lcTurn, eNL, noList, noListAll, eFlat, flatL, wSeq, wRange1, wRange2, wEnum, wRev, bigv]
  obtain ⟨x2, e2⟩ := rows1_go (.str t) .no .no .no .no (rowsOf t) [] .no r1 (by show 0 + _ ≤ _; omega)
  rw [List.nil_append] at e2
  have i2 : wSeq (eM1 dSplit (eVar 0) (eC (.str " | "))) [.p (.str t), .o none false (.list []), .no, .no, .no, .no, .no] = .ok ((rowsOf t).map PyData.str) := by
    simp [eM1, fnP, fnO, ins, retP, retO, sSeq, sIf, sAsg, sRet, sRetO, sSkip, sRetN, sRaise, sDrop, rOut, eOp, eUn, eVar, eC, rget, eArgs, aNil, aCons, eAnd, eOr, eNot, bOf, bNot, bAnd, bOr, bTru, dTru, bYes, eIf, eCall0, eCall, eChain, eSl, oNone, oSome, dSl, dAdd, dSub, dMod, dDiv, dNeg, dLt, dLtU, dLe, dGt, dGe, dIs, dIx, dIxI, d1, dLen1, dTup, dLst, dListOf, dListW, dTupOf, dIntOf, dIsi, isScr, tyName, scrOf, pName, pTup, psCons, psNil, Res.bind, noExc, ofOpt, patOut, loopOut, wipeR, lcTurn, eNL, noList, noListAll, eFlat, flatL, wSeq, wRange1, wRange2, wEnum, wRev, ds, rowsOf]
  have c2 : C2__law_due [.p (.str t), .p (.list ((rowsOf t).map lawRow)), x2, .no, .no, .no, .no] = .ok (.list (((rowsOf t).filter fun x => !validR x).map lawRow)) := by
    have e := eLcF_enc (it := wSeq (eVar 1)) (pat := pName 4) (tt := bOf (eOp (dIn false) (eC .none) (eVar 4))) (elt := eVar 4) (vs := [4]) (ρ := [.p (.str t), .p (.list ((rowsOf t).map lawRow)), x2, .no, .no, .no, .no]) (f := lawRow) (g := fun x => if (!validR x) = true then [lawRow x] else []) (l := rowsOf t) (by simp [fnP, fnO, ins, retP, retO, sSeq, sIf, sAsg, sRet, sRetO, sSkip, sRetN, sRaise, sDrop, rOut, eOp, eUn, eVar, eC, rget, eArgs, aNil, aCons, eAnd, eOr, eNot, bOf, bNot, bAnd, bOr, bTru, dTru, bYes, eIf, eCall0, eCall, eChain, eSl, oNone, oSome, dSl, dAdd, dSub, dMod, dDiv, dNeg, dLt, dLtU, dLe, dGt, dGe, dIs, dIx, dIxI, d1, dLen1, dTup, dLst, dListOf, dListW, dTupOf, dIntOf, dIsi, isScr, tyName, scrOf, pName, pTup, psCons, psNil, Res.bind, noExc, ofOpt, patOut, loopOut, wipeR, lcTurn, eNL, noList, noListAll, eFlat, flatL, wSeq, wRange1, wRange2, wEnum, wRev]) (fun x hx => by
      have nr := none_row x
      cases q : validR x <;> rw [q] at nr <;> simp [fnP, fnO, ins, retP, retO, sSeq, sIf, sAsg, sRet, sRetO, sSkip, sRetN, sRaise, sDrop, rOut, eOp, eUn, eVar, eC, rget, eArgs, aNil, aCons, eAnd, eOr, eNot, bOf, bNot, bAnd, bOr, bTru, dTru, bYes, eIf, eCall0, eCall, eChain, eSl, oNone, oSome, dSl, dAdd, dSub, dMod, dDiv, dNeg, dLt, dLtU, dLe, dGt, dGe, dIs, dIx, dIxI, d1, dLen1, dTup, dLst, dListOf, dListW, dTupOf, dIntOf, dIsi, isScr, tyName, scrOf, pName, pTup, psCons, psNil, Res.bind, noExc, ofOpt, patOut, loopOut, wipeR, lcTurn, eNL, noList, noListAll, eFlat, flatL, wSeq, wRange1, wRange2, wEnum, wRev, nr]) (by
      rw [flat_filter, List.length_map, bigv]
      have := List.length_filter_le (fun x => !validR x) (rowsOf t)
      omega)
    rw [flat_filter] at e
    exact e
  have lv : ((rowsOf t).filter fun x => !validR x).isEmpty = (rowsOf t).all validR := by
    generalize rowsOf t = l
    induction l with
    | nil => rfl
    | cons x l ih =>
      rw [List.all_cons]
      cases q : validR x with
      | true => rw [List.filter_cons_of_neg (by simp [q])]; simpa using ih
      | false => rw [List.filter_cons_of_pos (by simp [q])]; rfl
  have ne : ∀ l : List Str, dNe (.list (l.map lawRow)) (.list []) = .ok (.bool (!l.isEmpty)) := fun l => by
    rw [dNe_sh (n := 3) (show Sh 3 (.list (l.map lawRow)) from .list (n := 2) (sh_mem sh_lawRow)) sh_nil (by decide)]
    cases l <;> simp [PyData.eqv, PyData.eqvAll]
  have b2 : bOf (eOp dNe C2__law_due (eArgs dLst aNil)) [.p (.str t), .p (.list ((rowsOf t).map lawRow)), x2, .no, .no, .no, .no] = .ok (!(rowsOf t).all validR) := by
    unfold bOf
    rw [(eOp_ok c2 (y := .list []) (by simp [fnP, fnO, ins, retP, retO, sSeq, sIf, sAsg, sRet, sRetO, sSkip, sRetN, sRaise, sDrop, rOut, eOp, eUn, eVar, eC, rget, eArgs, aNil, aCons, eAnd, eOr, eNot, bOf, bNot, bAnd, bOr, bTru, dTru, bYes, eIf, eCall0, eCall, eChain, eSl, oNone, oSome, dSl, dAdd, dSub, dMod, dDiv, dNeg, dLt, dLtU, dLe, dGt, dGe, dIs, dIx, dIxI, d1, dLen1, dTup, dLst, dListOf, dListW, dTupOf, dIntOf, dIsi, isScr, tyName, scrOf, pName, pTup, psCons, psNil, Res.bind, noExc, ofOpt, patOut, loopOut, wipeR, lcTurn, eNL, noList, noListAll, eFlat, flatL, wSeq, wRange1, wRange2, wEnum, wRev, bigv])).trans (ne _), lv]
    rfl
  have cnd : (bOr (bOf (eOp dGt (eArgs (d1 dLen1) (aCons (eVar 1) aNil)) (eC (.int 3)))) (bOf (eOp dNe C2__law_due (eArgs dLst aNil)))) [.p (.str t), .p (.list ((rowsOf t).map lawRow)), x2, .no, .no, .no, .no] = .ok (!(decide ((rowsOf t).length ≤ 3) && (rowsOf t).all validR)) := by
    have b1 : bOf (eOp dGt (eArgs (d1 dLen1) (aCons (eVar 1) aNil)) (eC (.int 3))) [.p (.str t), .p (.list ((rowsOf t).map lawRow)), x2, .no, .no, .no, .no] = .ok (!decide ((rowsOf t).length ≤ 3)) := by
      by_cases c : (rowsOf t).length ≤ 3
      · have : ¬ ((3 : Int) < ((rowsOf t).length : Nat)) := by omega
        simp [fnP, fnO, ins, retP, retO, sSeq, sIf, sAsg, sRet, sRetO, sSkip, sRetN, sRaise, sDrop, rOut, eOp, eUn, eVar, eC, rget, eArgs, aNil, aCons, eAnd, eOr, eNot, bOf, bNot, bAnd, bOr, bTru, dTru, bYes, eIf, eCall0, eCall, eChain, eSl, oNone, oSome, dSl, dAdd, dSub, dMod, dDiv, dNeg, dLt, dLtU, dLe, dGt, dGe, dIs, dIx, dIxI, d1, dLen1, dTup, dLst, dListOf, dListW, dTupOf, dIntOf, dIsi, isScr, tyName, scrOf, pName, pTup, psCons, psNil, Res.bind, noExc, ofOpt, patOut, loopOut, wipeR, lcTurn, eNL, noList, noListAll, eFlat, flatL, wSeq, wRange1, wRange2, wEnum, wRev, c, this]
      · have : (3 : Int) < ((rowsOf t).length : Nat) := by omega
        simp [fnP, fnO, ins, retP, retO, sSeq, sIf, sAsg, sRet, sRetO, sSkip, sRetN, sRaise, sDrop, rOut, eOp, eUn, eVar, eC, rget, eArgs, aNil, aCons, eAnd, eOr, eNot, bOf, bNot, bAnd, bOr, bTru, dTru, bYes, eIf, eCall0, eCall, eChain, eSl, oNone, oSome, dSl, dAdd, dSub, dMod, dDiv, dNeg, dLt, dLtU, dLe, dGt, dGe, dIs, dIx, dIxI, d1, dLen1, dTup, dLst, dListOf, dListW, dTupOf, dIntOf, dIsi, isScr, tyName, scrOf, pName, pTup, psCons, psNil, Res.bind, noExc, ofOpt, patOut, loopOut, wipeR, lcTurn, eNL, noList, noListAll, eFlat, flatL, wSeq, wRange1, wRange2, wEnum, wRev, c, this]
    unfold bOr
    rw [b1, b2]
    cases decide ((rowsOf t).length ≤ 3) <;> rfl
  show noExc (retP (b__law_due [.p (.str t), .no, .no, .no, .no, .no, .no])) = _
  unfold b__law_due
  have frz1 : ∀ (f : SF) (o : Out), f [.p (.str t), .p (.list ((rowsOf t).map lawRow)), x2, .no, .no, .no, .no] = o → sFrz 1 f [.p (.str t), .o none false (.list ((rowsOf t).map lawRow)), x2, .no, .no, .no, .no] = o := fun f o h => h
  rw [sSeq_nx n1, sSeq_nx ((sFor_ok i2).trans e2)]
  cases q : decide ((rowsOf t).length ≤ 3) && (rowsOf t).all validR with
  | false =>
    rw [q] at cnd
    have pe : parseW t = none := if_neg fun z => by
      rw [decide_eq_true z.1, z.2.1] at q
      cases q
    rw [pe, sSeq_ret (frz1 _ _ ((sIf_t cnd).trans (sRet_ok rfl)))]
    rfl
  | true =>
    rw [q] at cnd
    have q2 : decide ((rowsOf t).length ≤ 3) = true ∧ (rowsOf t).all validR = true := Bool.and_eq_true _ _ ▸ q
    have a := List.all_eq_true.mp q2.2
    have ew : (rowsOf t).map lawRow = ((rowsOf t).map stepsV).map eRow := by
      rw [List.map_map]
      exact List.map_congr_left fun x hx => lawRow_eq (a x hx)
    rw [sSeq_nx (frz1 _ _ (sIf_skip cnd))]
    rw [sSeq_nx (sAsg_nm (d := .int 0) rfl)]
    obtain ⟨x4, e4⟩ := count_go (.p (.str t)) (.p (eWeb ((rowsOf t).map stepsV))) x2 .no .no ((rowsOf t).map stepsV) 0 .no (fun r hr => by
      obtain ⟨x, hx, rfl⟩ := List.mem_map.mp hr
      have := stepsV_len x (r1 x hx)
      omega)
    have e4' : sFor (wSeq (eVar 1)) (pName 4) L2__law_due [.p (.str t), .p (.list ((rowsOf t).map lawRow)), x2, .p (.int 0), .no, .no, .no] = .nx [.p (.str t), .p (eWeb ((rowsOf t).map stepsV)), x2, .p (.int (0 + ((((rowsOf t).map stepsV).map deeds).sum : Nat))), x4, .no, .no] := by
      rw [ew]
      exact (sFor_ok (ds := ((rowsOf t).map stepsV).map eRow) rfl).trans e4
    show noExc (retP (sSeq _ _ [.p (.str t), .p (.list ((rowsOf t).map lawRow)), x2, .p (.int 0), .no, .no, .no])) = _
    rw [sSeq_nx e4']
    by_cases c3 : (((rowsOf t).map stepsV).map deeds).sum ≤ 8
    · have pe : parseW t = some ((rowsOf t).map stepsV) := if_pos ⟨of_decide_eq_true q2.1, q2.2, c3⟩
      have k : (0 + ((((rowsOf t).map stepsV).map deeds).sum : Nat) : Int) < 9 := by omega
      rw [pe, sRet_ok ((eIf_t (show bOf (eOp dLtU (eVar 3) (eC (.int 9))) _ = .ok true from by
        show Res.ok (decide ((0 + ((((rowsOf t).map stepsV).map deeds).sum : Nat) : Int) < 9)) = _
        rw [decide_eq_true k])).trans rfl)]
      rfl
    · have pe : parseW t = none := if_neg fun z => c3 z.2.2
      have k : ¬ ((0 + ((((rowsOf t).map stepsV).map deeds).sum : Nat) : Int) < 9) := by omega
      rw [pe, sRet_ok ((eIf_f (show bOf (eOp dLtU (eVar 3) (eC (.int 9))) _ = .ok false from by
        show Res.ok (decide ((0 + ((((rowsOf t).map stepsV).map deeds).sum : Nat) : Int) < 9)) = _
        rw [decide_eq_false k])).trans rfl)]
      rfl
/-! ### read, by the law -/
theorem law_read_ok {t : Str} (h : Small t) : F__law_read [.str t] = .ok (oW (parseW t)) := by
  have r := read_ok h
  show noExc (retP (b__law_read [.p (.str t), .no, .no])) = _
  unfold b__law_read sTryG
  cases q : parseW t with
  | some w =>
    rw [q] at r
    rw [sRet_ok (d := eWeb w) (by simp [fnP, fnO, ins, retP, retO, sSeq, sIf, sAsg, sRet, sRetO, sSkip, sRetN, sRaise, sDrop, rOut, eOp, eUn, eVar, eC, rget, eArgs, aNil, aCons, eAnd, eOr, eNot, bOf, bNot, bAnd, bOr, bTru, dTru, bYes, eIf, eCall0, eCall, eChain, eSl, oNone, oSome, dSl, dAdd, dSub, dMod, dDiv, dNeg, dLt, dLtU, dLe, dGt, dGe, dIs, dIx, dIxI, d1, dLen1, dTup, dLst, dListOf, dListW, dTupOf, dIntOf, dIsi, isScr, tyName, scrOf, pName, pTup, psCons, psNil, Res.bind, noExc, ofOpt, patOut, loopOut, wipeR, lcTurn, eNL, noList, noListAll, eFlat, flatL, wSeq, wRange1, wRange2, wEnum, wRev, r])]
    rfl
  | none =>
    rw [q] at r
    have e : sRet (eCall F_read (aCons (eVar 0) aNil)) [.p (.str t), .no, .no] = .exc 4 [.p (.str t), .no, .no] := by simp [fnP, fnO, ins, retP, retO, sSeq, sIf, sAsg, sRet, sRetO, sSkip, sRetN, sRaise, sDrop, rOut, eOp, eUn, eVar, eC, rget, eArgs, aNil, aCons, eAnd, eOr, eNot, bOf, bNot, bAnd, bOr, bTru, dTru, bYes, eIf, eCall0, eCall, eChain, eSl, oNone, oSome, dSl, dAdd, dSub, dMod, dDiv, dNeg, dLt, dLtU, dLe, dGt, dGe, dIs, dIx, dIxI, d1, dLen1, dTup, dLst, dListOf, dListW, dTupOf, dIntOf, dIsi, isScr, tyName, scrOf, pName, pTup, psCons, psNil, Res.bind, noExc, ofOpt, patOut, loopOut, wipeR, lcTurn, eNL, noList, noListAll, eFlat, flatL, wSeq, wRange1, wRange2, wEnum, wRev, r]
    rw [e]
    rfl
theorem law_read_no {d : D} (h : dIsi "str" d = .ok (.bool false)) : F__law_read [d] = .ok .none := by
  have r := read_no h
  have e : sRet (eCall F_read (aCons (eVar 0) aNil)) [.p d, .no, .no] = .exc 4 [.p d, .no, .no] := by simp [fnP, fnO, ins, retP, retO, sSeq, sIf, sAsg, sRet, sRetO, sSkip, sRetN, sRaise, sDrop, rOut, eOp, eUn, eVar, eC, rget, eArgs, aNil, aCons, eAnd, eOr, eNot, bOf, bNot, bAnd, bOr, bTru, dTru, bYes, eIf, eCall0, eCall, eChain, eSl, oNone, oSome, dSl, dAdd, dSub, dMod, dDiv, dNeg, dLt, dLtU, dLe, dGt, dGe, dIs, dIx, dIxI, d1, dLen1, dTup, dLst, dListOf, dListW, dTupOf, dIntOf, dIsi, isScr, tyName, scrOf, pName, pTup, psCons, psNil, Res.bind, noExc, ofOpt, patOut, loopOut, wipeR, lcTurn, eNL, noList, noListAll, eFlat, flatL, wSeq, wRange1, wRange2, wEnum, wRev, r]
  show noExc (retP (b__law_read [.p d, .no, .no])) = _
  unfold b__law_read sTryG
  rw [e]
  rfl
theorem same_step (s : Stp) (a0 a1 a2 a4 : Sl) : L1__law_same [a0, a1, a2, .p (eStp s), a4] = .nx [a0, a1, a2, .p (eStp s), a4] := by
  have nn : dNe (.list []) (.list []) = .ok (.bool false) := by
    rw [dNe_sh (n := 1) sh_nil sh_nil (by decide)]
    rfl
  have c : C1__law_same [a0, a1, a2, .p (eStp s), a4] = .ok (.list []) := by
    cases s with
    | put b n =>
      have t2 : Fw.cutD [PyData.str "put", .int (b : Nat), .int n] (some 1) none = [.int (b : Nat), .int n] := cut_drop [PyData.str "put", .int (b : Nat), .int n] 1 (by simp)
      simp [C1__law_same, eLc, eStp, lcGo, lcTurn, wipeR, fnP, fnO, ins, retP, retO, sSeq, sIf, sAsg, sRet, sRetO, sSkip, sRetN, sRaise, sDrop, rOut, eOp, eUn, eVar, eC, rget, eArgs, aNil, aCons, eAnd, eOr, eNot, bOf, bNot, bAnd, bOr, bTru, dTru, bYes, eIf, eCall0, eCall, eChain, eSl, oNone, oSome, dSl, dAdd, dSub, dMod, dDiv, dNeg, dLt, dLtU, dLe, dGt, dGe, dIs, dIx, dIxI, d1, dLen1, dTup, dLst, dListOf, dListW, dTupOf, dIntOf, dIsi, isScr, tyName, scrOf, pName, pTup, psCons, psNil, Res.bind, noExc, ofOpt, patOut, loopOut, wipeR, lcTurn, eNL, noList, noListAll, eFlat, flatL, wSeq, wRange1, wRange2, wEnum, wRev, kb_NoneType_int, kb_NoneType_bool, kb_NoneType_str, kb_NoneType_list, kb_NoneType_tuple, kb_bool_int, kb_bool_bool, kb_bool_str, kb_bool_list, kb_bool_tuple, kb_int_int, kb_int_bool, kb_int_str, kb_int_list, kb_int_tuple, kb_str_int, kb_str_bool, kb_str_str, kb_str_list, kb_str_tuple, kb_list_int, kb_list_bool, kb_list_str, kb_list_list, kb_list_tuple, kb_tuple_int, kb_tuple_bool, kb_tuple_str, kb_tuple_list, kb_tuple_tuple, kb_dict_int, kb_dict_bool, kb_dict_str, kb_dict_list, kb_dict_tuple, t2, bigv]
    | get b =>
      have t2 : Fw.cutD [PyData.str "get", .int (b : Nat)] (some 1) none = [.int (b : Nat)] := cut_drop [PyData.str "get", .int (b : Nat)] 1 (by simp)
      simp [C1__law_same, eLc, eStp, lcGo, lcTurn, wipeR, fnP, fnO, ins, retP, retO, sSeq, sIf, sAsg, sRet, sRetO, sSkip, sRetN, sRaise, sDrop, rOut, eOp, eUn, eVar, eC, rget, eArgs, aNil, aCons, eAnd, eOr, eNot, bOf, bNot, bAnd, bOr, bTru, dTru, bYes, eIf, eCall0, eCall, eChain, eSl, oNone, oSome, dSl, dAdd, dSub, dMod, dDiv, dNeg, dLt, dLtU, dLe, dGt, dGe, dIs, dIx, dIxI, d1, dLen1, dTup, dLst, dListOf, dListW, dTupOf, dIntOf, dIsi, isScr, tyName, scrOf, pName, pTup, psCons, psNil, Res.bind, noExc, ofOpt, patOut, loopOut, wipeR, lcTurn, eNL, noList, noListAll, eFlat, flatL, wSeq, wRange1, wRange2, wEnum, wRev, kb_NoneType_int, kb_NoneType_bool, kb_NoneType_str, kb_NoneType_list, kb_NoneType_tuple, kb_bool_int, kb_bool_bool, kb_bool_str, kb_bool_list, kb_bool_tuple, kb_int_int, kb_int_bool, kb_int_str, kb_int_list, kb_int_tuple, kb_str_int, kb_str_bool, kb_str_str, kb_str_list, kb_str_tuple, kb_list_int, kb_list_bool, kb_list_str, kb_list_list, kb_list_tuple, kb_tuple_int, kb_tuple_bool, kb_tuple_str, kb_tuple_list, kb_tuple_tuple, kb_dict_int, kb_dict_bool, kb_dict_str, kb_dict_list, kb_dict_tuple, t2, bigv]
    | fence =>
      have t2 : Fw.cutD [PyData.str "fence"] (some 1) none = [] := cut_drop [PyData.str "fence"] 1 (by simp)
      simp [C1__law_same, eLc, eStp, lcGo, lcTurn, wipeR, fnP, fnO, ins, retP, retO, sSeq, sIf, sAsg, sRet, sRetO, sSkip, sRetN, sRaise, sDrop, rOut, eOp, eUn, eVar, eC, rget, eArgs, aNil, aCons, eAnd, eOr, eNot, bOf, bNot, bAnd, bOr, bTru, dTru, bYes, eIf, eCall0, eCall, eChain, eSl, oNone, oSome, dSl, dAdd, dSub, dMod, dDiv, dNeg, dLt, dLtU, dLe, dGt, dGe, dIs, dIx, dIxI, d1, dLen1, dTup, dLst, dListOf, dListW, dTupOf, dIntOf, dIsi, isScr, tyName, scrOf, pName, pTup, psCons, psNil, Res.bind, noExc, ofOpt, patOut, loopOut, wipeR, lcTurn, eNL, noList, noListAll, eFlat, flatL, wSeq, wRange1, wRange2, wEnum, wRev, kb_NoneType_int, kb_NoneType_bool, kb_NoneType_str, kb_NoneType_list, kb_NoneType_tuple, kb_bool_int, kb_bool_bool, kb_bool_str, kb_bool_list, kb_bool_tuple, kb_int_int, kb_int_bool, kb_int_str, kb_int_list, kb_int_tuple, kb_str_int, kb_str_bool, kb_str_str, kb_str_list, kb_str_tuple, kb_list_int, kb_list_bool, kb_list_str, kb_list_list, kb_list_tuple, kb_tuple_int, kb_tuple_bool, kb_tuple_str, kb_tuple_list, kb_tuple_tuple, kb_dict_int, kb_dict_bool, kb_dict_str, kb_dict_list, kb_dict_tuple, t2, bigv]
  have i : dIsi "tuple" (eStp s) = .ok (.bool true) := by cases s <;> simp [eStp, fnP, fnO, ins, retP, retO, sSeq, sIf, sAsg, sRet, sRetO, sSkip, sRetN, sRaise, sDrop, rOut, eOp, eUn, eVar, eC, rget, eArgs, aNil, aCons, eAnd, eOr, eNot, bOf, bNot, bAnd, bOr, bTru, dTru, bYes, eIf, eCall0, eCall, eChain, eSl, oNone, oSome, dSl, dAdd, dSub, dMod, dDiv, dNeg, dLt, dLtU, dLe, dGt, dGe, dIs, dIx, dIxI, d1, dLen1, dTup, dLst, dListOf, dListW, dTupOf, dIntOf, dIsi, isScr, tyName, scrOf, pName, pTup, psCons, psNil, Res.bind, noExc, ofOpt, patOut, loopOut, wipeR, lcTurn, eNL, noList, noListAll, eFlat, flatL, wSeq, wRange1, wRange2, wEnum, wRev, kb_NoneType_int, kb_NoneType_bool, kb_NoneType_str, kb_NoneType_list, kb_NoneType_tuple, kb_bool_int, kb_bool_bool, kb_bool_str, kb_bool_list, kb_bool_tuple, kb_int_int, kb_int_bool, kb_int_str, kb_int_list, kb_int_tuple, kb_str_int, kb_str_bool, kb_str_str, kb_str_list, kb_str_tuple, kb_list_int, kb_list_bool, kb_list_str, kb_list_list, kb_list_tuple, kb_tuple_int, kb_tuple_bool, kb_tuple_str, kb_tuple_list, kb_tuple_tuple, kb_dict_int, kb_dict_bool, kb_dict_str, kb_dict_list, kb_dict_tuple]
  refine sIf_skip ?_
  unfold bOr
  rw [show bNot (bTru (eUn (dIsi "tuple") (eVar 3))) [a0, a1, a2, .p (eStp s), a4] = .ok false by simp [bNot, bTru, eUn, eVar, rget, Res.bind, i, dTru]]
  show bOf _ _ = _
  unfold bOf
  rw [(eOp_ok c (y := .list []) (by simp [fnP, fnO, ins, retP, retO, sSeq, sIf, sAsg, sRet, sRetO, sSkip, sRetN, sRaise, sDrop, rOut, eOp, eUn, eVar, eC, rget, eArgs, aNil, aCons, eAnd, eOr, eNot, bOf, bNot, bAnd, bOr, bTru, dTru, bYes, eIf, eCall0, eCall, eChain, eSl, oNone, oSome, dSl, dAdd, dSub, dMod, dDiv, dNeg, dLt, dLtU, dLe, dGt, dGe, dIs, dIx, dIxI, d1, dLen1, dTup, dLst, dListOf, dListW, dTupOf, dIntOf, dIsi, isScr, tyName, scrOf, pName, pTup, psCons, psNil, Res.bind, noExc, ofOpt, patOut, loopOut, wipeR, lcTurn, eNL, noList, noListAll, eFlat, flatL, wSeq, wRange1, wRange2, wEnum, wRev, bigv])).trans nn]
  rfl
theorem same_row (a0 a1 a2 : Sl) : ∀ (r : List Stp) (x a4 : Sl), ∃ x', forGo (pName 3) L1__law_same (r.map eStp) [a0, a1, a2, x, a4] = .nx [a0, a1, a2, x', a4]
  | [], x, a4 => ⟨x, rfl⟩
  | s :: r, x, a4 => by
    obtain ⟨x', e⟩ := same_row a0 a1 a2 r (.p (eStp s)) a4
    exact ⟨x', Eq.trans (congrArg (fun o => loopOut o (forGo (pName 3) L1__law_same (r.map eStp))) (same_step s a0 a1 a2 a4)) e⟩
theorem same_rows (a0 a1 : Sl) : ∀ (w : Web) (x y a4 : Sl), ∃ x' y', forGo (pName 2) L2__law_same (w.map eRow) [a0, a1, x, y, a4] = .nx [a0, a1, x', y', a4]
  | [], x, y, a4 => ⟨x, y, rfl⟩
  | r :: w, x, y, a4 => by
    obtain ⟨y1, e1⟩ := same_row a0 a1 (.p (eRow r)) r y a4
    obtain ⟨x', y', e⟩ := same_rows a0 a1 w (.p (eRow r)) y1 a4
    refine ⟨x', y', Eq.trans (congrArg (fun o => loopOut o (forGo (pName 2) L2__law_same (w.map eRow))) (?_ : L2__law_same [a0, a1, .p (eRow r), y, a4] = .nx [a0, a1, .p (eRow r), y1, a4])) e⟩
    unfold L2__law_same
    rw [sSeq_nx (sIf_skip (by simp [fnP, fnO, ins, retP, retO, sSeq, sIf, sAsg, sRet, sRetO, sSkip, sRetN, sRaise, sDrop, rOut, eOp, eUn, eVar, eC, rget, eArgs, aNil, aCons, eAnd, eOr, eNot, bOf, bNot, bAnd, bOr, bTru, dTru, bYes, eIf, eCall0, eCall, eChain, eSl, oNone, oSome, dSl, dAdd, dSub, dMod, dDiv, dNeg, dLt, dLtU, dLe, dGt, dGe, dIs, dIx, dIxI, d1, dLen1, dTup, dLst, dListOf, dListW, dTupOf, dIntOf, dIsi, isScr, tyName, scrOf, pName, pTup, psCons, psNil, Res.bind, noExc, ofOpt, patOut, loopOut, wipeR, lcTurn, eNL, noList, noListAll, eFlat, flatL, wSeq, wRange1, wRange2, wEnum, wRev, kb_NoneType_int, kb_NoneType_bool, kb_NoneType_str, kb_NoneType_list, kb_NoneType_tuple, kb_bool_int, kb_bool_bool, kb_bool_str, kb_bool_list, kb_bool_tuple, kb_int_int, kb_int_bool, kb_int_str, kb_int_list, kb_int_tuple, kb_str_int, kb_str_bool, kb_str_str, kb_str_list, kb_str_tuple, kb_list_int, kb_list_bool, kb_list_str, kb_list_list, kb_list_tuple, kb_tuple_int, kb_tuple_bool, kb_tuple_str, kb_tuple_list, kb_tuple_tuple, kb_dict_int, kb_dict_bool, kb_dict_str, kb_dict_list, kb_dict_tuple, eRow]))]
    exact (sFor_ok (ds := r.map eStp) rfl).trans e1
theorem same_ok (w : Web) : F__law_same [eWeb w, eWeb w] = .ok (.bool true) := by
  obtain ⟨x', y', e⟩ := same_rows (.p (eWeb w)) (.p (eWeb w)) w .no .no .no
  have dn := dNe_self (sh_web w) (by decide)
  have i : dIsi "list" (eWeb w) = .ok (.bool true) := by simp [eWeb, fnP, fnO, ins, retP, retO, sSeq, sIf, sAsg, sRet, sRetO, sSkip, sRetN, sRaise, sDrop, rOut, eOp, eUn, eVar, eC, rget, eArgs, aNil, aCons, eAnd, eOr, eNot, bOf, bNot, bAnd, bOr, bTru, dTru, bYes, eIf, eCall0, eCall, eChain, eSl, oNone, oSome, dSl, dAdd, dSub, dMod, dDiv, dNeg, dLt, dLtU, dLe, dGt, dGe, dIs, dIx, dIxI, d1, dLen1, dTup, dLst, dListOf, dListW, dTupOf, dIntOf, dIsi, isScr, tyName, scrOf, pName, pTup, psCons, psNil, Res.bind, noExc, ofOpt, patOut, loopOut, wipeR, lcTurn, eNL, noList, noListAll, eFlat, flatL, wSeq, wRange1, wRange2, wEnum, wRev, kb_NoneType_int, kb_NoneType_bool, kb_NoneType_str, kb_NoneType_list, kb_NoneType_tuple, kb_bool_int, kb_bool_bool, kb_bool_str, kb_bool_list, kb_bool_tuple, kb_int_int, kb_int_bool, kb_int_str, kb_int_list, kb_int_tuple, kb_str_int, kb_str_bool, kb_str_str, kb_str_list, kb_str_tuple, kb_list_int, kb_list_bool, kb_list_str, kb_list_list, kb_list_tuple, kb_tuple_int, kb_tuple_bool, kb_tuple_str, kb_tuple_list, kb_tuple_tuple, kb_dict_int, kb_dict_bool, kb_dict_str, kb_dict_list, kb_dict_tuple]
  show noExc (retP (b__law_same [.p (eWeb w), .p (eWeb w), .no, .no, .no])) = _
  unfold b__law_same
  rw [sSeq_nx (sIf_skip (by simp [bOr, bNot, bTru, bOf, eUn, eOp, eVar, rget, Res.bind, i, dTru, dn])), sSeq_nx ((sFor_ok (ds := w.map eRow) rfl).trans e)]
  rfl
end K12

set_option Elab.async false
set_option linter.all false
set_option maxRecDepth 100000
set_option maxHeartbeats 4000000
namespace K12
open PySem PySem.Spec PyProof.Rows L2 Fw Pg TL
theorem nat_of (z : Int) (n : Nat) (hn : 0 < n) : ∃ j : Nat, z.fmod (n : Nat) = (j : Int) ∧ j < n := by
  have f := fmod_lt z n hn
  exact ⟨(z.fmod (n : Nat)).toNat, by omega, by omega⟩
/-! ### the text, by the law -/
theorem step1_ok {s : Stp} (h : StpOk s) (l : List Str) (a0 a1 a2 a5 : Sl) (hl : l.length < 16000000) : L1__law_text_by [a0, a1, a2, .o none false (.list (l.map PyData.str)), .p (eStp s), a5] = .nx [a0, a1, a2, .o none false (.list ((l ++ [stepText s]).map PyData.str)), .p (eStp s), a5] := by
  obtain ⟨ds, e, _⟩ := words_map h
  obtain ⟨w1, w2⟩ := words_len h
  have g := shown_words (i := 5) (it := wSeq (eVar 4)) (ρ := [a0, a1, a2, .o none false (.list (l.map PyData.str)), .p (eStp s), a5]) h e (by rw [e]; rfl) (by simp)
  have j := dJoin_ok (jf_ok (a := " ") (fun p hp => (w2 p hp).1) (by rw [l1]; omega))
  have v : eM1 dJoin (eC (.str " ")) C1__law_text_by [a0, a1, a2, .o none false (.list (l.map PyData.str)), .p (eStp s), a5] = .ok (.str (stepText s)) := by
    unfold eM1
    show ((C1__law_text_by _).bind fun e => dJoin " " e) = _
    rw [show C1__law_text_by _ = _ from g]
    exact j
  unfold L1__law_text_by sApp
  show sAppK ⟨false, .list (l.map PyData.str), fun d' => [a0, a1, a2, .o none false d', .p (eStp s), a5]⟩ false _ _ = _
  rw [v]
  show (if false = false then (if (l.map PyData.str).length < big then Out.nx _ else .bad) else .bad) = _
  rw [if_pos rfl, if_pos (show (l.map PyData.str).length < big by rw [List.length_map, bigv]; exact hl)]
  have : l.map PyData.str ++ [PyData.str (stepText s)] = (l ++ [stepText s]).map PyData.str := by simp
  show Out.nx [a0, a1, a2, .o none false (.list (l.map PyData.str ++ [PyData.str (stepText s)])), _, _] = _
  rw [this]
theorem steps1_go (a0 a1 a2 a5 : Sl) : ∀ (r : List Stp) (l : List Str) (x : Sl), (∀ s ∈ r, StpOk s) → l.length + r.length ≤ 10000 → ∃ x', forGo (pName 4) L1__law_text_by (r.map eStp) [a0, a1, a2, .o none false (.list (l.map PyData.str)), x, a5] = .nx [a0, a1, a2, .o none false (.list ((l ++ r.map stepText).map PyData.str)), x', a5]
  | [], l, x, _, _ => ⟨x, by simp [forGo]⟩
  | s :: r, l, x, h, hl => by
    have hl' : l.length + (r.length + 1) ≤ 10000 := hl
    obtain ⟨x', e⟩ := steps1_go a0 a1 a2 a5 r (l ++ [stepText s]) (.p (eStp s)) (fun q hq => h q (List.mem_cons_of_mem _ hq)) (by rw [List.length_append, List.length_singleton]; omega)
    refine ⟨x', Eq.trans (congrArg (fun o => loopOut o (forGo (pName 4) L1__law_text_by (r.map eStp))) (step1_ok (h s List.mem_cons_self) l a0 a1 a2 a5 (by omega))) (e.trans ?_)⟩
    rw [List.append_assoc]
    rfl
theorem row2_ok {r : List Stp} (h : ∀ s ∈ r, StpOk s) (hr : r.length ≤ 1000) (l : List Str) (a0 a3 a4 a5 : Sl) (hl : l.length < 16000000) : ∃ a3' a4', L2__law_text_by [a0, .o none false (.list (l.map PyData.str)), .p (eRow r), a3, a4, a5] = .nx [a0, .o none false (.list ((l ++ [rowText r]).map PyData.str)), .p (eRow r), a3', a4', a5] := by
  obtain ⟨x', e⟩ := steps1_go a0 (.o none false (.list (l.map PyData.str))) (.p (eRow r)) a5 r [] a4 h (by show 0 + r.length ≤ _; omega)
  rw [List.nil_append] at e
  refine ⟨.o none false (.list ((r.map stepText).map PyData.str)), x', ?_⟩
  have n1 : sAsgO false 3 (eArgs dLst aNil) [a0, .o none false (.list (l.map PyData.str)), .p (eRow r), a3, a4, a5] = .nx [a0, .o none false (.list (l.map PyData.str)), .p (eRow r), .o none false (.list ([].map PyData.str)), a4, a5] := by simp [sAsgO, fnP, fnO, ins, retP, retO, sSeq, sIf, sAsg, sRet, sRetO, sSkip, sRetN, sRaise, sDrop, rOut, eOp, eUn, eVar, eC, rget, eArgs, aNil, aCons, eAnd, eOr, eNot, bOf, bNot, bAnd, bOr, bTru, dTru, bYes, eIf, eCall0, eCall, eChain, eSl, oNone, oSome, dSl, dAdd, dSub, dMod, dDiv, dNeg, dLt, dLtU, dLe, dGt, dGe, dIs, dIx, dIxI, d1, dLen1, dTup, dLst, dListOf, dListW, dTupOf, dIntOf, dIsi, isScr, tyName, scrOf, pName, pTup, psCons, psNil, Res.bind, noExc, ofOpt, patOut, loopOut, wipeR, lcTurn, eNL, noList, noListAll, eFlat, flatL, wSeq, wRange1, wRange2, wEnum, wRev, bigv]
  have j := dJoin_ok (jf_ok (a := "; ") (ys := r.map stepText) (n := 96) (fun p hp => by
    obtain ⟨s, hs, rfl⟩ := List.mem_map.mp hp
    exact (stepText_ok (h s hs)).1) (by rw [l2, List.length_map]; omega))
  have v : eBor 3 (eM1 dJoin (eC (.str "; ")) (eVar 3)) [a0, .o none false (.list (l.map PyData.str)), .p (eRow r), .o none false (.list ((r.map stepText).map PyData.str)), x', a5] = .ok (.str (rowText r)) := eBor_ok (by
    show eM1 dJoin (eC (.str "; ")) (eVar 3) [a0, .o none false (.list (l.map PyData.str)), .p (eRow r), .p (.list ((r.map stepText).map PyData.str)), x', a5] = _
    exact j) rfl
  unfold L2__law_text_by
  rw [sSeq_nx n1, sSeq_nx ((sFor_ok (ds := r.map eStp) rfl).trans e)]
  unfold sApp
  show sAppK ⟨false, .list (l.map PyData.str), fun d' => [a0, .o none false d', .p (eRow r), .o none false (.list ((r.map stepText).map PyData.str)), x', a5]⟩ false _ _ = _
  rw [v]
  show (if false = false then (if (l.map PyData.str).length < big then Out.nx _ else .bad) else .bad) = _
  rw [if_pos rfl, if_pos (show (l.map PyData.str).length < big by rw [List.length_map, bigv]; exact hl)]
  have : l.map PyData.str ++ [PyData.str (rowText r)] = (l ++ [rowText r]).map PyData.str := by simp
  show Out.nx [a0, .o none false (.list (l.map PyData.str ++ [PyData.str (rowText r)])), _, _, _, _] = _
  rw [this]
theorem rows2_go (a0 a5 : Sl) : ∀ (w : Web) (l : List Str) (x a3 a4 : Sl), (∀ r ∈ w, ∀ s ∈ r, StpOk s) → (∀ r ∈ w, r.length ≤ 1000) → l.length + w.length ≤ 10000 → ∃ x' a3' a4', forGo (pName 2) L2__law_text_by (w.map eRow) [a0, .o none false (.list (l.map PyData.str)), x, a3, a4, a5] = .nx [a0, .o none false (.list ((l ++ w.map rowText).map PyData.str)), x', a3', a4', a5]
  | [], l, x, a3, a4, _, _, _ => ⟨x, a3, a4, by simp [forGo]⟩
  | r :: w, l, x, a3, a4, h, hs, hl => by
    have hl' : l.length + (w.length + 1) ≤ 10000 := hl
    obtain ⟨b3, b4, t⟩ := row2_ok (h r List.mem_cons_self) (hs r List.mem_cons_self) l a0 a3 a4 a5 (by omega)
    obtain ⟨x', a3', a4', e⟩ := rows2_go a0 a5 w (l ++ [rowText r]) (.p (eRow r)) b3 b4 (fun q hq => h q (List.mem_cons_of_mem _ hq)) (fun q hq => hs q (List.mem_cons_of_mem _ hq)) (by rw [List.length_append, List.length_singleton]; omega)
    refine ⟨x', a3', a4', Eq.trans (congrArg (fun o => loopOut o (forGo (pName 2) L2__law_text_by (w.map eRow))) t) (e.trans ?_)⟩
    rw [List.append_assoc]
    rfl
theorem text_by_ok {w : Web} (h : WebOk w) (few : (w.map List.length).sum ≤ 8) : F__law_text_by [eWeb w] = .ok (.str (webText w)) := by
  have m := h.most
  obtain ⟨x', a3, a4, e⟩ := rows2_go (.p (eWeb w)) .no w [] .no .no .no h.steps h.short (by show 0 + w.length ≤ _; omega)
  rw [List.nil_append] at e
  have n1 : sAsgO false 1 (eArgs dLst aNil) [.p (eWeb w), .no, .no, .no, .no, .no] = .nx [.p (eWeb w), .o none false (.list ([].map PyData.str)), .no, .no, .no, .no] := by simp [sAsgO, fnP, fnO, ins, retP, retO, sSeq, sIf, sAsg, sRet, sRetO, sSkip, sRetN, sRaise, sDrop, rOut, eOp, eUn, eVar, eC, rget, eArgs, aNil, aCons, eAnd, eOr, eNot, bOf, bNot, bAnd, bOr, bTru, dTru, bYes, eIf, eCall0, eCall, eChain, eSl, oNone, oSome, dSl, dAdd, dSub, dMod, dDiv, dNeg, dLt, dLtU, dLe, dGt, dGe, dIs, dIx, dIxI, d1, dLen1, dTup, dLst, dListOf, dListW, dTupOf, dIntOf, dIsi, isScr, tyName, scrOf, pName, pTup, psCons, psNil, Res.bind, noExc, ofOpt, patOut, loopOut, wipeR, lcTurn, eNL, noList, noListAll, eFlat, flatL, wSeq, wRange1, wRange2, wEnum, wRev, bigv]
  have j := dJoin_ok (jf_ok (a := " | ") (ys := w.map rowText) (n := 800) (fun p hp => by
    obtain ⟨r, hr, rfl⟩ := List.mem_map.mp hp
    have := rowText_len (h.steps r hr)
    have := Nat.le_trans (mem_sum hr) few
    omega) (by rw [l3, List.length_map]; omega))
  show noExc (retP (b__law_text_by [.p (eWeb w), .no, .no, .no, .no, .no])) = _
  unfold b__law_text_by
  rw [sSeq_nx n1, sSeq_nx ((sFor_ok (ds := w.map eRow) rfl).trans e)]
  show noExc (retP (sRet _ [.p (eWeb w), .p (.list ((w.map rowText).map PyData.str)), x', a3, a4, .no])) = _
  have j' : eM1 dJoin (eC (.str " | ")) (eVar 1) [.p (eWeb w), .p (.list ((w.map rowText).map PyData.str)), x', a3, a4, .no] = .ok (.str (webText w)) := j
  rw [sRet_ok j']
  rfl
/-! ### a changed text, an odd one -/
def SG : Str := (" !\"#$&'()*+,-./0123456789:;<=>?@ABCDEFGHIJKLMNOPQRSTUVWXYZ[\\]^_`" : Str) ++ ("abcdefghijklmnopqrstuvwxyz{|}~\n\t" : Str)
theorem sg_len : SG.length = 96 := by decide +kernel
theorem sg_fine : Fine SG := fun c hc => by
  have : (SG.cps.toList.all fun c => decide (c < 128)) = true := by decide +kernel
  exact of_decide_eq_true (List.all_eq_true.mp this c hc)
theorem cut_mem (z : Str) (lo hi : Option Int) : ∀ c ∈ tl (cutS z lo hi), c ∈ tl z := fun c hc => List.mem_of_mem_drop (List.mem_of_mem_take hc)
theorem cut_fine {z : Str} (h : Fine z) (lo hi : Option Int) : Fine (cutS z lo hi) := fun c hc => h c (cut_mem z lo hi c hc)
theorem cut_lenA (z : Str) (a : Nat) : (cutS z none (some (a : Int))).length ≤ a := by
  rw [len_tl]
  show (((tl z).drop _).take _).length ≤ a
  rw [HT.sIx_none, HT.sIx_nat, List.length_take]
  omega
theorem cut_lenB (z : Str) (a : Nat) : (cutS z (some (a : Int)) none).length ≤ z.length - min a z.length := by
  rw [len_tl]
  show (((tl z).drop _).take _).length ≤ _
  rw [HT.sIx_none, HT.sIx_nat, List.length_take]
  omega
theorem dAdd_s {a b : Str} (h : a.length + b.length ≤ 16000000) : dAdd (.str a) (.str b) = .ok (.str (a ++ b)) := if_pos h
theorem changed_ok {t : Str} (f : Fine t) (hl : t.length ≤ 800) (c : Int) : ∃ u, F__law_changed [.str t, .int c] = .ok (.str u) ∧ Small u := by
  obtain ⟨a, ha, al⟩ := nat_of (c.fdiv 3) (t.length + 1) (by omega)
  have ha' : (c.fdiv 3).fmod ((t.length : Int) + 1) = (a : Int) := ha
  have nz : ¬ ((t.length : Int) + 1 = 0) := by omega
  obtain ⟨k, hk, k96⟩ := nat_of (c.fdiv 7) 96 (by decide)
  have hk' : (c.fdiv 7).fmod 96 = (k : Int) := hk
  have sl : SG.cps.toList.length = 96 := by rw [← sg_len]; exact (len_tl SG).symm
  have kl : k < SG.cps.toList.length := by rw [sl]; exact k96
  have at_ : atI SG.cps.toList (k : Int) = some SG.cps.toList[k] := atN (List.getElem?_eq_getElem kl)
  have sf := sg_fine _ (List.getElem_mem kl)
  generalize SG.cps.toList[k] = ch at at_ sf
  have fch : Fine ⟨#[ch]⟩ := fun d hd => by
    have : d = ch := by simpa using hd
    rw [this]
    exact sf
  have lch : (⟨#[ch]⟩ : Str).length = 1 := rfl
  have b1 : t.length ≤ 16000000 := by omega
  let e1 := cutS t none (some (a : Int))
  let e2 := cutS t (some (a : Int)) none
  let e3 := cutS t (some ((a : Int) + 1)) none
  have l1 : e1.length ≤ a := cut_lenA t a
  have l2 : e2.length ≤ t.length - min a t.length := cut_lenB t a
  have l3 : e3.length ≤ t.length - min a t.length := by
    have z := cut_lenB t (a + 1)
    have e : (((a + 1 : Nat)) : Int) = (a : Int) + 1 := by omega
    rw [e] at z
    show (cutS t (some ((a : Int) + 1)) none).length ≤ _
    omega
  have f1 : Fine e1 := cut_fine f _ _
  have f2 : Fine e2 := cut_fine f _ _
  have f3 : Fine e3 := cut_fine f _ _
  have n2 : sAsg (pName 2) (eC (.str " !\"#$&'()*+,-./0123456789:;<=>?@ABCDEFGHIJKLMNOPQRSTUVWXYZ[\\]^_`")) [.p (.str t), .p (.int c), .no, .no, .no] = .nx [.p (.str t), .p (.int c), .p (.str " !\"#$&'()*+,-./0123456789:;<=>?@ABCDEFGHIJKLMNOPQRSTUVWXYZ[\\]^_`"), .no, .no] := sAsg_nm rfl
  have n2' : sAsg (pName 2) (eOp dAdd (eVar 2) (eC (.str "abcdefghijklmnopqrstuvwxyz{|}~\n\t"))) [.p (.str t), .p (.int c), .p (.str " !\"#$&'()*+,-./0123456789:;<=>?@ABCDEFGHIJKLMNOPQRSTUVWXYZ[\\]^_`"), .no, .no] = .nx [.p (.str t), .p (.int c), .p (.str SG), .no, .no] := sAsg_nm ((eOp_ok rfl rfl).trans (dAdd_s (by decide +kernel)))
  have n3 : sAsg (pName 3) (eOp dMod (eOp dDiv (eVar 1) (eC (.int 3))) (eOp dAdd (eArgs (d1 dLen1) (aCons (eVar 0) aNil)) (eC (.int 1)))) [.p (.str t), .p (.int c), .p (.str SG), .no, .no] = .nx [.p (.str t), .p (.int c), .p (.str SG), .p (.int (a : Nat)), .no] := sAsg_nm (by simp [fnP, fnO, ins, retP, retO, sSeq, sIf, sAsg, sRet, sRetO, sSkip, sRetN, sRaise, sDrop, rOut, eOp, eUn, eVar, eC, rget, eArgs, aNil, aCons, eAnd, eOr, eNot, bOf, bNot, bAnd, bOr, bTru, dTru, bYes, eIf, eCall0, eCall, eChain, eSl, oNone, oSome, dSl, dAdd, dSub, dMod, dDiv, dNeg, dLt, dLtU, dLe, dGt, dGe, dIs, dIx, dIxI, d1, dLen1, dTup, dLst, dListOf, dListW, dTupOf, dIntOf, dIsi, isScr, tyName, scrOf, pName, pTup, psCons, psNil, Res.bind, noExc, ofOpt, patOut, loopOut, wipeR, lcTurn, eNL, noList, noListAll, eFlat, flatL, wSeq, wRange1, wRange2, wEnum, wRev, bigv, b1, nz, ha'])
  have n4 : sAsg (pName 4) (eOp dIx (eVar 2) (eOp dMod (eOp dDiv (eVar 1) (eC (.int 7))) (eC (.int 96)))) [.p (.str t), .p (.int c), .p (.str SG), .p (.int (a : Nat)), .no] = .nx [.p (.str t), .p (.int c), .p (.str SG), .p (.int (a : Nat)), .p (.str ⟨#[ch]⟩)] := by
    have sb : SG.length ≤ 16000000 := by rw [sg_len]; decide
    generalize SG = S at at_ sb ⊢
    exact sAsg_nm (by simp [fnP, fnO, ins, retP, retO, sSeq, sIf, sAsg, sRet, sRetO, sSkip, sRetN, sRaise, sDrop, rOut, eOp, eUn, eVar, eC, rget, eArgs, aNil, aCons, eAnd, eOr, eNot, bOf, bNot, bAnd, bOr, bTru, dTru, bYes, eIf, eCall0, eCall, eChain, eSl, oNone, oSome, dSl, dAdd, dSub, dMod, dDiv, dNeg, dLt, dLtU, dLe, dGt, dGe, dIs, dIx, dIxI, d1, dLen1, dTup, dLst, dListOf, dListW, dTupOf, dIntOf, dIsi, isScr, tyName, scrOf, pName, pTup, psCons, psNil, Res.bind, noExc, ofOpt, patOut, loopOut, wipeR, lcTurn, eNL, noList, noListAll, eFlat, flatL, wSeq, wRange1, wRange2, wEnum, wRev, bigv, hk', sb, at_])
  have v1 : eSl (eVar 0) oNone (oSome (eVar 3)) [.p (.str t), .p (.int c), .p (.str SG), .p (.int (a : Nat)), .p (.str ⟨#[ch]⟩)] = .ok (.str e1) := by simp [fnP, fnO, ins, retP, retO, sSeq, sIf, sAsg, sRet, sRetO, sSkip, sRetN, sRaise, sDrop, rOut, eOp, eUn, eVar, eC, rget, eArgs, aNil, aCons, eAnd, eOr, eNot, bOf, bNot, bAnd, bOr, bTru, dTru, bYes, eIf, eCall0, eCall, eChain, eSl, oNone, oSome, dSl, dAdd, dSub, dMod, dDiv, dNeg, dLt, dLtU, dLe, dGt, dGe, dIs, dIx, dIxI, d1, dLen1, dTup, dLst, dListOf, dListW, dTupOf, dIntOf, dIsi, isScr, tyName, scrOf, pName, pTup, psCons, psNil, Res.bind, noExc, ofOpt, patOut, loopOut, wipeR, lcTurn, eNL, noList, noListAll, eFlat, flatL, wSeq, wRange1, wRange2, wEnum, wRev, bigv, b1, e1]
  have v2 : eSl (eVar 0) (oSome (eVar 3)) oNone [.p (.str t), .p (.int c), .p (.str SG), .p (.int (a : Nat)), .p (.str ⟨#[ch]⟩)] = .ok (.str e2) := by simp [fnP, fnO, ins, retP, retO, sSeq, sIf, sAsg, sRet, sRetO, sSkip, sRetN, sRaise, sDrop, rOut, eOp, eUn, eVar, eC, rget, eArgs, aNil, aCons, eAnd, eOr, eNot, bOf, bNot, bAnd, bOr, bTru, dTru, bYes, eIf, eCall0, eCall, eChain, eSl, oNone, oSome, dSl, dAdd, dSub, dMod, dDiv, dNeg, dLt, dLtU, dLe, dGt, dGe, dIs, dIx, dIxI, d1, dLen1, dTup, dLst, dListOf, dListW, dTupOf, dIntOf, dIsi, isScr, tyName, scrOf, pName, pTup, psCons, psNil, Res.bind, noExc, ofOpt, patOut, loopOut, wipeR, lcTurn, eNL, noList, noListAll, eFlat, flatL, wSeq, wRange1, wRange2, wEnum, wRev, bigv, b1, e2]
  have v3 : eSl (eVar 0) (oSome (eOp dAdd (eVar 3) (eC (.int 1)))) oNone [.p (.str t), .p (.int c), .p (.str SG), .p (.int (a : Nat)), .p (.str ⟨#[ch]⟩)] = .ok (.str e3) := by simp [fnP, fnO, ins, retP, retO, sSeq, sIf, sAsg, sRet, sRetO, sSkip, sRetN, sRaise, sDrop, rOut, eOp, eUn, eVar, eC, rget, eArgs, aNil, aCons, eAnd, eOr, eNot, bOf, bNot, bAnd, bOr, bTru, dTru, bYes, eIf, eCall0, eCall, eChain, eSl, oNone, oSome, dSl, dAdd, dSub, dMod, dDiv, dNeg, dLt, dLtU, dLe, dGt, dGe, dIs, dIx, dIxI, d1, dLen1, dTup, dLst, dListOf, dListW, dTupOf, dIntOf, dIsi, isScr, tyName, scrOf, pName, pTup, psCons, psNil, Res.bind, noExc, ofOpt, patOut, loopOut, wipeR, lcTurn, eNL, noList, noListAll, eFlat, flatL, wSeq, wRange1, wRange2, wEnum, wRev, bigv, b1, e3]
  have v4 : eVar 4 [.p (.str t), .p (.int c), .p (.str SG), .p (.int (a : Nat)), .p (.str ⟨#[ch]⟩)] = .ok (.str ⟨#[ch]⟩) := rfl
  have la : ∀ x y : Str, (x ++ y).length = x.length + y.length := len_app
  show ∃ u, noExc (retP (b__law_changed [.p (.str t), .p (.int c), .no, .no, .no])) = _ ∧ _
  unfold b__law_changed
  rw [sSeq_nx n2, sSeq_nx n2', sSeq_nx n3, sSeq_nx n4]
  by_cases c0 : c.fmod 3 = 0
  · refine ⟨e1 ++ ⟨#[ch]⟩ ++ e2, ?_, (f1.app fch).app f2, by rw [la, la, lch]; omega⟩
    rw [sSeq_ret ((sIf_t (by simp [fnP, fnO, ins, retP, retO, sSeq, sIf, sAsg, sRet, sRetO, sSkip, sRetN, sRaise, sDrop, rOut, eOp, eUn, eVar, eC, rget, eArgs, aNil, aCons, eAnd, eOr, eNot, bOf, bNot, bAnd, bOr, bTru, dTru, bYes, eIf, eCall0, eCall, eChain, eSl, oNone, oSome, dSl, dAdd, dSub, dMod, dDiv, dNeg, dLt, dLtU, dLe, dGt, dGe, dIs, dIx, dIxI, d1, dLen1, dTup, dLst, dListOf, dListW, dTupOf, dIntOf, dIsi, isScr, tyName, scrOf, pName, pTup, psCons, psNil, Res.bind, noExc, ofOpt, patOut, loopOut, wipeR, lcTurn, eNL, noList, noListAll, eFlat, flatL, wSeq, wRange1, wRange2, wEnum, wRev, dEq_int, c0])).trans (sRet_ok ((eOp_ok ((eOp_ok v1 v4).trans (dAdd_s (by omega))) v2).trans (dAdd_s (by rw [la]; omega)))))]
    rfl
  · rw [sSeq_nx (sIf_skip (by simp [fnP, fnO, ins, retP, retO, sSeq, sIf, sAsg, sRet, sRetO, sSkip, sRetN, sRaise, sDrop, rOut, eOp, eUn, eVar, eC, rget, eArgs, aNil, aCons, eAnd, eOr, eNot, bOf, bNot, bAnd, bOr, bTru, dTru, bYes, eIf, eCall0, eCall, eChain, eSl, oNone, oSome, dSl, dAdd, dSub, dMod, dDiv, dNeg, dLt, dLtU, dLe, dGt, dGe, dIs, dIx, dIxI, d1, dLen1, dTup, dLst, dListOf, dListW, dTupOf, dIntOf, dIsi, isScr, tyName, scrOf, pName, pTup, psCons, psNil, Res.bind, noExc, ofOpt, patOut, loopOut, wipeR, lcTurn, eNL, noList, noListAll, eFlat, flatL, wSeq, wRange1, wRange2, wEnum, wRev, dEq_int, c0]))]
    by_cases c1 : c.fmod 3 = 1
    · refine ⟨e1 ++ e3, ?_, f1.app f3, by rw [la]; omega⟩
      rw [sSeq_ret ((sIf_t (by simp [fnP, fnO, ins, retP, retO, sSeq, sIf, sAsg, sRet, sRetO, sSkip, sRetN, sRaise, sDrop, rOut, eOp, eUn, eVar, eC, rget, eArgs, aNil, aCons, eAnd, eOr, eNot, bOf, bNot, bAnd, bOr, bTru, dTru, bYes, eIf, eCall0, eCall, eChain, eSl, oNone, oSome, dSl, dAdd, dSub, dMod, dDiv, dNeg, dLt, dLtU, dLe, dGt, dGe, dIs, dIx, dIxI, d1, dLen1, dTup, dLst, dListOf, dListW, dTupOf, dIntOf, dIsi, isScr, tyName, scrOf, pName, pTup, psCons, psNil, Res.bind, noExc, ofOpt, patOut, loopOut, wipeR, lcTurn, eNL, noList, noListAll, eFlat, flatL, wSeq, wRange1, wRange2, wEnum, wRev, dEq_int, c1])).trans (sRet_ok ((eOp_ok v1 v3).trans (dAdd_s (by omega)))))]
      rfl
    · refine ⟨e1 ++ ⟨#[ch]⟩ ++ e3, ?_, (f1.app fch).app f3, by rw [la, la, lch]; omega⟩
      rw [sSeq_nx (sIf_skip (by simp [fnP, fnO, ins, retP, retO, sSeq, sIf, sAsg, sRet, sRetO, sSkip, sRetN, sRaise, sDrop, rOut, eOp, eUn, eVar, eC, rget, eArgs, aNil, aCons, eAnd, eOr, eNot, bOf, bNot, bAnd, bOr, bTru, dTru, bYes, eIf, eCall0, eCall, eChain, eSl, oNone, oSome, dSl, dAdd, dSub, dMod, dDiv, dNeg, dLt, dLtU, dLe, dGt, dGe, dIs, dIx, dIxI, d1, dLen1, dTup, dLst, dListOf, dListW, dTupOf, dIntOf, dIsi, isScr, tyName, scrOf, pName, pTup, psCons, psNil, Res.bind, noExc, ofOpt, patOut, loopOut, wipeR, lcTurn, eNL, noList, noListAll, eFlat, flatL, wSeq, wRange1, wRange2, wEnum, wRev, dEq_int, c1])), sRet_ok ((eOp_ok ((eOp_ok v1 v4).trans (dAdd_s (by omega))) v3).trans (dAdd_s (by rw [la]; omega)))]
      rfl
def odd1 : List Str := ["", " ", "|", " | ", " |  |  | ", "fence;", "; fence", "fence ", " fence", "fence fence", "get 4", "get -1"]
def odd2 : List Str := ["get", "get 00", "put 0", "put 0 01", "put 0 -0", "put 0 +1", "put 4 1", "put 0 1;get 1", "Get 0"]
def odd3 : List Str := [("put 0 1" : Str) ++ strRep "0" 30, strRep "get 0; " 8 ++ ("get 0" : Str), "put 0 1 |get 0"]
theorem odd_small : ∀ x ∈ odd1 ++ odd2 ++ odd3, Small x := by
  have : ((odd1 ++ odd2 ++ odd3).all fun x => (x.cps.toList.all fun c => decide (c < 128)) && decide (x.length ≤ 900)) = true := by decide +kernel
  intro x hx
  have q := List.all_eq_true.mp this x hx
  have q2 := (Bool.and_eq_true _ _ ▸ q : _ ∧ _)
  exact ⟨fun c hc => of_decide_eq_true (List.all_eq_true.mp q2.1 c hc), of_decide_eq_true q2.2⟩
theorem odd_ok (c : Int) : ∃ u, F__law_odd [.int c] = .ok (.str u) ∧ Small u := by
  obtain ⟨k, hk, k24⟩ := nat_of c 24 (by decide)
  have hk' : c.fmod 24 = (k : Int) := hk
  have kl : k < (odd1 ++ odd2 ++ odd3).length := k24
  have sm := odd_small _ (List.getElem_mem kl)
  have at_ : atI ((odd1 ++ odd2 ++ odd3).map PyData.str) (k : Int) = some (.str (odd1 ++ odd2 ++ odd3)[k]) := by
    refine atN ?_
    rw [List.getElem?_map, List.getElem?_eq_getElem kl]
    rfl
  generalize (odd1 ++ odd2 ++ odd3)[k] = u at at_ sm
  refine ⟨u, ?_, sm⟩
  have a1 : dAdd (.str "put 0 1") (.str (strRep "0" 30)) = .ok (.str (("put 0 1" : Str) ++ strRep "0" 30)) := dAdd_s (by decide +kernel)
  have m1 : dMul (.str "0") (.int 30) = .ok (.str (strRep "0" 30)) := by
    show (if (-1000 : Int) ≤ 30 ∧ (30 : Int) ≤ 1000 ∧ ("0" : Str).length * (30 : Int).toNat ≤ big then Res.ok (PyData.str (strRep "0" 30)) else .bad) = _
    rw [if_pos ⟨by decide, by decide, by rw [bigv]; decide +kernel⟩]
  have m2 : dMul (.str "get 0; ") (.int 8) = .ok (.str (strRep "get 0; " 8)) := by
    show (if (-1000 : Int) ≤ 8 ∧ (8 : Int) ≤ 1000 ∧ ("get 0; " : Str).length * (8 : Int).toNat ≤ big then Res.ok (PyData.str (strRep "get 0; " 8)) else .bad) = _
    rw [if_pos ⟨by decide, by decide, by rw [bigv]; decide +kernel⟩]
  have a2 : dAdd (.str (strRep "get 0; " 8)) (.str "get 0") = .ok (.str (strRep "get 0; " 8 ++ ("get 0" : Str))) := dAdd_s (by decide +kernel)
  have n1 : eArgs dLst (aCons (eC (.str "")) (aCons (eC (.str " ")) (aCons (eC (.str "|")) (aCons (eC (.str " | ")) (aCons (eC (.str " |  |  | ")) (aCons (eC (.str "fence;")) (aCons (eC (.str "; fence")) (aCons (eC (.str "fence ")) (aCons (eC (.str " fence")) (aCons (eC (.str "fence fence")) (aCons (eC (.str "get 4")) (aCons (eC (.str "get -1")) aNil)))))))))))) [.p (.int c), .no] = .ok (.list (odd1.map PyData.str)) := by simp [fnP, fnO, ins, retP, retO, sSeq, sIf, sAsg, sRet, sRetO, sSkip, sRetN, sRaise, sDrop, rOut, eOp, eUn, eVar, eC, rget, eArgs, aNil, aCons, eAnd, eOr, eNot, bOf, bNot, bAnd, bOr, bTru, dTru, bYes, eIf, eCall0, eCall, eChain, eSl, oNone, oSome, dSl, dAdd, dSub, dMod, dDiv, dNeg, dLt, dLtU, dLe, dGt, dGe, dIs, dIx, dIxI, d1, dLen1, dTup, dLst, dListOf, dListW, dTupOf, dIntOf, dIsi, isScr, tyName, scrOf, pName, pTup, psCons, psNil, Res.bind, noExc, ofOpt, patOut, loopOut, wipeR, lcTurn, eNL, noList, noListAll, eFlat, flatL, wSeq, wRange1, wRange2, wEnum, wRev, bigv, odd1]
  have n2 : eOp dAdd (eVar 1) (eArgs dLst (aCons (eC (.str "get")) (aCons (eC (.str "get 00")) (aCons (eC (.str "put 0")) (aCons (eC (.str "put 0 01")) (aCons (eC (.str "put 0 -0")) (aCons (eC (.str "put 0 +1")) (aCons (eC (.str "put 4 1")) (aCons (eC (.str "put 0 1;get 1")) (aCons (eC (.str "Get 0")) aNil)))))))))) [.p (.int c), .p (.list (odd1.map PyData.str))] = .ok (.list ((odd1 ++ odd2).map PyData.str)) := by simp [fnP, fnO, ins, retP, retO, sSeq, sIf, sAsg, sRet, sRetO, sSkip, sRetN, sRaise, sDrop, rOut, eOp, eUn, eVar, eC, rget, eArgs, aNil, aCons, eAnd, eOr, eNot, bOf, bNot, bAnd, bOr, bTru, dTru, bYes, eIf, eCall0, eCall, eChain, eSl, oNone, oSome, dSl, dAdd, dSub, dMod, dDiv, dNeg, dLt, dLtU, dLe, dGt, dGe, dIs, dIx, dIxI, d1, dLen1, dTup, dLst, dListOf, dListW, dTupOf, dIntOf, dIsi, isScr, tyName, scrOf, pName, pTup, psCons, psNil, Res.bind, noExc, ofOpt, patOut, loopOut, wipeR, lcTurn, eNL, noList, noListAll, eFlat, flatL, wSeq, wRange1, wRange2, wEnum, wRev, bigv, odd1, odd2]
  have x1 : eOp dAdd (eC (.str "put 0 1")) (eOp dMul (eC (.str "0")) (eC (.int 30))) [.p (.int c), .p (.list ((odd1 ++ odd2).map PyData.str))] = .ok (.str (("put 0 1" : Str) ++ strRep "0" 30)) := (eOp_ok rfl ((eOp_ok rfl rfl).trans m1)).trans a1
  have x2 : eOp dAdd (eOp dMul (eC (.str "get 0; ")) (eC (.int 8))) (eC (.str "get 0")) [.p (.int c), .p (.list ((odd1 ++ odd2).map PyData.str))] = .ok (.str (strRep "get 0; " 8 ++ ("get 0" : Str))) := (eOp_ok ((eOp_ok rfl rfl).trans m2) rfl).trans a2
  have n3 : eOp dAdd (eVar 1) (eArgs dLst (aCons (eOp dAdd (eC (.str "put 0 1")) (eOp dMul (eC (.str "0")) (eC (.int 30)))) (aCons (eOp dAdd (eOp dMul (eC (.str "get 0; ")) (eC (.int 8))) (eC (.str "get 0"))) (aCons (eC (.str "put 0 1 |get 0")) aNil)))) [.p (.int c), .p (.list ((odd1 ++ odd2).map PyData.str))] = .ok (.list ((odd1 ++ odd2 ++ odd3).map PyData.str)) := by
    have l3 := eArgs3 (g := dLst) x1 x2 (show eC (.str "put 0 1 |get 0") _ = .ok (.str "put 0 1 |get 0") from rfl)
    refine (eOp_ok (x := .list ((odd1 ++ odd2).map PyData.str)) rfl (l3.trans (show dLst _ = .ok (.list (odd3.map PyData.str)) from if_pos (by simp [bigv])))).trans ?_
    show (if ((odd1 ++ odd2).map PyData.str).length + (odd3.map PyData.str).length ≤ big then Res.ok (PyData.list ((odd1 ++ odd2).map PyData.str ++ odd3.map PyData.str)) else .bad) = _
    rw [if_pos (by rw [List.length_map, List.length_map, bigv]; decide), ← List.map_append]
  show noExc (retP (b__law_odd [.p (.int c), .no])) = _
  unfold b__law_odd
  rw [sSeq_nx (sAsg_nm n1)]
  show noExc (retP (sSeq _ _ [.p (.int c), .p (.list (odd1.map PyData.str))])) = _
  rw [sSeq_nx (sAsg_nm n2)]
  show noExc (retP (sSeq _ _ [.p (.int c), .p (.list ((odd1 ++ odd2).map PyData.str))])) = _
  rw [sSeq_nx (sAsg_nm n3)]
  show noExc (retP (sRet _ [.p (.int c), .p (.list ((odd1 ++ odd2 ++ odd3).map PyData.str))])) = _
  generalize (odd1 ++ odd2 ++ odd3).map PyData.str = L at at_ ⊢
  rw [sRet_ok (d := .str u) (by simp [fnP, fnO, ins, retP, retO, sSeq, sIf, sAsg, sRet, sRetO, sSkip, sRetN, sRaise, sDrop, rOut, eOp, eUn, eVar, eC, rget, eArgs, aNil, aCons, eAnd, eOr, eNot, bOf, bNot, bAnd, bOr, bTru, dTru, bYes, eIf, eCall0, eCall, eChain, eSl, oNone, oSome, dSl, dAdd, dSub, dMod, dDiv, dNeg, dLt, dLtU, dLe, dGt, dGe, dIs, dIx, dIxI, d1, dLen1, dTup, dLst, dListOf, dListW, dTupOf, dIntOf, dIsi, isScr, tyName, scrOf, pName, pTup, psCons, psNil, Res.bind, noExc, ofOpt, patOut, loopOut, wipeR, lcTurn, eNL, noList, noListAll, eFlat, flatL, wSeq, wRange1, wRange2, wEnum, wRev, hk', at_])]
  rfl
theorem law_true (ns : List Int) (hl : ns.length ≤ 63) (hb : ∀ z ∈ ns, Builtin.Int.intBits z ≤ 1048576) : F_law [scr ns] = .ok (.bool true) := by
  obtain ⟨w, okw, few, ew⟩ := web_by_ok hb (Nat.le_refl _)
  have m := okw.most
  have hw : w.length ≤ big := by rw [bigv]; omega
  obtain ⟨tf, tl8⟩ := webText_small okw few
  have tb := text_by_ok okw few
  have sh := shown_ok okw few
  have pb := parse_back okw
  have lr := law_read_ok (t := webText w) ⟨tf, by omega⟩
  rw [pb] at lr
  have sm := same_ok w
  have c1 := cell_at_ok ns 1
  have c1' : F__law_cell_at [scr ns, .int 1] = .ok (.int (cell ns 1)) := c1
  generalize cell ns 1 = c at c1'
  have dw := dNe_self (sh_web w) (by decide)
  have dt := dNe_str tf.ok tf.ok
  rw [beq_self_eq_true] at dt
  have n1 : sAsg (pName 1) (eCall0 F__law_web_by (aCons (eVar 0) aNil)) [.p (scr ns), .no, .no, .no, .no, .no, .no, .no, .no] = .nx [.p (scr ns), .p (eWeb w), .no, .no, .no, .no, .no, .no, .no] := sAsg_nm (by simp [fnP, fnO, ins, retP, retO, sSeq, sIf, sAsg, sRet, sRetO, sSkip, sRetN, sRaise, sDrop, rOut, eOp, eUn, eVar, eC, rget, eArgs, aNil, aCons, eAnd, eOr, eNot, bOf, bNot, bAnd, bOr, bTru, dTru, bYes, eIf, eCall0, eCall, eChain, eSl, oNone, oSome, dSl, dAdd, dSub, dMod, dDiv, dNeg, dLt, dLtU, dLe, dGt, dGe, dIs, dIx, dIxI, d1, dLen1, dTup, dLst, dListOf, dListW, dTupOf, dIntOf, dIsi, isScr, tyName, scrOf, pName, pTup, psCons, psNil, Res.bind, noExc, ofOpt, patOut, loopOut, wipeR, lcTurn, eNL, noList, noListAll, eFlat, flatL, wSeq, wRange1, wRange2, wEnum, wRev, ew])
  have n2 : sAsg (pName 2) (eCall0 F__law_text_by (aCons (eVar 1) aNil)) [.p (scr ns), .p (eWeb w), .no, .no, .no, .no, .no, .no, .no] = .nx [.p (scr ns), .p (eWeb w), .p (.str (webText w)), .no, .no, .no, .no, .no, .no] := sAsg_nm (by simp [fnP, fnO, ins, retP, retO, sSeq, sIf, sAsg, sRet, sRetO, sSkip, sRetN, sRaise, sDrop, rOut, eOp, eUn, eVar, eC, rget, eArgs, aNil, aCons, eAnd, eOr, eNot, bOf, bNot, bAnd, bOr, bTru, dTru, bYes, eIf, eCall0, eCall, eChain, eSl, oNone, oSome, dSl, dAdd, dSub, dMod, dDiv, dNeg, dLt, dLtU, dLe, dGt, dGe, dIs, dIx, dIxI, d1, dLen1, dTup, dLst, dListOf, dListW, dTupOf, dIntOf, dIsi, isScr, tyName, scrOf, pName, pTup, psCons, psNil, Res.bind, noExc, ofOpt, patOut, loopOut, wipeR, lcTurn, eNL, noList, noListAll, eFlat, flatL, wSeq, wRange1, wRange2, wEnum, wRev, tb])
  have e3 : C1_law [.p (scr ns), .p (eWeb w), .p (.str (webText w)), .no, .no, .no, .no, .no, .no] = .ok (eWeb w) :=
    eLc_enc (f := eRow) (by simp [fnP, fnO, ins, retP, retO, sSeq, sIf, sAsg, sRet, sRetO, sSkip, sRetN, sRaise, sDrop, rOut, eOp, eUn, eVar, eC, rget, eArgs, aNil, aCons, eAnd, eOr, eNot, bOf, bNot, bAnd, bOr, bTru, dTru, bYes, eIf, eCall0, eCall, eChain, eSl, oNone, oSome, dSl, dAdd, dSub, dMod, dDiv, dNeg, dLt, dLtU, dLe, dGt, dGe, dIs, dIx, dIxI, d1, dLen1, dTup, dLst, dListOf, dListW, dTupOf, dIntOf, dIsi, isScr, tyName, scrOf, pName, pTup, psCons, psNil, Res.bind, noExc, ofOpt, patOut, loopOut, wipeR, lcTurn, eNL, noList, noListAll, eFlat, flatL, wSeq, wRange1, wRange2, wEnum, wRev, eWeb]) (fun r hr => by simp [fnP, fnO, ins, retP, retO, sSeq, sIf, sAsg, sRet, sRetO, sSkip, sRetN, sRaise, sDrop, rOut, eOp, eUn, eVar, eC, rget, eArgs, aNil, aCons, eAnd, eOr, eNot, bOf, bNot, bAnd, bOr, bTru, dTru, bYes, eIf, eCall0, eCall, eChain, eSl, oNone, oSome, dSl, dAdd, dSub, dMod, dDiv, dNeg, dLt, dLtU, dLe, dGt, dGe, dIs, dIx, dIxI, d1, dLen1, dTup, dLst, dListOf, dListW, dTupOf, dIntOf, dIsi, isScr, tyName, scrOf, pName, pTup, psCons, psNil, Res.bind, noExc, ofOpt, patOut, loopOut, wipeR, lcTurn, eNL, noList, noListAll, eFlat, flatL, wSeq, wRange1, wRange2, wEnum, wRev, eRow]) hw
  have n3 := sAsg_nm (i := 3) e3
  have n4 : sAsg (pName 4) (eCall F_shown (aCons (eVar 3) aNil)) [.p (scr ns), .p (eWeb w), .p (.str (webText w)), .p (eWeb w), .no, .no, .no, .no, .no] = .nx [.p (scr ns), .p (eWeb w), .p (.str (webText w)), .p (eWeb w), .p (.str (webText w)), .no, .no, .no, .no] := sAsg_nm (by simp [fnP, fnO, ins, retP, retO, sSeq, sIf, sAsg, sRet, sRetO, sSkip, sRetN, sRaise, sDrop, rOut, eOp, eUn, eVar, eC, rget, eArgs, aNil, aCons, eAnd, eOr, eNot, bOf, bNot, bAnd, bOr, bTru, dTru, bYes, eIf, eCall0, eCall, eChain, eSl, oNone, oSome, dSl, dAdd, dSub, dMod, dDiv, dNeg, dLt, dLtU, dLe, dGt, dGe, dIs, dIx, dIxI, d1, dLen1, dTup, dLst, dListOf, dListW, dTupOf, dIntOf, dIsi, isScr, tyName, scrOf, pName, pTup, psCons, psNil, Res.bind, noExc, ofOpt, patOut, loopOut, wipeR, lcTurn, eNL, noList, noListAll, eFlat, flatL, wSeq, wRange1, wRange2, wEnum, wRev, sh])
  have n5 : (bOr (bNot (bTru (eUn (dIsi "str") (eVar 4)))) (bOr (bOf (eOp dNe (eVar 4) (eVar 2))) (bOr (bOf (eOp dNe (eVar 3) (eVar 1))) (bNot (bTru (eCall0 F__law_same (aCons (eCall0 F__law_read (aCons (eVar 2) aNil)) (aCons (eVar 1) aNil)))))))) [.p (scr ns), .p (eWeb w), .p (.str (webText w)), .p (eWeb w), .p (.str (webText w)), .no, .no, .no, .no] = .ok false := by
    have lr' : F__law_read [.str (webText w)] = .ok (eWeb w) := lr
    simp [fnP, fnO, ins, retP, retO, sSeq, sIf, sAsg, sRet, sRetO, sSkip, sRetN, sRaise, sDrop, rOut, eOp, eUn, eVar, eC, rget, eArgs, aNil, aCons, eAnd, eOr, eNot, bOf, bNot, bAnd, bOr, bTru, dTru, bYes, eIf, eCall0, eCall, eChain, eSl, oNone, oSome, dSl, dAdd, dSub, dMod, dDiv, dNeg, dLt, dLtU, dLe, dGt, dGe, dIs, dIx, dIxI, d1, dLen1, dTup, dLst, dListOf, dListW, dTupOf, dIntOf, dIsi, isScr, tyName, scrOf, pName, pTup, psCons, psNil, Res.bind, noExc, ofOpt, patOut, loopOut, wipeR, lcTurn, eNL, noList, noListAll, eFlat, flatL, wSeq, wRange1, wRange2, wEnum, wRev, kb_NoneType_int, kb_NoneType_bool, kb_NoneType_str, kb_NoneType_list, kb_NoneType_tuple, kb_bool_int, kb_bool_bool, kb_bool_str, kb_bool_list, kb_bool_tuple, kb_int_int, kb_int_bool, kb_int_str, kb_int_list, kb_int_tuple, kb_str_int, kb_str_bool, kb_str_str, kb_str_list, kb_str_tuple, kb_list_int, kb_list_bool, kb_list_str, kb_list_list, kb_list_tuple, kb_tuple_int, kb_tuple_bool, kb_tuple_str, kb_tuple_list, kb_tuple_tuple, kb_dict_int, kb_dict_bool, kb_dict_str, kb_dict_list, kb_dict_tuple, dt, dw, lr', sm]
  have n6 : sAsg (pName 5) (eCall0 F__law_cell_at (aCons (eVar 0) (aCons (eC (.int 1)) aNil))) [.p (scr ns), .p (eWeb w), .p (.str (webText w)), .p (eWeb w), .p (.str (webText w)), .no, .no, .no, .no] = .nx [.p (scr ns), .p (eWeb w), .p (.str (webText w)), .p (eWeb w), .p (.str (webText w)), .p (.int c), .no, .no, .no] := sAsg_nm (by simp [fnP, fnO, ins, retP, retO, sSeq, sIf, sAsg, sRet, sRetO, sSkip, sRetN, sRaise, sDrop, rOut, eOp, eUn, eVar, eC, rget, eArgs, aNil, aCons, eAnd, eOr, eNot, bOf, bNot, bAnd, bOr, bTru, dTru, bYes, eIf, eCall0, eCall, eChain, eSl, oNone, oSome, dSl, dAdd, dSub, dMod, dDiv, dNeg, dLt, dLtU, dLe, dGt, dGe, dIs, dIx, dIxI, d1, dLen1, dTup, dLst, dListOf, dListW, dTupOf, dIntOf, dIsi, isScr, tyName, scrOf, pName, pTup, psCons, psNil, Res.bind, noExc, ofOpt, patOut, loopOut, wipeR, lcTurn, eNL, noList, noListAll, eFlat, flatL, wSeq, wRange1, wRange2, wEnum, wRev, c1'])
  show retP (b_law [.p (scr ns), .no, .no, .no, .no, .no, .no, .no, .no]) = _
  unfold b_law
  rw [sSeq_nx n1, sSeq_nx n2, sSeq_nx n3]
  show retP (sSeq _ _ [.p (scr ns), .p (eWeb w), .p (.str (webText w)), .p (eWeb w), .no, .no, .no, .no, .no]) = _
  rw [sSeq_nx n4, sSeq_nx (sIf_skip n5), sSeq_nx n6]
  obtain ⟨k, hk, k4⟩ := nat_of c 4 (by decide)
  have hk' : c.fmod 4 = (k : Int) := hk
  have q3 : ∀ T : D, bOf (eOp dEq (eOp dMod (eVar 5) (eC (.int 4))) (eC (.int 3))) [.p (scr ns), .p (eWeb w), .p T, .p (eWeb w), .p (.str (webText w)), .p (.int c), .no, .no, .no] = .ok (decide (k = 3)) := fun T => by
    by_cases z : k = 3
    · subst z
      simp [fnP, fnO, ins, retP, retO, sSeq, sIf, sAsg, sRet, sRetO, sSkip, sRetN, sRaise, sDrop, rOut, eOp, eUn, eVar, eC, rget, eArgs, aNil, aCons, eAnd, eOr, eNot, bOf, bNot, bAnd, bOr, bTru, dTru, bYes, eIf, eCall0, eCall, eChain, eSl, oNone, oSome, dSl, dAdd, dSub, dMod, dDiv, dNeg, dLt, dLtU, dLe, dGt, dGe, dIs, dIx, dIxI, d1, dLen1, dTup, dLst, dListOf, dListW, dTupOf, dIntOf, dIsi, isScr, tyName, scrOf, pName, pTup, psCons, psNil, Res.bind, noExc, ofOpt, patOut, loopOut, wipeR, lcTurn, eNL, noList, noListAll, eFlat, flatL, wSeq, wRange1, wRange2, wEnum, wRev, dEq_int, hk']
    · have z2 : ¬ ((k : Int) = 3) := by omega
      simp [fnP, fnO, ins, retP, retO, sSeq, sIf, sAsg, sRet, sRetO, sSkip, sRetN, sRaise, sDrop, rOut, eOp, eUn, eVar, eC, rget, eArgs, aNil, aCons, eAnd, eOr, eNot, bOf, bNot, bAnd, bOr, bTru, dTru, bYes, eIf, eCall0, eCall, eChain, eSl, oNone, oSome, dSl, dAdd, dSub, dMod, dDiv, dNeg, dLt, dLtU, dLe, dGt, dGe, dIs, dIx, dIxI, d1, dLen1, dTup, dLst, dListOf, dListW, dTupOf, dIntOf, dIsi, isScr, tyName, scrOf, pName, pTup, psCons, psNil, Res.bind, noExc, ofOpt, patOut, loopOut, wipeR, lcTurn, eNL, noList, noListAll, eFlat, flatL, wSeq, wRange1, wRange2, wEnum, wRev, dEq_int, hk', z, z2]
  have q2 : ∀ T : D, bOf (eOp dEq (eOp dMod (eVar 5) (eC (.int 4))) (eC (.int 2))) [.p (scr ns), .p (eWeb w), .p T, .p (eWeb w), .p (.str (webText w)), .p (.int c), .no, .no, .no] = .ok (decide (k = 2)) := fun T => by
    by_cases z : k = 2
    · subst z
      simp [fnP, fnO, ins, retP, retO, sSeq, sIf, sAsg, sRet, sRetO, sSkip, sRetN, sRaise, sDrop, rOut, eOp, eUn, eVar, eC, rget, eArgs, aNil, aCons, eAnd, eOr, eNot, bOf, bNot, bAnd, bOr, bTru, dTru, bYes, eIf, eCall0, eCall, eChain, eSl, oNone, oSome, dSl, dAdd, dSub, dMod, dDiv, dNeg, dLt, dLtU, dLe, dGt, dGe, dIs, dIx, dIxI, d1, dLen1, dTup, dLst, dListOf, dListW, dTupOf, dIntOf, dIsi, isScr, tyName, scrOf, pName, pTup, psCons, psNil, Res.bind, noExc, ofOpt, patOut, loopOut, wipeR, lcTurn, eNL, noList, noListAll, eFlat, flatL, wSeq, wRange1, wRange2, wEnum, wRev, dEq_int, hk']
    · have z2 : ¬ ((k : Int) = 2) := by omega
      simp [fnP, fnO, ins, retP, retO, sSeq, sIf, sAsg, sRet, sRetO, sSkip, sRetN, sRaise, sDrop, rOut, eOp, eUn, eVar, eC, rget, eArgs, aNil, aCons, eAnd, eOr, eNot, bOf, bNot, bAnd, bOr, bTru, dTru, bYes, eIf, eCall0, eCall, eChain, eSl, oNone, oSome, dSl, dAdd, dSub, dMod, dDiv, dNeg, dLt, dLtU, dLe, dGt, dGe, dIs, dIx, dIxI, d1, dLen1, dTup, dLst, dListOf, dListW, dTupOf, dIntOf, dIsi, isScr, tyName, scrOf, pName, pTup, psCons, psNil, Res.bind, noExc, ofOpt, patOut, loopOut, wipeR, lcTurn, eNL, noList, noListAll, eFlat, flatL, wSeq, wRange1, wRange2, wEnum, wRev, dEq_int, hk', z, z2]
  have q1 : ∀ T : D, bOf (eOp dEq (eOp dMod (eVar 5) (eC (.int 4))) (eC (.int 1))) [.p (scr ns), .p (eWeb w), .p T, .p (eWeb w), .p (.str (webText w)), .p (.int c), .no, .no, .no] = .ok (decide (k = 1)) := fun T => by
    by_cases z : k = 1
    · subst z
      simp [fnP, fnO, ins, retP, retO, sSeq, sIf, sAsg, sRet, sRetO, sSkip, sRetN, sRaise, sDrop, rOut, eOp, eUn, eVar, eC, rget, eArgs, aNil, aCons, eAnd, eOr, eNot, bOf, bNot, bAnd, bOr, bTru, dTru, bYes, eIf, eCall0, eCall, eChain, eSl, oNone, oSome, dSl, dAdd, dSub, dMod, dDiv, dNeg, dLt, dLtU, dLe, dGt, dGe, dIs, dIx, dIxI, d1, dLen1, dTup, dLst, dListOf, dListW, dTupOf, dIntOf, dIsi, isScr, tyName, scrOf, pName, pTup, psCons, psNil, Res.bind, noExc, ofOpt, patOut, loopOut, wipeR, lcTurn, eNL, noList, noListAll, eFlat, flatL, wSeq, wRange1, wRange2, wEnum, wRev, dEq_int, hk']
    · have z2 : ¬ ((k : Int) = 1) := by omega
      simp [fnP, fnO, ins, retP, retO, sSeq, sIf, sAsg, sRet, sRetO, sSkip, sRetN, sRaise, sDrop, rOut, eOp, eUn, eVar, eC, rget, eArgs, aNil, aCons, eAnd, eOr, eNot, bOf, bNot, bAnd, bOr, bTru, dTru, bYes, eIf, eCall0, eCall, eChain, eSl, oNone, oSome, dSl, dAdd, dSub, dMod, dDiv, dNeg, dLt, dLtU, dLe, dGt, dGe, dIs, dIx, dIxI, d1, dLen1, dTup, dLst, dListOf, dListW, dTupOf, dIntOf, dIsi, isScr, tyName, scrOf, pName, pTup, psCons, psNil, Res.bind, noExc, ofOpt, patOut, loopOut, wipeR, lcTurn, eNL, noList, noListAll, eFlat, flatL, wSeq, wRange1, wRange2, wEnum, wRev, dEq_int, hk', z, z2]
  by_cases k3 : k = 3
  · have c3 := q3 (.str (webText w))
    rw [decide_eq_true k3] at c3
    obtain ⟨j, hj, j4⟩ := nat_of (c.fdiv 4) 4 (by decide)
    have hj' : (c.fdiv 4).fmod 4 = (j : Int) := hj
    have no : ∀ d ∈ [PyData.none, .int 5, .list [.str "get 0"], .bool true], F__law_read [d] = .ok .none := fun d hd => by
      simp only [List.mem_cons, List.not_mem_nil, or_false] at hd
      rcases hd with rfl | rfl | rfl | rfl <;> exact law_read_no (by simp [fnP, fnO, ins, retP, retO, sSeq, sIf, sAsg, sRet, sRetO, sSkip, sRetN, sRaise, sDrop, rOut, eOp, eUn, eVar, eC, rget, eArgs, aNil, aCons, eAnd, eOr, eNot, bOf, bNot, bAnd, bOr, bTru, dTru, bYes, eIf, eCall0, eCall, eChain, eSl, oNone, oSome, dSl, dAdd, dSub, dMod, dDiv, dNeg, dLt, dLtU, dLe, dGt, dGe, dIs, dIx, dIxI, d1, dLen1, dTup, dLst, dListOf, dListW, dTupOf, dIntOf, dIsi, isScr, tyName, scrOf, pName, pTup, psCons, psNil, Res.bind, noExc, ofOpt, patOut, loopOut, wipeR, lcTurn, eNL, noList, noListAll, eFlat, flatL, wSeq, wRange1, wRange2, wEnum, wRev, kb_NoneType_int, kb_NoneType_bool, kb_NoneType_str, kb_NoneType_list, kb_NoneType_tuple, kb_bool_int, kb_bool_bool, kb_bool_str, kb_bool_list, kb_bool_tuple, kb_int_int, kb_int_bool, kb_int_str, kb_int_list, kb_int_tuple, kb_str_int, kb_str_bool, kb_str_str, kb_str_list, kb_str_tuple, kb_list_int, kb_list_bool, kb_list_str, kb_list_list, kb_list_tuple, kb_tuple_int, kb_tuple_bool, kb_tuple_str, kb_tuple_list, kb_tuple_tuple, kb_dict_int, kb_dict_bool, kb_dict_str, kb_dict_list, kb_dict_tuple])
    have jl : j < [PyData.none, .int 5, .list [.str "get 0"], .bool true].length := j4
    have at_ := atN (List.getElem?_eq_getElem jl)
    have no' := no _ (List.getElem_mem jl)
    generalize [PyData.none, .int 5, .list [.str "get 0"], .bool true][j] = d at at_ no'
    rw [sSeq_ret ((sIf_t c3).trans (sRet_ok (d := .bool true) (by simp [fnP, fnO, ins, retP, retO, sSeq, sIf, sAsg, sRet, sRetO, sSkip, sRetN, sRaise, sDrop, rOut, eOp, eUn, eVar, eC, rget, eArgs, aNil, aCons, eAnd, eOr, eNot, bOf, bNot, bAnd, bOr, bTru, dTru, bYes, eIf, eCall0, eCall, eChain, eSl, oNone, oSome, dSl, dAdd, dSub, dMod, dDiv, dNeg, dLt, dLtU, dLe, dGt, dGe, dIs, dIx, dIxI, d1, dLen1, dTup, dLst, dListOf, dListW, dTupOf, dIntOf, dIsi, isScr, tyName, scrOf, pName, pTup, psCons, psNil, Res.bind, noExc, ofOpt, patOut, loopOut, wipeR, lcTurn, eNL, noList, noListAll, eFlat, flatL, wSeq, wRange1, wRange2, wEnum, wRev, bigv, hj', at_, no', dIsN, isNonD])))]
    rfl
  · have c3 := q3 (.str (webText w))
    rw [decide_eq_false k3] at c3
    rw [sSeq_nx (sIf_skip c3)]
    obtain ⟨u, su, e7⟩ : ∃ u, Small u ∧ ∀ f : SF, (sSeq (sIf (bOf (eOp dEq (eOp dMod (eVar 5) (eC (.int 4))) (eC (.int 2)))) (sAsg (pName 2) (eCall0 F__law_odd (aCons (eOp dDiv (eVar 5) (eC (.int 4))) aNil))) sSkip) (sSeq (sIf (bOf (eOp dEq (eOp dMod (eVar 5) (eC (.int 4))) (eC (.int 1)))) (sAsg (pName 2) (eCall0 F__law_changed (aCons (eVar 2) (aCons (eOp dDiv (eVar 5) (eC (.int 4))) aNil)))) sSkip) f)) [.p (scr ns), .p (eWeb w), .p (.str (webText w)), .p (eWeb w), .p (.str (webText w)), .p (.int c), .no, .no, .no] = f [.p (scr ns), .p (eWeb w), .p (.str u), .p (eWeb w), .p (.str (webText w)), .p (.int c), .no, .no, .no] := by
      by_cases k2 : k = 2
      · have c2 := q2 (.str (webText w))
        rw [decide_eq_true k2] at c2
        obtain ⟨u, eu, su⟩ := odd_ok (c.fdiv 4)
        have c1 := q1 (.str u)
        rw [decide_eq_false (by omega)] at c1
        refine ⟨u, su, fun f => ?_⟩
        rw [sSeq_nx ((sIf_t c2).trans (sAsg_nm (d := .str u) (by simp [fnP, fnO, ins, retP, retO, sSeq, sIf, sAsg, sRet, sRetO, sSkip, sRetN, sRaise, sDrop, rOut, eOp, eUn, eVar, eC, rget, eArgs, aNil, aCons, eAnd, eOr, eNot, bOf, bNot, bAnd, bOr, bTru, dTru, bYes, eIf, eCall0, eCall, eChain, eSl, oNone, oSome, dSl, dAdd, dSub, dMod, dDiv, dNeg, dLt, dLtU, dLe, dGt, dGe, dIs, dIx, dIxI, d1, dLen1, dTup, dLst, dListOf, dListW, dTupOf, dIntOf, dIsi, isScr, tyName, scrOf, pName, pTup, psCons, psNil, Res.bind, noExc, ofOpt, patOut, loopOut, wipeR, lcTurn, eNL, noList, noListAll, eFlat, flatL, wSeq, wRange1, wRange2, wEnum, wRev, eu])))]
        exact sSeq_nx (sIf_skip c1)
      · have c2 := q2 (.str (webText w))
        rw [decide_eq_false k2] at c2
        by_cases k1 : k = 1
        · have c1 := q1 (.str (webText w))
          rw [decide_eq_true k1] at c1
          obtain ⟨u, eu, su⟩ := changed_ok tf tl8 (c.fdiv 4)
          refine ⟨u, su, fun f => ?_⟩
          rw [sSeq_nx (sIf_skip c2), sSeq_nx ((sIf_t c1).trans (sAsg_nm (d := .str u) (by simp [fnP, fnO, ins, retP, retO, sSeq, sIf, sAsg, sRet, sRetO, sSkip, sRetN, sRaise, sDrop, rOut, eOp, eUn, eVar, eC, rget, eArgs, aNil, aCons, eAnd, eOr, eNot, bOf, bNot, bAnd, bOr, bTru, dTru, bYes, eIf, eCall0, eCall, eChain, eSl, oNone, oSome, dSl, dAdd, dSub, dMod, dDiv, dNeg, dLt, dLtU, dLe, dGt, dGe, dIs, dIx, dIxI, d1, dLen1, dTup, dLst, dListOf, dListW, dTupOf, dIntOf, dIsi, isScr, tyName, scrOf, pName, pTup, psCons, psNil, Res.bind, noExc, ofOpt, patOut, loopOut, wipeR, lcTurn, eNL, noList, noListAll, eFlat, flatL, wSeq, wRange1, wRange2, wEnum, wRev, eu])))]
          rfl
        · have c1 := q1 (.str (webText w))
          rw [decide_eq_false k1] at c1
          exact ⟨webText w, ⟨tf, by omega⟩, fun f => by rw [sSeq_nx (sIf_skip c2), sSeq_nx (sIf_skip c1)]⟩
    rw [e7]
    have du := due_ok su
    have rd := law_read_ok su
    rw [sSeq_nx (sAsg_nm (d := oW (parseW u)) (by simp [fnP, fnO, ins, retP, retO, sSeq, sIf, sAsg, sRet, sRetO, sSkip, sRetN, sRaise, sDrop, rOut, eOp, eUn, eVar, eC, rget, eArgs, aNil, aCons, eAnd, eOr, eNot, bOf, bNot, bAnd, bOr, bTru, dTru, bYes, eIf, eCall0, eCall, eChain, eSl, oNone, oSome, dSl, dAdd, dSub, dMod, dDiv, dNeg, dLt, dLtU, dLe, dGt, dGe, dIs, dIx, dIxI, d1, dLen1, dTup, dLst, dListOf, dListW, dTupOf, dIntOf, dIsi, isScr, tyName, scrOf, pName, pTup, psCons, psNil, Res.bind, noExc, ofOpt, patOut, loopOut, wipeR, lcTurn, eNL, noList, noListAll, eFlat, flatL, wSeq, wRange1, wRange2, wEnum, wRev, du]))]
    show retP (sSeq _ _ [.p (scr ns), .p (eWeb w), .p (.str u), .p (eWeb w), .p (.str (webText w)), .p (.int c), .p (oW (parseW u)), .no, .no]) = _
    rw [sSeq_nx (sAsg_nm (d := oW (parseW u)) (by simp [fnP, fnO, ins, retP, retO, sSeq, sIf, sAsg, sRet, sRetO, sSkip, sRetN, sRaise, sDrop, rOut, eOp, eUn, eVar, eC, rget, eArgs, aNil, aCons, eAnd, eOr, eNot, bOf, bNot, bAnd, bOr, bTru, dTru, bYes, eIf, eCall0, eCall, eChain, eSl, oNone, oSome, dSl, dAdd, dSub, dMod, dDiv, dNeg, dLt, dLtU, dLe, dGt, dGe, dIs, dIx, dIxI, d1, dLen1, dTup, dLst, dListOf, dListW, dTupOf, dIntOf, dIsi, isScr, tyName, scrOf, pName, pTup, psCons, psNil, Res.bind, noExc, ofOpt, patOut, loopOut, wipeR, lcTurn, eNL, noList, noListAll, eFlat, flatL, wSeq, wRange1, wRange2, wEnum, wRev, rd]))]
    show retP (sSeq _ _ [.p (scr ns), .p (eWeb w), .p (.str u), .p (eWeb w), .p (.str (webText w)), .p (.int c), .p (oW (parseW u)), .p (oW (parseW u)), .no]) = _
    cases pw : parseW u with
    | none =>
      rw [sSeq_ret ((sIf_t (by simp [fnP, fnO, ins, retP, retO, sSeq, sIf, sAsg, sRet, sRetO, sSkip, sRetN, sRaise, sDrop, rOut, eOp, eUn, eVar, eC, rget, eArgs, aNil, aCons, eAnd, eOr, eNot, bOf, bNot, bAnd, bOr, bTru, dTru, bYes, eIf, eCall0, eCall, eChain, eSl, oNone, oSome, dSl, dAdd, dSub, dMod, dDiv, dNeg, dLt, dLtU, dLe, dGt, dGe, dIs, dIx, dIxI, d1, dLen1, dTup, dLst, dListOf, dListW, dTupOf, dIntOf, dIsi, isScr, tyName, scrOf, pName, pTup, psCons, psNil, Res.bind, noExc, ofOpt, patOut, loopOut, wipeR, lcTurn, eNL, noList, noListAll, eFlat, flatL, wSeq, wRange1, wRange2, wEnum, wRev, oW, dIsN, isNonD])).trans (sRet_ok (d := .bool true) (by simp [fnP, fnO, ins, retP, retO, sSeq, sIf, sAsg, sRet, sRetO, sSkip, sRetN, sRaise, sDrop, rOut, eOp, eUn, eVar, eC, rget, eArgs, aNil, aCons, eAnd, eOr, eNot, bOf, bNot, bAnd, bOr, bTru, dTru, bYes, eIf, eCall0, eCall, eChain, eSl, oNone, oSome, dSl, dAdd, dSub, dMod, dDiv, dNeg, dLt, dLtU, dLe, dGt, dGe, dIs, dIx, dIxI, d1, dLen1, dTup, dLst, dListOf, dListW, dTupOf, dIntOf, dIsi, isScr, tyName, scrOf, pName, pTup, psCons, psNil, Res.bind, noExc, ofOpt, patOut, loopOut, wipeR, lcTurn, eNL, noList, noListAll, eFlat, flatL, wSeq, wRange1, wRange2, wEnum, wRev, oW, dIsN, isNonD])))]
      rfl
    | some v =>
      have sv := same_ok v
      rw [sSeq_nx (sIf_skip (show bOf (eOp dIsN (eVar 6) (eC .none)) _ = .ok false from rfl)), sRet_ok (d := .bool true) (by simp [fnP, fnO, ins, retP, retO, sSeq, sIf, sAsg, sRet, sRetO, sSkip, sRetN, sRaise, sDrop, rOut, eOp, eUn, eVar, eC, rget, eArgs, aNil, aCons, eAnd, eOr, eNot, bOf, bNot, bAnd, bOr, bTru, dTru, bYes, eIf, eCall0, eCall, eChain, eSl, oNone, oSome, dSl, dAdd, dSub, dMod, dDiv, dNeg, dLt, dLtU, dLe, dGt, dGe, dIs, dIx, dIxI, d1, dLen1, dTup, dLst, dListOf, dListW, dTupOf, dIntOf, dIsi, isScr, tyName, scrOf, pName, pTup, psCons, psNil, Res.bind, noExc, ofOpt, patOut, loopOut, wipeR, lcTurn, eNL, noList, noListAll, eFlat, flatL, wSeq, wRange1, wRange2, wEnum, wRev, oW, sv])]
      rfl
end K12

set_option Elab.async false
set_option linter.all false
set_option maxRecDepth 100000
open PySem PySem.W PySem.Calls PyProof.Rows
set_option maxRecDepth 100000 in
set_option maxHeartbeats 0 in
theorem PySem.Challenge.cw_fencewright_k12_written_and_read_holds : PySem.Challenge.rw_fencewright_k12_written_and_read.Holds := by
  w_on; o_law
  refine HandSHeadRun.head_any (r := OpenLaw.row PySem.Challenge.rw_fencewright_k12_written_and_read) (q := view (OpenLaw.row PySem.Challenge.rw_fencewright_k12_written_and_read).prog [45]) (H := K12.hk) (ob := K12.ob) (M := 8000) (loose := K12.looseL) (d := HandSHeadRun.topDef (OpenLaw.row PySem.Challenge.rw_fencewright_k12_written_and_read).prog 45) (kwd := []) K12.ob_eq
    (by kernel_rfl) (fun s => by kernel_rfl) K12.run (by kernel_rfl) (by kernel_rfl) (by kernel_rfl) (by rfl) (by first | assumption | decide +kernel) (by decide +kernel)
    ⟨rfl, rfl, rfl, rfl, rfl, by decide +kernel⟩ ?hw ?hc
  case hw => w_witness2
  case hc =>
    refine Fw.walk_ofEB (l := PySem.Challenge.rw_fencewright_k12_written_and_read) (n := 63) (k := 8) (x := "_law_script") (CX := fun w => L2.CX PySem.Challenge.rw_fencewright_k12_written_and_read.prog w) rfl (by decide) (by kernel_rfl) ⟨rfl, by decide, by decide⟩ ?F (fun _ _ _ _ _ ⟨_, _, _, _, _, _, _, _, _, _, _, _, z⟩ => z)
    intro w mg fa h Y G hmg0
    obtain ⟨K, KX, c⟩ := Y
    obtain ⟨T⟩ := K12.facts (K := ⟨K, w, He.ga K⟩) KX G rfl c
    have hmg : mg ("law" : PySem.Str) = some (.ref fa) := by
      have e : (HandSHeadRun.topDef (OpenLaw.row PySem.Challenge.rw_fencewright_k12_written_and_read).prog 45).name = ("law" : PySem.Str) := by kernel_rfl
      rw [← e]
      exact hmg0
    have e := hmg.symm.trans T.g_law
    cases e
    refine ⟨K, T.fd_law, _, KX, (by
      obtain ⟨oc, od, kV, doc, pm, an, cdv, ct, osl, e, _⟩ := T.F_law.ex
      intro s u
      rw [e]
      exact .of_eq rfl), fun H a ns hl hb hS => ?_, fun base _ _ => K12.ok_law T⟩
    exact ⟨H, [Fw.scr ns], L2.Same.refl _, .cons (.scr hS) .nil, by rw [K12.law_true ns hl hb]; intro v G' H' n r; cases r; rfl⟩

