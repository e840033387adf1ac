import PyProof.Rows.All
import Wide.All
import OpenK.AllK
import Wide.FinOn
import PyProof.EqAt
import PyProof.EqKinds
import PyProof.TupleCall
import KE.BitLaws
import PyProof.ReprBulk
import PyProof.DictCompW
import KE.KSortTupG
import KE.KDictSum
import PyProof.Rows.CallKwBuiltin
import KE.KMinBuiltin
import PyProof.DictWalks
import PyProof.StationsW
import PyProof.NsDelKeeps
import PyProof.ExcInit
import PyProof.ExcBaseAll.ValueError
import PyProof.InstStoreFacts
import PyProof.ExcArgsOwn
import PyProof.FString
import PyProof.ListMulRoad
import PyProof.FactsAll.tuple_2
import PySem.Challenge.RW_farend_k48_small_weavings_refused
set_option Elab.async false
set_option linter.all false
set_option maxRecDepth 100000
namespace L2
open PySem PySem.Spec PyProof.Rows
abbrev Key := Sum Int Str
def keyIs : Key → Value → Bool
  | .inl k, v => Value.isInt k v
  | .inr x, v => Value.isStrOf x v
def keyH (w : World) : Key → Int
  | .inl k => hashInt k
  | .inr x => hashStr w x
theorem keyIs_shape : ∀ {k : Key} {v : Value}, keyIs k v = true → (∃ i t, k = Sum.inl i ∧ v = Value.int i t) ∨ (∃ x t, k = Sum.inr x ∧ v = Value.str x t)
  | .inl i, v, h => by
    obtain ⟨t, e⟩ := Value.isInt_shape (k := i) (v := v) h
    exact .inl ⟨i, t, rfl, e⟩
  | .inr x, v, h => by
    obtain ⟨t, e⟩ := Value.isStrOf_shape (x := x) (v := v) h
    exact .inr ⟨x, t, rfl, e⟩
theorem key_ll (a b : Int) : decide ((Sum.inl a : Key) = Sum.inl b) = (a == b) := by
  by_cases e : a = b
  · subst e; simp
  · have h : ¬ (Sum.inl a : Key) = Sum.inl b := fun q => e (Sum.inl.inj q)
    rw [decide_eq_false h]
    exact (beq_eq_false_iff_ne.mpr e).symm
theorem key_rr (a b : Str) : decide ((Sum.inr a : Key) = Sum.inr b) = decide (a = b) := by
  by_cases e : a = b
  · subst e; simp
  · have h : ¬ (Sum.inr a : Key) = Sum.inr b := fun q => e (Sum.inr.inj q)
    rw [decide_eq_false h, decide_eq_false e]
theorem key_lr (a : Int) (b : Str) : decide ((Sum.inl a : Key) = Sum.inr b) = false := decide_eq_false (fun q => nomatch q)
theorem key_rl (a : Str) (b : Int) : decide ((Sum.inr a : Key) = Sum.inl b) = false := decide_eq_false (fun q => nomatch q)
def mixKind (prog : Program) (w : World) : PySem.KeyKind prog w Key where
  is := keyIs
  hash := keyH w
  inj := fun v a b ha hb => by
    rcases keyIs_shape ha with ⟨i, t, rfl, rfl⟩ | ⟨x, t, rfl, rfl⟩
    · rcases keyIs_shape hb with ⟨j, u, rfl, e⟩ | ⟨y, u, rfl, e⟩
      · injection e with e1 _; rw [e1]
      · exact nomatch e
    · rcases keyIs_shape hb with ⟨j, u, rfl, e⟩ | ⟨y, u, rfl, e⟩
      · exact nomatch e
      · injection e with e1 _; rw [e1]
  byValue := fun k v h => by
    rcases keyIs_shape h with ⟨i, t, rfl, rfl⟩ | ⟨x, t, rfl, rfl⟩ <;> rfl
  pyHash := fun hv h => by
    rcases keyIs_shape hv with ⟨i, t, rfl, rfl⟩ | ⟨x, t, rfl, rfl⟩
    · exact wpAny_pyHash_int h
    · exact wpAny_pyHash_str h
  eqBool := fun hu hv h => by
    rcases keyIs_shape hu with ⟨i, t, rfl, rfl⟩ | ⟨x, t, rfl, rfl⟩
    · rcases keyIs_shape hv with ⟨j, u, rfl, rfl⟩ | ⟨y, u, rfl, rfl⟩
      · rw [key_ll] at h; exact wpAny_eqBool_int h
      · rw [key_lr] at h; exact SeqAt.EqAt.int_str i t y u _ _ _ _ h
    · rcases keyIs_shape hv with ⟨j, u, rfl, rfl⟩ | ⟨y, u, rfl, rfl⟩
      · rw [key_rl] at h; exact SeqAt.EqAt.str_int x t j u _ _ _ _ h
      · rw [key_rr] at h; exact wpAny_eqBool_str h
  «strs» := fun k x t v h => by
    rcases keyIs_shape h with ⟨i, u, rfl, e⟩ | ⟨y, u, rfl, e⟩
    · exact nomatch e
    · injection e with e1 _
      subst e1
      cases v <;> rfl
end L2
namespace L2
open PySem PySem.Spec PyProof.Rows
inductive V where
  | non | bl (b : Bool) | int (i : Int) | str (x : Str) | byt (b : Array UInt8) | flt (b : UInt64) | ref (a : Addr) | ty (n : String)
  deriving DecidableEq
def RelV : V → Value → Prop
  | .non, u => u = Value.none
  | .bl b, u => u = Value.bool b
  | .int i, u => ∃ t, u = Value.int i t
  | .str x, u => ∃ t, u = Value.str x t
  | .byt b, u => ∃ t, u = Value.bytes b t
  | .flt b, u => ∃ t, u = Value.float b t
  | .ref a, u => u = Value.ref a
  | .ty n, u => u = Value.type n
abbrev Vals : List V → List Value → Prop := Paired RelV
theorem Vals.length {xs : List V} {us : List Value} (r : Vals xs us) : xs.length = us.length := Paired.length r
theorem Vals.get : ∀ {xs : List V} {us : List Value} {i : Nat} {x : V}, Vals xs us → xs[i]? = some x → ∃ u, us[i]? = some u ∧ RelV x u
  | _, _, _, _, .nil, e => by simp at e
  | _, _, 0, _, .cons r _, e => by simp at e; subst e; exact ⟨_, rfl, r⟩
  | _, _, i + 1, x, .cons _ t, e => by
    obtain ⟨u, h1, h2⟩ := Vals.get (i := i) (x := x) t (by simpa using e)
    exact ⟨u, by simpa using h1, h2⟩
theorem Vals.set {x : V} {u : Value} (r : RelV x u) : ∀ {xs : List V} {us : List Value} (i : Nat), Vals xs us → Vals (xs.set i x) (us.set i u)
  | _, _, _, .nil => .nil
  | _, _, 0, .cons _ t => .cons r t
  | _, _, i + 1, .cons q t => .cons q (Vals.set r i t)
theorem Vals.append : ∀ {xs ys : List V} {us ws : List Value}, Vals xs us → Vals ys ws → Vals (xs ++ ys) (us ++ ws)
  | _, _, _, _, .nil, s => s
  | _, _, _, _, .cons r t, s => .cons r (Vals.append t s)
theorem Vals.take : ∀ {xs : List V} {us : List Value} (n : Nat), Vals xs us → Vals (xs.take n) (us.take n)
  | _, _, 0, _ => .nil
  | _, _, _ + 1, .nil => .nil
  | _, _, n + 1, .cons r t => .cons r (Vals.take n t)
theorem Vals.drop : ∀ {xs : List V} {us : List Value} (n : Nat), Vals xs us → Vals (xs.drop n) (us.drop n)
  | _, _, 0, r => r
  | _, _, _ + 1, .nil => .nil
  | _, _, n + 1, .cons _ t => Vals.drop n t
theorem Vals.none_of : ∀ {xs : List V} {us : List Value} {i : Nat}, Vals xs us → xs[i]? = none → us[i]? = none := fun {xs us i} r e => by
  have h1 := r.length
  have h2 : xs.length ≤ i := List.getElem?_eq_none_iff.mp e
  exact List.getElem?_eq_none_iff.mpr (by omega)
def RelO : Option V → Option Value → Prop
  | some v, some u => RelV v u
  | none, none => True
  | _, _ => False
def KV {κ : Type} : List (κ × V) → List (κ × Value) → Prop := Paired fun (p : κ × V) (q : κ × Value) => p.1 = q.1 ∧ RelV p.2 q.2
def kV : Key → V
  | .inl i => .int i
  | .inr x => .str x
inductive HO where
  | lst (xs : List V)
  | tup (xs : List V)
  | dK (kvs : List (Key × V)) | dT (kvs : List (List Key × V))
  | set (S : Int → Bool) (n : Nat)
  | ins (C dx : Addr) (fs : List (Str × V))
  | own (x : Addr)
  | xd (fs : List (Str × V))
  | met (f x : Addr)
  | rng (lo hi : Int)
  | frz (o : Obj) (u : HO)
  | tbl (ps : Array Value)
  | ext (φ : Heap → Prop)
abbrev Hp := Addr → Option HO
def upd (H : Hp) (a : Addr) (o : HO) : Hp := fun b => if b = a then some o else H b
theorem upd_same {H : Hp} {a : Addr} {o : HO} : upd H a o a = some o := by unfold upd; rw [if_pos rfl]
theorem upd_ne {H : Hp} {a b : Addr} {o : HO} (h : b ≠ a) : upd H a o b = H b := by unfold upd; rw [if_neg h]
theorem ne_of {H : Hp} {a b : Addr} {o u : HO} (h : H a = some o) (h' : H b = some u) (d : o ≠ u) : a ≠ b := by
  intro e; subst e; rw [h] at h'; exact d (Option.some.inj h')
theorem ne_of_none {H : Hp} {a b : Addr} {o : HO} (h : H a = some o) (h' : H b = none) : a ≠ b := by
  intro e; subst e; rw [h] at h'; cases h'
def TupN (h : Heap) (a : Addr) (items : Array Value) : Prop := ∃ o, h.get? a = some o ∧ o.cls = .type "tuple" ∧ o.dict = none ∧ ∃ n, o.data = .seq items n
theorem TupN.tup {h : Heap} {a : Addr} {items : Array Value} (x : TupN h a items) : IsTup h a items := let ⟨o, e, c, _, d⟩ := x; ⟨o, e, c, d⟩
theorem TupN.new (h : Heap) (items : Array Value) : TupN (h.push { cls := .type "tuple", data := .seq items }) h.objs.size items := ⟨_, Heap.get?_push_size _ rfl, rfl, rfl, _, rfl⟩
section
variable (P : Program) (w : World)
def ObjOk (H : Hp) (h : Heap) (a : Addr) : HO → Prop
  | .lst xs => xs.length ≤ sizeLine ∧ ∃ (its : List Value) (n : Nat), Vals xs its ∧ h.get? a = some { cls := .type "list", data := .seq its.toArray n }
  | .tup xs => xs.length ≤ sizeLine ∧ ∃ its : List Value, Vals xs its ∧ TupN h a its.toArray
  | .dK kvs => kvs.length ≤ sizeLine ∧ (a == sysModules) = false ∧ ∃ vs, KV kvs vs ∧ h.DictOf (mixKind P w) a vs
  | .dT kvs => kvs.length ≤ sizeLine ∧ (a == sysModules) = false ∧ ∃ xs : List (List Key × Addr × Value),
      Paired (fun (p : List Key × V) (q : List Key × Addr × Value) => p.1 = q.1 ∧ H q.2.1 = some (.tup (p.1.map kV)) ∧ RelV p.2 q.2.2) kvs xs ∧
      ∃ o es ep, h.get? a = some o ∧ o.ExactDict ∧ o.data = .dict es ep ∧ es.toList = xs.map (entryOfKey (tupleKind (mixKind P w))) ∧ (xs.map (·.1)).Nodup
  | .set S n => h.SetOf (intKind P w) a S n
  | .ins C dx fs => H dx = some (.own a) ∧ fs.length ≤ 1000 ∧ dx ≠ a ∧ h.get? a = some (PySem.W.instObj C dx) ∧
      ∃ mA, h.Ns1 dx mA ∧ (∀ f, RelO (fs.lookup f) (mA f)) ∧ PySem.Within mA (fs.map (·.1))
  | .own _ => ∃ o, h.get? a = some o
  | .xd fs => ∃ mA, h.Ns1 a mA ∧ ∀ f, RelO (fs.lookup f) (mA f)
  | .rng lo hi => ∃ t u v, h.get? a = some { cls := .type "range", data := .fields #[.int lo t, .int hi u, .int 1 v] }
  | .frz o u => h.get? a = some o ∧ ObjOk H h a u
  | .tbl ps => h.get? a = some { cls := .none, data := .fields ps }
  | .met f x => h.get? a = some (PySem.W.methodObj (.ref f) (.ref x))
  | .ext φ => φ h ∧ (∃ o, h.get? a = some o) ∧ ∀ h1 h2 : Heap, φ h1 → (∀ o, h1.get? a = some o → h2.get? a = some o) → φ h2
def HOk (H : Hp) (h : Heap) : Prop := ∀ a o, H a = some o → ObjOk P w H h a o
end
section
variable {P : Program} {w : World} {H H' : Hp} {h h' : Heap} {a : Addr} {o : HO}
theorem ObjOk.lt (x : ObjOk P w H h a o) : a < h.objs.size := by
  cases o with
  | lst xs => obtain ⟨_, _, _, _, e⟩ := x; exact Heap.lt_size e
  | tup xs => obtain ⟨_, _, _, p⟩ := x; exact p.tup.lt
  | dK kvs => obtain ⟨_, _, _, _, o, _, _, e, _⟩ := x; exact Heap.lt_size e
  | dT kvs => obtain ⟨_, _, _, _, o, _, _, e, _⟩ := x; exact Heap.lt_size e
  | set S n => obtain ⟨o, _, _, _, e, _⟩ := x; exact Heap.lt_size e
  | ins C dx fs => obtain ⟨_, _, _, e, _⟩ := x; exact Heap.lt_size e
  | own y => obtain ⟨_, e⟩ := x; exact Heap.lt_size e
  | xd fs => obtain ⟨_, ⟨_, _, _, e, _⟩, _⟩ := x; exact Heap.lt_size e
  | rng lo hi => obtain ⟨_, _, _, e⟩ := x; exact Heap.lt_size e
  | frz ob u => obtain ⟨e, _⟩ := x; exact Heap.lt_size e
  | tbl ps => exact Heap.lt_size (show h.get? a = some _ from x)
  | met f y => exact Heap.lt_size (show h.get? a = some _ from x)
  | ext φ => obtain ⟨_, ⟨_, e⟩, _⟩ := x; exact Heap.lt_size e
theorem Paired.mapP {α β : Type} {F G : α → β → Prop} : ∀ {l₁ : List α} {l₂ : List β}, Paired F l₁ l₂ → (∀ a b, F a b → G a b) → Paired G l₁ l₂
  | _, _, .nil, _ => .nil
  | _, _, .cons r t, f => .cons (f _ _ r) (Paired.mapP t f)
theorem ObjOk.stay (x : ObjOk P w H h a o) (k : ∀ b u, (b = a ∨ H b = some (.own a)) → h.get? b = some u → h'.get? b = some u)
    (ho : ∀ b, H b = some (.own a) → H' b = some (.own a)) (ht : ∀ b xs, H b = some (.tup xs) → H' b = some (.tup xs)) : ObjOk P w H' h' a o := by
  induction o with
  | lst xs => obtain ⟨z, its, n, r, e⟩ := x; exact ⟨z, its, n, r, k _ _ (.inl rfl) e⟩
  | tup xs => obtain ⟨z, its, r, ob, e, c⟩ := x; exact ⟨z, its, r, ob, k _ _ (.inl rfl) e, c⟩
  | dK kvs => obtain ⟨z, y, vs, r, ob, es, ep, e, c⟩ := x; exact ⟨z, y, vs, r, ob, es, ep, k _ _ (.inl rfl) e, c⟩
  | dT kvs =>
    obtain ⟨z, y, xs, r, ob, es, ep, e, c⟩ := x
    exact ⟨z, y, xs, Paired.mapP r fun p q z => ⟨z.1, ht _ _ z.2.1, z.2.2⟩, ob, es, ep, k _ _ (.inl rfl) e, c⟩
  | set S n => obtain ⟨ob, es, ep, t, e, c⟩ := x; exact ⟨ob, es, ep, t, k _ _ (.inl rfl) e, c⟩
  | ins C dx fs =>
    obtain ⟨d, z, ne, e, mA, ⟨od, es, ep, e2, c⟩, r⟩ := x
    exact ⟨ho _ d, z, ne, k _ _ (.inl rfl) e, mA, ⟨od, es, ep, k _ _ (.inr d) e2, c⟩, r⟩
  | own y => obtain ⟨ob, e⟩ := x; exact ⟨ob, k _ _ (.inl rfl) e⟩
  | xd fs => obtain ⟨mA, ⟨od, es, ep, e, c⟩, r⟩ := x; exact ⟨mA, ⟨od, es, ep, k _ _ (.inl rfl) e, c⟩, r⟩
  | rng lo hi => obtain ⟨t, u, v, e⟩ := x; exact ⟨t, u, v, k _ _ (.inl rfl) e⟩
  | frz ob u ih => obtain ⟨e, q⟩ := x; exact ⟨k _ _ (.inl rfl) e, ih q⟩
  | tbl ps =>
    have e : h.get? a = some { cls := .none, data := .fields ps } := x
    show h'.get? a = some { cls := .none, data := .fields ps }
    exact k a _ (.inl rfl) e
  | met f y =>
    have e : h.get? a = some (PySem.W.methodObj (.ref f) (.ref y)) := x
    show h'.get? a = some (PySem.W.methodObj (.ref f) (.ref y))
    exact k a _ (.inl rfl) e
  | ext φ => obtain ⟨p, ⟨o, e⟩, st⟩ := x; exact ⟨st _ _ p fun o q => k _ _ (.inl rfl) q, ⟨o, k _ _ (.inl rfl) e⟩, st⟩
theorem HOk.lt (x : HOk P w H h) (e : H a = some o) : a < h.objs.size := (x a o e).lt
theorem HOk.fresh (x : HOk P w H h) (e : h.objs.size ≤ a) : H a = none := by
  cases q : H a with
  | none => rfl
  | some u => exact absurd (Nat.lt_of_lt_of_le (x.lt q) e) (Nat.lt_irrefl _)
theorem HOk.kept (x : HOk P w H h) (k : ∀ b u, h.get? b = some u → h'.get? b = some u) : HOk P w H h' := fun a o e =>
  (x a o e).stay (fun b u _ q => k b u q) (fun _ q => q) fun _ _ q => q
theorem HOk.laid (x : HOk P w H h) (k : ∀ b u, h.get? b = some u → h'.get? b = some u) (hp : h.objs.size ≤ a) (new : ObjOk P w (upd H a o) h' a o) : HOk P w (upd H a o) h' := fun b u e => by
  have hn := x.fresh hp
  by_cases hb : b = a
  · subst hb; rw [upd_same] at e; cases e; exact new
  · rw [upd_ne hb] at e
    exact (x b u e).stay (fun c v _ q => k c v q) (fun c q => by rw [upd_ne (ne_of_none q hn)]; exact q) fun c xs q => by rw [upd_ne (ne_of_none q hn)]; exact q
end
def Rd (H : Hp) (a : Addr) (u : HO) : Prop := H a = some u ∨ ∃ o, H a = some (.frz o u)
theorem Rd.of {H : Hp} {a : Addr} {u : HO} (h : H a = some u) : Rd H a u := .inl h
theorem Rd.ok {P : Program} {w : World} {H : Hp} {h : Heap} {a : Addr} {u : HO} (r : Rd H a u) (x : HOk P w H h) : ObjOk P w H h a u := by
  rcases r with r | ⟨o, r⟩
  · exact x a u r
  · obtain ⟨_, q⟩ := x a _ r
    exact q
def Mut : Option HO → Prop
  | some (.lst _) => True
  | some (.dK _) => True
  | some (.dT _) => True
  | some (.set _ _) => True
  | some (.ins _ _ _) => True
  | some (.ext _) => True
  | _ => False
section
variable {P : Program} {w : World} {H : Hp} {h h' : Heap} {x e : Addr} {o' : HO}
theorem HOk.write (ok : HOk P w H h) (mu : Mut (H x)) (he : e = x ∨ H e = some (.own x)) (k : ∀ b u, b ≠ e → h.get? b = some u → h'.get? b = some u) (heo : ∃ u, h'.get? e = some u)
    (new : ObjOk P w (upd H x o') h' x o') : HOk P w (upd H x o') h' := fun b u q => by
  have nown : ∀ c y, H c = some (.own y) → c ≠ x := fun c y r z => by subst z; rw [r] at mu; exact mu
  have ntup : ∀ c xs, H c = some (.tup xs) → c ≠ x := fun c xs r z => by subst z; rw [r] at mu; exact mu
  by_cases hb : b = x
  · subst hb; rw [upd_same] at q; cases q; exact new
  · rw [upd_ne hb] at q
    by_cases hbe : b = e
    · have q' : H b = some (.own x) := by
        rcases he with z | z
        · exact absurd (hbe.trans z) hb
        · rw [hbe]; exact z
      rw [q] at q'; cases q'
      obtain ⟨v, hv⟩ := heo
      exact ⟨v, by rw [hbe]; exact hv⟩
    · refine (ok b u q).stay (fun c v hc r => k c v ?_ r) (fun c r => by rw [upd_ne (nown c b r)]; exact r) fun c xs r => by rw [upd_ne (ntup c xs r)]; exact r
      rcases hc with rfl | hc
      · exact hbe
      · rintro rfl
        rcases he with z | z
        · exact nown c b hc z
        · rw [hc] at z; cases z; exact hb rfl
end
structure Un (fs ex : List Addr) (H H' : Hp) (h h' : Heap) : Prop where
  keep : ∀ b o, h.get? b = some o → H b = none → b ∉ fs → b ∉ ex → h'.get? b = some o
  slot : ∀ b o, h.get? b = some o → H b = none → b ∈ fs → b ∉ ex → ∃ sl, h'.get? b = some { o with slots := sl }
  free : ∀ b o, h.get? b = some o → H b = none → b ∉ ex → H' b = none
  there : ∀ b o, h.get? b = some o → b ∉ ex → ∃ o', h'.get? b = some o'
  tups : ∀ b xs, H b = some (.tup xs) → H' b = some (.tup xs)
  frzs : ∀ b o u, H b = some (.frz o u) → H' b = some (.frz o u)
  tbls : ∀ b ps, H b = some (.tbl ps) → ∃ more, H' b = some (.tbl (ps ++ more))
section
variable {fs fs' ex ex' : List Addr} {H H1 H2 : Hp} {h h1 h2 h' : Heap} {a x e : Addr} {o : HO}
theorem Un.any (u : Un fs ex H H1 h h1) {b : Addr} {ob : Obj} (q : h.get? b = some ob) (n : H b = none) (hx : b ∉ ex) : ∃ sl, h1.get? b = some { ob with slots := sl } := by
  by_cases hb : b ∈ fs
  · exact u.slot b ob q n hb hx
  · exact ⟨ob.slots, u.keep b ob q n hb hx⟩
theorem Un.trans (a : Un fs ex H H1 h h1) (b : Un fs ex H1 H2 h1 h2) : Un fs ex H H2 h h2 where
  keep := fun c ob q n hc hx => b.keep c ob (a.keep c ob q n hc hx) (a.free c ob q n hx) hc hx
  slot := fun c ob q n hc hx => by
    obtain ⟨sl, e1⟩ := a.slot c ob q n hc hx
    obtain ⟨sl', e2⟩ := b.slot c _ e1 (a.free c ob q n hx) hc hx
    exact ⟨sl', e2⟩
  free := fun c ob q n hx => by
    obtain ⟨o', e1⟩ := a.there c ob q hx
    exact b.free c o' e1 (a.free c ob q n hx) hx
  there := fun c ob q hx => by
    obtain ⟨o', e1⟩ := a.there c ob q hx
    exact b.there c o' e1 hx
  tups := fun c xs q => b.tups c xs (a.tups c xs q)
  frzs := fun c ob xs q => b.frzs c ob xs (a.frzs c ob xs q)
  tbls := fun c ps q => by
    obtain ⟨m1, e1⟩ := a.tbls c ps q
    obtain ⟨m2, e2⟩ := b.tbls c _ e1
    exact ⟨m1 ++ m2, by rw [e2, Array.append_assoc]⟩
theorem Un.kept (k : ∀ b u, h.get? b = some u → h'.get? b = some u) : Un fs ex H H h h' :=
  ⟨fun b ob q _ _ _ => k b ob q, fun b ob q _ _ _ => ⟨ob.slots, k b ob q⟩, fun _ _ _ n _ => n, fun b ob q _ => ⟨ob, k b ob q⟩, fun _ _ q => q, fun _ _ _ q => q, fun _ ps q => ⟨#[], by rw [q]; simp⟩⟩
theorem Un.refl : Un fs ex H H h h := Un.kept fun _ _ q => q
theorem Un.laid (k : ∀ b u, h.get? b = some u → h'.get? b = some u) (hp : h.objs.size ≤ a) (hn : H a = none) : Un fs ex H (upd H a o) h h' where
  keep := fun b u q _ _ _ => k b u q
  slot := fun b u q _ _ _ => ⟨u.slots, k b u q⟩
  free := fun b u q n _ => by rw [upd_ne (Nat.ne_of_lt (Nat.lt_of_lt_of_le (Heap.lt_size q) hp))]; exact n
  there := fun b u q _ => ⟨u, k b u q⟩
  tups := fun b xs q => by rw [upd_ne (ne_of_none q hn)]; exact q
  frzs := fun b u xs q => by rw [upd_ne (ne_of_none q hn)]; exact q
  tbls := fun b ps q => ⟨#[], by rw [upd_ne (ne_of_none q hn), q]; simp⟩
theorem Un.write (mu : Mut (H x)) (he : e = x ∨ H e = some (.own x)) (k : ∀ b u, b ≠ e → h.get? b = some u → h'.get? b = some u) (heo : ∃ u, h'.get? e = some u) : Un fs ex H (upd H x o) h h' := by
  have hx : ∀ b, H b = none → b ≠ x := fun b n z => by subst z; rw [n] at mu; exact mu
  have hb : ∀ b, H b = none → b ≠ e := fun b n z => by
    subst z
    rcases he with r | r
    · exact hx b n r
    · rw [n] at r; cases r
  have hm : ∀ b u, H b = some u → ¬ Mut (some u) → b ≠ x := fun b u q nm z => by subst z; rw [q] at mu; exact nm mu
  refine ⟨fun b u q n _ _ => k b u (hb b n) q, fun b u q n _ _ => ⟨u.slots, k b u (hb b n) q⟩, fun b u q n _ => by rw [upd_ne (hx b n)]; exact n, fun b u q _ => ?_,
    fun b xs q => by rw [upd_ne (hm b _ q fun z => z)]; exact q, fun b u xs q => by rw [upd_ne (hm b _ q fun z => z)]; exact q, fun b ps q => ⟨#[], by rw [upd_ne (hm b _ q fun z => z), q]; simp⟩⟩
  by_cases hbe : b = e
  · subst hbe; exact heo
  · exact ⟨u, k b u hbe q⟩
theorem Un.mono (u : Un fs ex H H1 h h1) (hs : ∀ b ∈ fs, b ∈ fs') (hx : ∀ b ∈ ex, b ∈ ex') : Un fs' ex' H H1 h h1 :=
  ⟨fun b ob q n hb he => u.keep b ob q n (fun z => hb (hs b z)) fun z => he (hx b z), fun _ _ q n _ he => u.any q n fun z => he (hx _ z), fun b ob q n he => u.free b ob q n fun z => he (hx b z), fun b ob q he => u.there b ob q fun z => he (hx b z), u.tups, u.frzs, u.tbls⟩
end
def trk (h : Heap) (H : Hp) : List Addr := (List.range h.objs.size).filter fun a => (H a).isSome
def hidT (h : Heap) (H : Hp) : Heap := PySem.W.hideAll h (trk h H)
theorem hidT_size (h : Heap) (H : Hp) : (hidT h H).objs.size = h.objs.size := PySem.W.hideAll_size _ _
theorem hidT_get {h : Heap} {H : Hp} {b : Addr} {o : Obj} (e : h.get? b = some o) (n : H b = none) : (hidT h H).get? b = some o :=
  PySem.W.hideAll_get _ e fun hm => by
    have q : (H b).isSome = true := (List.mem_filter.mp hm).2
    rw [n] at q; simp at q
theorem of_hidT {h : Heap} {H : Hp} {b : Addr} {o : Obj} (e : (hidT h H).get? b = some o) : h.get? b = some o ∧ H b = none := by
  have e' : h.get? b = some o := PySem.W.of_hideAll (trk h H) e
  refine ⟨e', ?_⟩
  cases q : H b with
  | none => rfl
  | some x =>
    have hm : b ∈ trk h H := List.mem_filter.mpr ⟨List.mem_range.mpr (Heap.lt_size e'), by simp [q]⟩
    have z : (hidT h H).get? b = none := PySem.W.hideAll_none (trk h H) hm
    rw [z] at e; cases e
def allNews (g h : Heap) (L : Addr) : List (Addr × Obj) := (List.range h.objs.size).filterMap fun a => if a = L ∨ (g.get? a).isSome = true then none else (h.get? a).map fun o => (a, o)
def rest (g h : Heap) (L d : Addr) : List (Addr × Obj) := (allNews g h L).filter fun p => decide (p.1 ≠ d)
end L2
namespace L2
open PySem PySem.Spec PyProof.Rows
structure Mod (K : PySem.W.Frag) (mg : Str → Option Value) (base : Heap) : Prop where
  kin : K.In base
  glob : base.Ns mainGlobals mg
  blt : ∃ mb, base.Ns builtinsNs mb ∧ ∀ x : Str, x ≠ "__name__" → mb x = bootBuiltins x
  nolimit : base.NoLimit
structure Cx where
  prog : Program
  w : World
  K : PySem.W.Frag
  mg : Str → Option Value
  base : Heap
  A : Around
  N : List Str
  s_0 : Shared
  H_0 : Hp
  env : Env
  outer : List Env
  stack : List Env
  ex : List Addr
  fn : Str → Bool
  calm : Bool
  pn : List (Addr × Obj)
  xe : Value → Shared → Prop
def frs (l : List Env) : List Addr := l.filterMap (·.frame)
abbrev Cx.fs (X : Cx) : List Addr := frs X.outer
def Vis (sc : Scope) (x : Str) : Prop := sc.names.lookup x = some .local ∨ sc.names.lookup x = some .cell ∨ sc.names.lookup x = some .free
def Loc (sc : Scope) (x : Str) : Prop := sc.names.lookup x = some .local ∨ sc.names.lookup x = some .cell
def Look (env : Env) (h : Heap) (m : Str → Option Value) (x : Str) (u : Value) : Prop :=
  (env.kindOf x = some .local ∧ m x = some u) ∨ ((env.kindOf x = some .cell ∨ env.kindOf x = some .free) ∧ ∃ c, env.cells.lookup x = some c ∧ h.IsCell c (some u))
structure Cx.Ok (X : Cx) : Prop where
  mod : Mod X.K X.mg X.base
  kind : X.env.scope.kind = .function
  glob : X.env.globals = mainGlobals
  blt : X.env.builtins = builtinsNs
  above : X.s_0.heap.objs.size ≤ X.env.locals
  inj : ∀ x y c, X.env.cells.lookup x = some c → X.env.cells.lookup y = some c → x = y
  has : ∀ x, (X.env.kindOf x = some .cell ∨ X.env.kindOf x = some .free) → ∃ c, X.env.cells.lookup x = some c
  cab : ∀ x c, X.fn x = true → X.env.cells.lookup x = some c → X.s_0.heap.objs.size ≤ c
  hd : X.calm = true → X.A.handled = none
  frames : X.A.frames = some X.stack
  stk : X.stack = X.outer ∨ (X.stack = X.env :: X.outer ∧ X.env.frame = some X.env.locals)
  exf : ∀ b ∈ X.ex, b ≠ X.env.locals ∧ ∀ x c, X.env.cells.lookup x = some c → c ≠ b
  bs : ∀ b o, X.base.get? b = some o → X.s_0.heap.get? b = some o ∧ X.H_0 b = none
  bsz : X.base.objs.size ≤ X.s_0.heap.objs.size
  noex : ∀ b o, X.base.get? b = some o → b ∉ X.ex
  exfs : ∀ b ∈ X.ex, b ∉ X.fs
  funs : X.s_0.heap.FunFrames X.base X.outer
  frf : ∀ b ∈ X.fs, X.H_0 b = none
structure Inv (X : Cx) (pins : List (Addr × Obj)) (σ : List (Option V)) (H : Hp) (s : Shared) : Prop where
  ok : X.Ok
  os : s.os = X.s_0.os
  bare : AllBare s.gens
  base : Un X.fs X.ex X.H_0 H X.s_0.heap s.heap
  loc : ∃ m, s.heap.Ns X.env.locals m ∧ ∀ (i : Nat) (x : Str) (v : V), X.N[i]? = some x → σ[i]? = some (some v) → Vis X.env.scope x → ∃ u, RelV v u ∧ Look X.env s.heap m x u
  cell : ∀ x c, X.env.cells.lookup x = some c → ∃ v, s.heap.IsCell c v
  free : H X.env.locals = none
  freeC : ∀ x c, X.env.cells.lookup x = some c → H c = none
  pin : ∀ p ∈ X.pn ++ pins, s.heap.get? p.1 = some p.2 ∧ H p.1 = none ∧ p.1 ≠ X.env.locals ∧ p.1 ∉ X.fs ∧ ∀ v, p.2.data ≠ .cell v
  hok : HOk X.prog X.w H s.heap
  len : σ.length = X.N.length
section
variable {X : Cx} {pins : List (Addr × Obj)} {σ : List (Option V)} {H H' : Hp} {s : Shared} {h' : Heap}
theorem Cx.Ok.nofr (ok : X.Ok) {b : Addr} {o : Obj} (e : X.base.get? b = some o) : b ∉ X.fs := fun hb => by
  have := (ok.funs.mem hb).1
  rw [e] at this; cases this
theorem Inv.bs (I : Inv X pins σ H s) : ∀ b o, X.base.get? b = some o → s.heap.get? b = some o ∧ H b = none := fun b o e =>
  ⟨I.base.keep b o (I.ok.bs b o e).1 (I.ok.bs b o e).2 (I.ok.nofr e) (I.ok.noex b o e), I.base.free b o (I.ok.bs b o e).1 (I.ok.bs b o e).2 (I.ok.noex b o e)⟩
theorem Inv.bk (I : Inv X pins σ H s) : ∀ b o, X.base.get? b = some o → s.heap.get? b = some o := fun b o e => (I.bs b o e).1
theorem Inv.mod (I : Inv X pins σ H s) : Mod X.K X.mg X.base := I.ok.mod
theorem Inv.kIn (I : Inv X pins σ H s) : X.K.In s.heap := I.ok.mod.kin.keeps I.bk
theorem Inv.nolimit (I : Inv X pins σ H s) : s.heap.NoLimit := I.ok.mod.nolimit.keeps I.bk
theorem Inv.fr (I : Inv X pins σ H s) : ∃ m, Fr X.base X.env.locals s.heap m :=
  let ⟨m, hn, _⟩ := I.loc
  ⟨m, hn, I.bk, Nat.le_trans I.ok.bsz I.ok.above⟩
theorem Inv.lt (I : Inv X pins σ H s) : X.env.locals < s.heap.objs.size := let ⟨_, hn, _⟩ := I.loc; hn.lt
theorem Inv.sz (I : Inv X pins σ H s) : X.s_0.heap.objs.size ≤ s.heap.objs.size := Nat.le_trans I.ok.above (Nat.le_of_lt I.lt)
theorem Inv.nofs (I : Inv X pins σ H s) {a : Addr} (h : s.heap.objs.size ≤ a) : a ∉ X.fs := fun hb => by
  obtain ⟨_, o, ho, _⟩ := I.ok.funs.mem hb
  exact absurd (Nat.lt_of_lt_of_le (Heap.lt_size ho) (Nat.le_trans I.sz h)) (Nat.lt_irrefl _)
theorem Inv.cne (I : Inv X pins σ H s) : ∀ x c, X.env.cells.lookup x = some c → c ≠ X.env.locals := fun x c e z => by
  obtain ⟨v, o, ho, hd⟩ := I.cell x c e
  obtain ⟨m, ⟨o', es, ep, ho', hd', _⟩, _⟩ := I.loc
  rw [z, ho'] at ho; cases ho; rw [hd'] at hd; cases hd
theorem Inv.funs (I : Inv X pins σ H s) : s.heap.FunFrames X.base X.outer := by
  have all : ∀ (l : List Env), (∀ b ∈ frs l, b ∈ X.fs) → X.s_0.heap.FunFrames X.base l → s.heap.FunFrames X.base l := by
    intro l
    induction l with
    | nil => intro _ _; trivial
    | cons env r ih =>
      intro hs hl
      obtain ⟨hk, ⟨L, o, hf, hn, ho, hd⟩, hr⟩ := hl
      have hL : L ∈ X.fs := hs L (by unfold frs; rw [List.filterMap_cons, hf]; exact List.mem_cons_self)
      obtain ⟨sl, e⟩ := I.base.slot L o ho (I.ok.frf L hL) hL fun z => I.ok.exfs L z hL
      exact ⟨hk, ⟨L, _, hf, hn, e, hd⟩, ih (fun b hb => hs b (by unfold frs; rw [List.filterMap_cons, hf]; exact List.mem_cons_of_mem _ hb)) hr⟩
  exact all X.outer (fun _ hb => hb) I.ok.funs
theorem Inv.stack (I : Inv X pins σ H s) : s.heap.FunFrames X.base X.stack := by
  rcases I.ok.stk with e | ⟨e, hf⟩
  · rw [e]; exact I.funs
  · rw [e]
    obtain ⟨m, hn, _⟩ := I.loc
    refine .cons (by rw [I.ok.kind]; decide) hf hn ?_ I.funs
    exact Heap.get?_none_of_le (Nat.le_trans I.ok.bsz I.ok.above)
theorem Inv.stkSub (I : Inv X pins σ H s) : ∀ b ∈ frs X.stack, b ∈ X.env.locals :: X.fs := fun b hb => by
  rcases I.ok.stk with e | ⟨e, hf⟩
  · rw [e] at hb; exact List.mem_cons_of_mem _ hb
  · rw [e] at hb
    unfold frs at hb
    rw [List.filterMap_cons, hf] at hb
    exact hb
theorem Inv.stkFree (I : Inv X pins σ H s) : ∀ b ∈ frs X.stack, H b = none := fun b hb => by
  rcases List.mem_cons.mp (I.stkSub b hb) with e | hb
  · rw [e]; exact I.free
  · obtain ⟨_, o, ho, _⟩ := I.ok.funs.mem hb
    exact I.base.free b o ho (I.ok.frf b hb) fun z => I.ok.exfs b z hb
theorem Inv.step {g' : Array GenState} {t' : Nat} {d' : Drawn} {ch : List Addr} (I : Inv X pins σ H s)
    (hch : ∀ b ∈ ch, (b ∈ X.ex ∨ X.s_0.heap.objs.size ≤ b) ∧ b ≠ X.env.locals ∧ (∀ x c, X.env.cells.lookup x = some c → c ≠ b) ∧ ∀ p ∈ X.pn ++ pins, p.1 ≠ b)
    (keep : ∀ b o, b ≠ X.env.locals → b ∉ X.fs → b ∉ ch → s.heap.get? b = some o → H b = none → h'.get? b = some o)
    (slot : ∀ b o, b ≠ X.env.locals → b ∈ X.fs → b ∉ ch → s.heap.get? b = some o → H b = none → ∃ sl, h'.get? b = some { o with slots := sl }) (free : ∀ b o, b ∉ ch → s.heap.get? b = some o → H b = none → H' b = none)
    (there : ∀ b o, b ∉ ch → s.heap.get? b = some o → ∃ o', h'.get? b = some o')
    (tups : ∀ b xs, H b = some (.tup xs) → H' b = some (.tup xs)) (frzs : ∀ b o u, H b = some (.frz o u) → H' b = some (.frz o u)) (tbls : ∀ b ps, H b = some (.tbl ps) → ∃ more, H' b = some (.tbl (ps ++ more)))
    (ns : ∀ m, s.heap.Ns X.env.locals m → h'.Ns X.env.locals m) (hok : HOk X.prog X.w H' h') (hg : AllBare g') :
    Inv X pins σ H' { s with heap := h', gens := g', drawn := d', toks := t' } := by
  have neL : ∀ b o, X.s_0.heap.get? b = some o → b ≠ X.env.locals := fun b o e => Nat.ne_of_lt (Nat.lt_of_lt_of_le (Heap.lt_size e) I.ok.above)
  have neC : ∀ b o, X.s_0.heap.get? b = some o → b ∉ X.ex → b ∉ ch := fun b o e hx hb => by
    rcases (hch b hb).1 with z | z
    · exact hx z
    · exact absurd (Nat.lt_of_lt_of_le (Heap.lt_size e) z) (Nat.lt_irrefl _)
  have cellK : ∀ x c, X.env.cells.lookup x = some c → ∀ v, s.heap.IsCell c v → h'.IsCell c v := fun x c e v ⟨o, ho, hd⟩ => by
    have nch : c ∉ ch := fun z => (hch c z).2.2.1 x c e rfl
    by_cases hc : c ∈ X.fs
    · obtain ⟨sl, q⟩ := slot c o (I.cne x c e) hc nch ho (I.freeC x c e)
      exact ⟨_, q, hd⟩
    · exact ⟨o, keep c o (I.cne x c e) hc nch ho (I.freeC x c e), hd⟩
  refine ⟨I.ok, I.os, hg, ⟨fun b o e n hb hx => ?_, fun b o e n hb hx => ?_, fun b o e n hx => ?_, fun b o e hx => ?_, fun b xs e => tups b xs (I.base.tups b xs e), fun b o xs e => frzs b o xs (I.base.frzs b o xs e), fun b ps e => ?_⟩, ?_, fun x c e => ?_, ?_, fun x c e => ?_, fun p hp => ?_, hok, I.len⟩
  · exact keep b o (neL b o e) hb (neC b o e hx) (I.base.keep b o e n hb hx) (I.base.free b o e n hx)
  · obtain ⟨sl, e1⟩ := I.base.slot b o e n hb hx
    obtain ⟨sl', e2⟩ := slot b _ (neL b o e) hb (neC b o e hx) e1 (I.base.free b o e n hx)
    exact ⟨sl', e2⟩
  · obtain ⟨o', e1⟩ := I.base.there b o e hx
    exact free b o' (neC b o e hx) e1 (I.base.free b o e n hx)
  · obtain ⟨o', e1⟩ := I.base.there b o e hx
    exact there b o' (neC b o e hx) e1
  · obtain ⟨m1, e1⟩ := I.base.tbls b ps e
    obtain ⟨m2, e2⟩ := tbls b _ e1
    exact ⟨m1 ++ m2, by rw [e2, Array.append_assoc]⟩
  · obtain ⟨m, hn, hl⟩ := I.loc
    refine ⟨m, ns m hn, fun i x v e1 e2 e3 => ?_⟩
    obtain ⟨u, r, l⟩ := hl i x v e1 e2 e3
    refine ⟨u, r, ?_⟩
    rcases l with l | ⟨k, c, e, z⟩
    · exact .inl l
    · exact .inr ⟨k, c, e, cellK x c e _ z⟩
  · obtain ⟨v, z⟩ := I.cell x c e
    exact ⟨v, cellK x c e v z⟩
  · obtain ⟨m, ⟨o, _, _, ho, _⟩, _⟩ := I.loc
    exact free _ o (fun z => (hch _ z).2.1 rfl) ho I.free
  · obtain ⟨v, o, ho, hd⟩ := I.cell x c e
    exact free c o (fun z => (hch c z).2.2.1 x c e rfl) ho (I.freeC x c e)
  · obtain ⟨e, n, ne, nf, d⟩ := I.pin p hp
    have nch : p.1 ∉ ch := fun z => (hch p.1 z).2.2.2 p hp rfl
    exact ⟨keep p.1 p.2 ne nf nch e n, free p.1 p.2 nch e n, ne, nf, d⟩
theorem Inv.un {t' : Nat} (I : Inv X pins σ H s) (u : Un X.fs [] H H' s.heap h') (hok : HOk X.prog X.w H' h') : Inv X pins σ H' { s with heap := h', toks := t' } := by
  obtain ⟨m, ⟨o, es, ep, ho, r⟩, _⟩ := id I.loc
  obtain ⟨sl, hL⟩ := u.any ho I.free (by simp)
  exact I.step (g' := s.gens) (d' := s.drawn) (ch := []) (fun _ z => nomatch z) (fun b o _ hb _ e n => u.keep b o e n hb (by simp)) (fun b o _ hb _ e n => u.slot b o e n hb (by simp)) (fun b o _ e n => u.free b o e n (by simp)) (fun b o _ e => u.there b o e (by simp)) u.tups u.frzs u.tbls (fun m' hm => by
    obtain ⟨o', es', ep', ho', r'⟩ := hm
    rw [ho] at ho'; cases ho'
    exact ⟨_, es', ep', hL, r'⟩) hok I.bare
theorem Inv.call {g' : Array GenState} {t' : Nat} {d' : Drawn} {ch : List Addr} (I : Inv X pins σ H s) (u : Un (frs X.stack) ch H H' s.heap h') (hok : HOk X.prog X.w H' h') (hg : AllBare g')
    (hch : ∀ b ∈ ch, (b ∈ X.ex ∨ X.s_0.heap.objs.size ≤ b) ∧ b ≠ X.env.locals ∧ (∀ x c, X.env.cells.lookup x = some c → c ≠ b) ∧ ∀ p ∈ X.pn ++ pins, p.1 ≠ b) :
    Inv X pins σ H' { s with heap := h', gens := g', drawn := d', toks := t' } := by
  obtain ⟨m, ⟨o, es, ep, ho, r⟩, _⟩ := id I.loc
  obtain ⟨sl, hL⟩ := u.any ho I.free fun z => (hch _ z).2.1 rfl
  exact I.step (ch := ch) hch (fun b o hL hb hc e n => u.keep b o e n (fun z => (List.mem_cons.mp (I.stkSub b z)).elim hL hb) hc) (fun b o _ _ hc e n => u.any e n hc) (fun b o hc e n => u.free b o e n hc) (fun b o hc e => u.there b o e hc) u.tups u.frzs u.tbls (fun m' hm => by
    obtain ⟨o', es', ep', ho', r'⟩ := hm
    rw [ho] at ho'; cases ho'
    exact ⟨_, es', ep', hL, r'⟩) hok hg
theorem Inv.turned {t' : Nat} {it : Addr} (I : Inv X pins σ H s) (k : ∀ b o, b ≠ it → s.heap.get? b = some o → h'.get? b = some o) (hn : H it = none) (hL : it ≠ X.env.locals)
    (h1 : it ∈ X.ex ∨ X.s_0.heap.objs.size ≤ it) (h2 : ∀ x c, X.env.cells.lookup x = some c → c ≠ it) (h3 : ∀ p ∈ X.pn ++ pins, p.1 ≠ it) : Inv X pins σ H { s with heap := h', toks := t' } := by
  have nit : ∀ b u, H b = some u → b ≠ it := fun b u e z => by rw [z, hn] at e; cases e
  refine I.step (g' := s.gens) (d' := s.drawn) (ch := [it]) (fun b hb => ?_) (fun b o _ _ hc e _ => k b o (fun z => hc (by simp [z])) e) (fun b o _ _ hc e _ => ⟨o.slots, k b o (fun z => hc (by simp [z])) e⟩) (fun _ _ _ _ n => n)
    (fun b o hc e => ⟨o, k b o (fun z => hc (by simp [z])) e⟩) (fun _ _ e => e) (fun _ _ _ e => e) (fun b ps e => ⟨#[], by rw [e]; simp⟩) (fun m hm => ?_) (fun b u e => ?_) I.bare
  · have e : b = it := by simpa using hb
    subst e
    exact ⟨h1, hL, h2, h3⟩
  · obtain ⟨o, es, ep, ho, r⟩ := hm
    exact ⟨o, es, ep, k _ o (Ne.symm hL) ho, r⟩
  · refine (I.hok b u e).stay (fun c v hc q => k c v ?_ q) (fun _ q => q) fun _ _ q => q
    rcases hc with z | z
    · rw [z]; exact nit b u e
    · exact nit c _ z
theorem Inv.tok (I : Inv X pins σ H s) (t : Nat) : Inv X pins σ H { s with toks := t } := I.un (h' := s.heap) (t' := t) Un.refl I.hok
theorem Inv.kept {t' : Nat} (I : Inv X pins σ H s) (k : ∀ b u, s.heap.get? b = some u → h'.get? b = some u) : Inv X pins σ H { s with heap := h', toks := t' } := I.un (Un.kept k) (I.hok.kept k)
theorem Inv.laid {a : Addr} {o : HO} {t' : Nat} (I : Inv X pins σ H s) (k : ∀ b u, s.heap.get? b = some u → h'.get? b = some u) (hp : s.heap.objs.size ≤ a) (new : ObjOk X.prog X.w (upd H a o) h' a o) :
    Inv X pins σ (upd H a o) { s with heap := h', toks := t' } := I.un (Un.laid k hp (I.hok.fresh hp)) (I.hok.laid k hp new)
theorem Inv.write {x e : Addr} {o : HO} {t' : Nat} (I : Inv X pins σ H s) (mu : Mut (H x)) (he : e = x ∨ H e = some (.own x)) (k : ∀ b u, b ≠ e → s.heap.get? b = some u → h'.get? b = some u) (heo : ∃ u, h'.get? e = some u)
    (new : ObjOk X.prog X.w (upd H x o) h' x o) : Inv X pins σ (upd H x o) { s with heap := h', toks := t' } := I.un (Un.write mu he k heo) (I.hok.write mu he k heo new)
theorem Inv.weak {σ' : List (Option V)} (I : Inv X pins σ H s) (hl : σ'.length = σ.length) (w : ∀ (i : Nat) v, σ'[i]? = some (some v) → σ[i]? = some (some v)) : Inv X pins σ' H s :=
  ⟨I.ok, I.os, I.bare, I.base, let ⟨m, hn, hl'⟩ := I.loc; ⟨m, hn, fun i x v e1 e2 e3 => hl' i x v e1 (w i v e2) e3⟩, I.cell, I.free, I.freeC, I.pin, I.hok, hl.trans I.len⟩
theorem Inv.pins_of {pins' : List (Addr × Obj)} (I : Inv X pins σ H s) (h : ∀ p ∈ pins', s.heap.get? p.1 = some p.2 ∧ H p.1 = none ∧ p.1 ≠ X.env.locals ∧ p.1 ∉ X.fs ∧ ∀ v, p.2.data ≠ .cell v) : Inv X pins' σ H s :=
  ⟨I.ok, I.os, I.bare, I.base, I.loc, I.cell, I.free, I.freeC, fun p hp => (List.mem_append.mp hp).elim (fun z => I.pin p (List.mem_append_left _ z)) (h p), I.hok, I.len⟩
theorem nodup_ix {N : List Str} (hN : N.Nodup) {i j : Nat} {x : Str} (a : N[i]? = some x) (b : N[j]? = some x) : i = j := by
  obtain ⟨h1, e1⟩ := List.getElem?_eq_some_iff.mp a
  obtain ⟨h2, e2⟩ := List.getElem?_eq_some_iff.mp b
  exact (List.getElem_inj hN).mp (e1.trans e2.symm)
theorem store_ok2 {M : Model} {A : Around} {E : Value → Shared → Prop} {i : Nat} {x : Str} {v : V} {u : Value} {Q : Unit → Shared → Prop} (I : Inv X pins σ H s) (hN : X.N.Nodup) (hi : X.N[i]? = some x) (hx : Loc X.env.scope x) (r : RelV v u)
    (h : ∀ s', Inv X pins (σ.set i (some v)) H s' → (∃ a, Heap.SameBut a s.heap s'.heap ∧ (a = X.env.locals ∨ X.env.cells.lookup x = some a)) → Q () s') (hf : X.fn x = true ∨ X.env.scope.names.lookup x = some .local := by first | exact .inl rfl | exact .inr rfl | assumption) : wpAny M A (storeName X.env x u) Q E s := by
  obtain ⟨m, hn, hl⟩ := id I.loc
  have hcls : (X.env.scope.kind == .class || (X.env.scope.kind == .module && X.env.locals != X.env.globals)) = false := by rw [I.ok.kind]; rfl
  have hiσ : i < σ.length := by rw [I.len]; exact (List.getElem?_eq_some_iff.mp hi).1
  have cne := I.cne
  have tracked : ∀ {a : Addr} {h' : Heap}, (∃ o, s.heap.get? a = some o ∧ H a = none) → Heap.SameBut a s.heap h' → HOk X.prog X.w H h' := fun {a h'} ha hs b ob e => by
    obtain ⟨_, _, hfree⟩ := ha
    refine (I.hok b ob e).stay (fun c w' hc q => (hs.2 c ?_).trans q) (fun _ q => q) fun _ _ q => q
    rintro rfl
    rcases hc with rfl | hc
    · rw [hfree] at e; cases e
    · rw [hfree] at hc; cases hc
  rcases hx with hk | hk
  · refine wpAny_storeName_local hk hn (fun h' hn' hs => ?_) hcls
    obtain ⟨oL, _, _, hoL, _⟩ := id hn
    refine h _ ⟨I.ok, I.os, I.bare, ⟨fun b o e n hb hx => ?_, fun b o e n hb hx => ?_, I.base.free, fun b o e hx => ?_, I.base.tups, I.base.frzs, I.base.tbls⟩, ⟨_, hn', fun j y v' e1 e2 e3 => ?_⟩, fun y c e => ?_, I.free, I.freeC, fun p hp => ?_, tracked ⟨oL, hoL, I.free⟩ hs, by simpa using I.len⟩ ⟨_, hs, .inl rfl⟩
    · exact (hs.2 b (Nat.ne_of_lt (Nat.lt_of_lt_of_le (Heap.lt_size e) I.ok.above))).trans (I.base.keep b o e n hb hx)
    · obtain ⟨sl, e1⟩ := I.base.slot b o e n hb hx
      exact ⟨sl, (hs.2 b (Nat.ne_of_lt (Nat.lt_of_lt_of_le (Heap.lt_size e) I.ok.above))).trans e1⟩
    · obtain ⟨o', e1⟩ := I.base.there b o e hx
      exact ⟨o', (hs.2 b (Nat.ne_of_lt (Nat.lt_of_lt_of_le (Heap.lt_size e) I.ok.above))).trans e1⟩
    · by_cases hj : j = i
      · subst hj
        rw [hi] at e1; cases e1
        rw [List.getElem?_set_self hiσ] at e2
        cases e2
        exact ⟨u, r, .inl ⟨hk, by simp⟩⟩
      · rw [List.getElem?_set_ne (Ne.symm hj)] at e2
        obtain ⟨u', r', q⟩ := hl j y v' e1 e2 e3
        refine ⟨u', r', ?_⟩
        rcases q with ⟨k, e⟩ | ⟨k, c, e, z⟩
        · refine .inl ⟨k, ?_⟩
          have : y ≠ x := fun e => hj (nodup_ix hN e1 (e ▸ hi))
          simp [this, e]
        · exact .inr ⟨k, c, e, z.sameBut hs (cne y c e)⟩
    · obtain ⟨w', z⟩ := I.cell y c e
      exact ⟨w', z.sameBut hs (cne y c e)⟩
    · obtain ⟨e, n, ne, nf, d⟩ := I.pin p hp
      exact ⟨(hs.2 p.1 ne).trans e, n, ne, nf, d⟩
  · have hfn : X.fn x = true := by
      rcases hf with z | z
      · exact z
      · rw [z] at hk; cases hk
    obtain ⟨c, hc⟩ := I.ok.has x (.inl hk)
    obtain ⟨w', z⟩ := I.cell x c hc
    refine wpAny_storeName_cell I.ok.kind hk hc z (fun h' hc' hs => ?_)
    obtain ⟨oc, hoc, hocd⟩ := id z
    refine h { s with heap := h' } ⟨I.ok, I.os, I.bare, ⟨fun b o e n hb hx => ?_, fun b o e n hb hx => ?_, I.base.free, fun b o e hx => ?_, I.base.tups, I.base.frzs, I.base.tbls⟩, ⟨m, hn.sameBut hs (Ne.symm (cne x c hc)), fun j y v' e1 e2 e3 => ?_⟩, fun y c' e => ?_, I.free, I.freeC, fun p hp => ?_, tracked ⟨oc, hoc, I.freeC x c hc⟩ hs, by simpa using I.len⟩ ⟨c, hs, .inr hc⟩
    · exact (hs.2 b (Nat.ne_of_lt (Nat.lt_of_lt_of_le (Heap.lt_size e) (I.ok.cab x c hfn hc)))).trans (I.base.keep b o e n hb hx)
    · obtain ⟨sl, e1⟩ := I.base.slot b o e n hb hx
      exact ⟨sl, (hs.2 b (Nat.ne_of_lt (Nat.lt_of_lt_of_le (Heap.lt_size e) (I.ok.cab x c hfn hc)))).trans e1⟩
    · obtain ⟨o', e1⟩ := I.base.there b o e hx
      exact ⟨o', (hs.2 b (Nat.ne_of_lt (Nat.lt_of_lt_of_le (Heap.lt_size e) (I.ok.cab x c hfn hc)))).trans e1⟩
    · by_cases hj : j = i
      · subst hj
        rw [hi] at e1; cases e1
        rw [List.getElem?_set_self hiσ] at e2
        cases e2
        exact ⟨u, r, .inr ⟨.inl hk, c, hc, hc'⟩⟩
      · rw [List.getElem?_set_ne (Ne.symm hj)] at e2
        obtain ⟨u', r', q⟩ := hl j y v' e1 e2 e3
        refine ⟨u', r', ?_⟩
        rcases q with q | ⟨k, c', e, z'⟩
        · exact .inl q
        · refine .inr ⟨k, c', e, z'.sameBut hs ?_⟩
          rintro rfl
          exact hj (nodup_ix hN e1 (I.ok.inj _ _ _ e hc ▸ hi))
    · by_cases hcc : c' = c
      · subst hcc; exact ⟨_, hc'⟩
      · obtain ⟨w2, z2⟩ := I.cell y c' e
        exact ⟨w2, z2.sameBut hs hcc⟩
    · obtain ⟨e, n, ne, nf, d⟩ := I.pin p hp
      refine ⟨(hs.2 p.1 ?_).trans e, n, ne, nf, d⟩
      intro q
      rw [q, hoc] at e
      have q' : oc = p.2 := Option.some.inj e
      exact d w' (by rw [← q']; exact hocd)
theorem store_ok {M : Model} {A : Around} {E : Value → Shared → Prop} {i : Nat} {x : Str} {v : V} {u : Value} {Q : Unit → Shared → Prop} (I : Inv X pins σ H s) (hN : X.N.Nodup) (hi : X.N[i]? = some x) (hx : Loc X.env.scope x) (r : RelV v u)
    (h : ∀ s', Inv X pins (σ.set i (some v)) H s' → Q () s') (hf : X.fn x = true ∨ X.env.scope.names.lookup x = some .local := by first | exact .inl rfl | exact .inr rfl | assumption) : wpAny M A (storeName X.env x u) Q E s :=
  store_ok2 I hN hi hx r (fun s' I' _ => h s' I') hf
theorem Inv.call' {s' : Shared} {ch : List Addr} (I : Inv X pins σ H s) (ho : s'.os = s.os) (u : Un (frs X.stack) ch H H' s.heap s'.heap) (hok : HOk X.prog X.w H' s'.heap) (hg : AllBare s'.gens)
    (hch : ∀ b ∈ ch, (b ∈ X.ex ∨ X.s_0.heap.objs.size ≤ b) ∧ b ≠ X.env.locals ∧ (∀ x c, X.env.cells.lookup x = some c → c ≠ b) ∧ ∀ p ∈ X.pn ++ pins, p.1 ≠ b) : Inv X pins σ H' s' := by
  obtain ⟨h', g', d', t', o'⟩ := s'
  have e : o' = s.os := ho
  subst e
  exact I.call (g' := g') (t' := t') (d' := d') u hok hg hch
end
abbrev XK := Value → Option Addr → Hp → Prop
abbrev St := List (Option V)
abbrev VK := V → Hp → Prop
abbrev TE := St → Hp → VK → Prop
abbrev TT := St → Hp → (Bool → Hp → Prop) → Prop
abbrev TA := St → Hp → (List V → Hp → Prop) → Prop
structure Ends where
  nx : St → Hp → Prop
  rt : VK
  bk : St → Hp → Prop := fun _ _ => False
  ct : St → Hp → Prop := fun _ _ => False
abbrev TS := Ends → St → Hp → Prop
def EP (X : Cx) (pins : List (Addr × Obj)) (σ : St) (Q : VK) (u : Value) (s' : Shared) : Prop := ∃ v H', Inv X pins σ H' s' ∧ RelV v u ∧ Q v H'
def TP (X : Cx) (pins : List (Addr × Obj)) (σ : St) (Q : Bool → Hp → Prop) (b : Bool) (s' : Shared) : Prop := ∃ H', Inv X pins σ H' s' ∧ Q b H'
def AP (X : Cx) (pins : List (Addr × Obj)) (σ : St) (Q : List V → Hp → Prop) (us : List Value) (s' : Shared) : Prop := ∃ vs H', Inv X pins σ H' s' ∧ Vals vs us ∧ Q vs H'
def SP (X : Cx) (pins : List (Addr × Obj)) (D : Ends) (f : Flow) (s' : Shared) : Prop :=
  match f with
  | .next => ∃ σ' H', Inv X pins σ' H' s' ∧ D.nx σ' H'
  | .brk => ∃ σ' H', Inv X pins σ' H' s' ∧ D.bk σ' H'
  | .cont => ∃ σ' H', Inv X pins σ' H' s' ∧ D.ct σ' H'
  | .ret u => ∃ v σ' H', Inv X pins σ' H' s' ∧ RelV v u ∧ D.rt v H'
def PE (X : Cx) (e : Expr) (t : TE) : Prop :=
  ∀ (pins : List (Addr × Obj)) (s : Shared) (σ : St) (H : Hp) (Q : VK), Inv X pins σ H s → t σ H Q → wpAny (model X.prog X.w) X.A (eval e X.env) (EP X pins σ Q) X.xe s
def PT (X : Cx) (e : Expr) (t : TT) : Prop :=
  ∀ (pins : List (Addr × Obj)) (s : Shared) (σ : St) (H : Hp) (Q : Bool → Hp → Prop), Inv X pins σ H s → t σ H Q → wpAny (model X.prog X.w) X.A (isTrue e X.env (eval e X.env)) (TP X pins σ Q) X.xe s
def PW (X : Cx) (e : Expr) (t : TT) : Prop :=
  ∀ (whole : Sem Value) (pins : List (Addr × Obj)) (s : Shared) (σ : St) (H : Hp) (Q : Bool → Hp → Prop), Inv X pins σ H s → t σ H Q → wpAny (model X.prog X.w) X.A (isTrue e X.env whole) (TP X pins σ Q) X.xe s
theorem PW.pt {X : Cx} {e : Expr} {t : TT} (h : PW X e t) : PT X e t := h _
def PA (X : Cx) (es : List Expr) (t : TA) : Prop :=
  ∀ (pos : Pos) (pins : List (Addr × Obj)) (s : Shared) (σ : St) (H : Hp) (Q : List V → Hp → Prop), Inv X pins σ H s → t σ H Q → wpAny (model X.prog X.w) X.A (spliced (backTo pos (starEach es X.env))) (AP X pins σ Q) X.xe s
def PS (X : Cx) (st : Stmt) (t : TS) : Prop :=
  ∀ (pins : List (Addr × Obj)) (s : Shared) (σ : St) (H : Hp) (D : Ends), Inv X pins σ H s → t D σ H → wpAny (model X.prog X.w) X.A (exec st X.env) (SP X pins D) X.xe s
def PSs (X : Cx) (st : List Stmt) (t : TS) : Prop :=
  ∀ (pins : List (Addr × Obj)) (s : Shared) (σ : St) (H : Hp) (D : Ends), Inv X pins σ H s → t D σ H → wpAny (model X.prog X.w) X.A (execs st X.env) (SP X pins D) X.xe s
theorem thn {α : Type} {t : Sem α} {Q Q' : α → Shared → Prop} {M : Model} {A : Around} {E : Value → Shared → Prop} {s : Shared} (h : wpAny M A t Q E s) (hQ : ∀ a s, Q a s → Q' a s) : wpAny M A t Q' E s := wpAny_mono h hQ fun _ _ x => x
end L2
namespace L2
open PySem PySem.Spec PyProof.Rows
section
variable {X : Cx}
def tVar (i : Nat) : TE := fun σ H Q => ∃ v, σ[i]? = some (some v) ∧ Q v H
def tC (v : V) : TE := fun _ H Q => Q v H
theorem pe_var {i : Nat} {x : Str} {pos : Pos} (hN : X.N[i]? = some x) (hv : Vis X.env.scope x) (hd : (x == ("__debug__" : Str)) = false := by decide) (hcd : (x == ("__classdict__" : Str)) = false := by decide) : PE X (.Name x pos) (tVar i) := by
  intro pins s σ H Q I h
  obtain ⟨v, e, h⟩ := h
  obtain ⟨m, hn, hl⟩ := I.loc
  obtain ⟨u, r, l⟩ := hl i x v hN e hv
  have fin : EP X pins σ Q u s := ⟨v, H, I, r, h⟩
  rcases l with ⟨hk, hm⟩ | ⟨hk, c, hc, hcell⟩
  · exact wpAny_Name (wpAny_loadName_local I.ok.kind hk hn hm fin) hd
  · rcases hk with hk | hk
    · exact wpAny_Name (wpAny_loadName_cell I.ok.kind hk hc hcell fin) hd
    · exact wpAny_Name (wpAny_loadName_free I.ok.kind hk hc hcell fin hcd) hd
theorem pe_int {i j pos} : PE X (.Constant (.int i) j pos) (tC (.int i)) := fun _ _ _ H _ I h => wpAny_Constant_int ⟨.int i, H, I.tok _, ⟨_, rfl⟩, h⟩
theorem pe_bl {b j pos} : PE X (.Constant (.bool b) j pos) (tC (.bl b)) := fun _ _ _ H _ I h => Constant_bool ⟨.bl b, H, I, rfl, h⟩
theorem pe_non {j pos} : PE X (.Constant .none j pos) (tC .non) := fun _ _ _ H _ I h => Constant_none ⟨.non, H, I, rfl, h⟩
theorem pe_str {x j pos} : PE X (.Constant (.str x) j pos) (tC (.str x)) := fun _ _ _ H _ I h => Calls.Constant_str ⟨.str x, H, I.tok _, ⟨_, rfl⟩, h⟩
def Gl (X : Cx) (x : Str) : Prop := X.env.kindOf x = some .globalImplicit
theorem ld_glob {E : Value → Shared → Prop} {pins : List (Addr × Obj)} {s : Shared} {σ : St} {H : Hp} {x : Str} {u : Value} {pos : Pos} {Q : Value → Shared → Prop} (I : Inv X pins σ H s) (hg : Gl X x) (hm : X.mg x = some u) (h : Q u s)
    (hd : (x == ("__debug__" : Str)) = false := by decide) : wpAny (model X.prog X.w) X.A (eval (.Name x pos) X.env) Q E s :=
  Calls.Name_function_global I.ok.kind hg (Calls.loadGlobal_global (by rw [I.ok.glob]; exact I.mod.glob.keeps I.bk) hm h) hd
theorem ld_blt {E : Value → Shared → Prop} {pins : List (Addr × Obj)} {s : Shared} {σ : St} {H : Hp} {x : Str} {u : Value} {pos : Pos} {Q : Value → Shared → Prop} (I : Inv X pins σ H s) (hg : Gl X x) (hm : X.mg x = none) (hv : bootBuiltins x = some u) (h : Q u s)
    (hn : x ≠ "__name__" := by decide) (hd : (x == ("__debug__" : Str)) = false := by decide) : wpAny (model X.prog X.w) X.A (eval (.Name x pos) X.env) Q E s := by
  obtain ⟨mb, h1, h2⟩ := I.mod.blt
  exact Calls.Name_function_global I.ok.kind hg (Calls.loadGlobal_builtin (by rw [I.ok.glob]; exact I.mod.glob.keeps I.bk) hm (by rw [I.ok.blt]; exact h1.keeps I.bk) ((h2 x hn).trans hv) h) hd
theorem pe_glob {x : Str} {v : V} {u : Value} {pos : Pos} (hg : Gl X x) (hm : X.mg x = some u) (r : RelV v u) (hd : (x == ("__debug__" : Str)) = false := by decide) : PE X (.Name x pos) (tC v) :=
  fun _ _ _ H _ I h => ld_glob I hg hm ⟨v, H, I, r, h⟩ hd
theorem pe_bltn {x : Str} {v : V} {u : Value} {pos : Pos} (hg : Gl X x) (hm : X.mg x = none) (hv : bootBuiltins x = some u) (r : RelV v u) (hn : x ≠ "__name__" := by decide) (hd : (x == ("__debug__" : Str)) = false := by decide) : PE X (.Name x pos) (tC v) :=
  fun _ _ _ H _ I h => ld_blt I hg hm hv ⟨v, H, I, r, h⟩ hn hd
def t2I (ta tb : TE) (k : Int → Int → Hp → Prop) : St → Hp → Prop := fun σ H => ta σ H fun x H1 => tb σ H1 fun y H2 => ∃ i j, x = .int i ∧ y = .int j ∧ k i j H2
def tAdd (ta tb : TE) : TE := fun σ H Q => t2I ta tb (fun i j H2 => Q (.int (i + j)) H2) σ H
def tSub (ta tb : TE) : TE := fun σ H Q => t2I ta tb (fun i j H2 => Q (.int (i - j)) H2) σ H
def tMul (ta tb : TE) : TE := fun σ H Q => t2I ta tb (fun i j H2 => (-(2 ^ 64) < i ∧ i < 2 ^ 64) ∧ Q (.int (i * j)) H2) σ H
variable {a b : Expr} {ta tb : TE} {pos : Pos}
def PC (X : Cx) (op : CmpOp) (a b : Expr) (t : TE) : Prop :=
  ∀ (pins : List (Addr × Obj)) (s : Shared) (σ : St) (H : Hp) (Q : VK), Inv X pins σ H s → t σ H Q →
    wpAny (model X.prog X.w) X.A (eval a X.env) (fun v s₁ => wpAny (model X.prog X.w) X.A (eval b X.env) (fun u s₂ => wpAny (model X.prog X.w) X.A (compareOp op v u) (EP X pins σ Q) X.xe s₂) X.xe s₁) X.xe s
def tCmp (p : Int → Int → Bool) (ta tb : TE) : TE := fun σ H Q => t2I ta tb (fun i j H2 => Q (.bl (p i j)) H2) σ H
abbrev tLt : TE → TE → TE := tCmp fun i j => decide (i < j)
abbrev tLe : TE → TE → TE := tCmp fun i j => decide (i ≤ j)
abbrev tGt : TE → TE → TE := tCmp fun i j => decide (j < i)
abbrev tGe : TE → TE → TE := tCmp fun i j => decide (j ≤ i)
abbrev tEqI : TE → TE → TE := tCmp fun i j => decide (i = j)
abbrev tNeI : TE → TE → TE := tCmp fun i j => !decide (i = j)
def tIsN (ta : TE) : TE := fun σ H Q => ta σ H fun x H1 => Q (.bl (decide (x = .non))) H1
def tNotN (ta : TE) : TE := fun σ H Q => ta σ H fun x H1 => Q (.bl (!decide (x = .non))) H1
def tB (t : TE) : TT := fun σ H Q => t σ H fun x H1 => ∃ c, x = .bl c ∧ Q c H1
theorem pt_val {e : Expr} {t : TE} (h : PE X e t) (he : ∀ whole, isTrue e X.env whole = (do let v ← whole; standAt e.pos; holding [v] (truthy v)) := by intro _; rfl) : PT X e (tB t) := by
  intro pins s σ H Q I hw
  refine isTrue_plain (thn (h pins s σ H _ I hw) fun v s1 ⟨x, H1, I1, r1, q1⟩ => ?_) (he _)
  obtain ⟨d, rfl, q⟩ := q1
  cases r1
  exact wpAny_truthy_bool ⟨H1, I1, q⟩
variable {tA tB' : TT} {rest : List Expr}
def tAnd (t u : TT) : TT := fun σ H Q => t σ H fun c H1 => if c = true then u σ H1 Q else Q false H1
def tOr (t u : TT) : TT := fun σ H Q => t σ H fun c H1 => if c = true then Q true H1 else u σ H1 Q
def tNot (t : TT) : TT := fun σ H Q => t σ H fun c H1 => Q (!c) H1
theorem pw_and1 (ha : PT X a tA) : PW X (.BoolOp .And [a] pos) tA := by
  intro wh pins s σ H Q I h
  refine isTrue_and (thn (ha pins s σ H Q I h) fun c s1 e => ?_)
  cases c with
  | true => exact isTrue_and_nil e
  | false => exact e
theorem pw_or1 (ha : PT X a tA) : PW X (.BoolOp .Or [a] pos) tA := by
  intro wh pins s σ H Q I h
  refine isTrue_or (thn (ha pins s σ H Q I h) fun c s1 e => ?_)
  cases c with
  | false => exact isTrue_or_nil e
  | true => exact e
theorem pw_and (ha : PT X a tA) (hb : PW X (.BoolOp .And (b :: rest) pos) tB') : PW X (.BoolOp .And (a :: b :: rest) pos) (tAnd tA tB') := by
  intro wh pins s σ H Q I h
  refine isTrue_and (thn (ha pins s σ H _ I h) fun c s1 ⟨H1, I1, q1⟩ => ?_)
  cases c with
  | true => exact hb wh pins s1 σ H1 Q I1 q1
  | false => exact ⟨H1, I1, q1⟩
theorem pw_or (ha : PT X a tA) (hb : PW X (.BoolOp .Or (b :: rest) pos) tB') : PW X (.BoolOp .Or (a :: b :: rest) pos) (tOr tA tB') := by
  intro wh pins s σ H Q I h
  refine isTrue_or (thn (ha pins s σ H _ I h) fun c s1 ⟨H1, I1, q1⟩ => ?_)
  cases c with
  | true => exact ⟨H1, I1, q1⟩
  | false => exact hb wh pins s1 σ H1 Q I1 q1
theorem pt_not (ha : PT X a tA) : PT X (.UnaryOp .Not a pos) (tNot tA) := by
  intro pins s σ H Q I h
  exact isTrue_not (ha pins s σ H (fun c H1 => Q (!c) H1) I h)
def tAndV (ta tb : TE) : TE := fun σ H Q => ta σ H fun x H1 => ∃ c, x = .bl c ∧ if c = true then tb σ H1 Q else Q (.bl false) H1
def tOrV (ta tb : TE) : TE := fun σ H Q => ta σ H fun x H1 => ∃ c, x = .bl c ∧ if c = true then Q (.bl true) H1 else tb σ H1 Q
def tNotV (ta : TE) : TE := fun σ H Q => ta σ H fun x H1 => ∃ c, x = .bl c ∧ Q (.bl (!c)) H1
theorem pe_one {op} {t : TE} (h : PE X a t) : PE X (.BoolOp op [a] pos) t := fun pins s σ H Q I hw => BoolOp_one (h pins s σ H Q I hw)
theorem pe_and (ha : PE X a ta) (hb : PE X (.BoolOp .And (b :: rest) pos) tb) : PE X (.BoolOp .And (a :: b :: rest) pos) (tAndV ta tb) := by
  intro pins s σ H Q I h
  refine BoolOp_and (thn (ha pins s σ H _ I h) fun v s1 ⟨x, H1, I1, r1, q1⟩ => ?_)
  obtain ⟨c, rfl, q1⟩ := q1
  cases r1
  refine wpAny_truthy_bool ?_
  cases c with
  | true => exact hb pins s1 σ H1 Q I1 q1
  | false => exact ⟨.bl false, H1, I1, rfl, q1⟩
theorem pe_not (ha : PE X a ta) : PE X (.UnaryOp .Not a pos) (tNotV ta) := by
  intro pins s σ H Q I h
  refine UnaryOp_ (thn (ha pins s σ H _ I h) fun v s1 ⟨x, H1, I1, r1, q1⟩ => ?_)
  obtain ⟨c, rfl, q1⟩ := q1
  cases r1
  exact not_of (wpAny_truthy_bool ⟨.bl (!c), H1, I1, rfl, q1⟩)
def tIf (t : TT) (ta tb : TE) : TE := fun σ H Q => t σ H fun c H1 => if c = true then ta σ H1 Q else tb σ H1 Q
end
end L2
namespace L2
open PySem PySem.Spec PyProof.Rows
def SqL (K : PySem.W.Frag) (H : Hp) (a : Addr) (xs : List V) : Prop :=
  Rd H a (.lst xs) ∨
    ∃ (o : Obj) (its : Array Value) (n : Nat), K.lookup a = some o ∧ o.cls = .type "list" ∧ o.dict = none ∧ o.data = .seq its n ∧ its.size ≤ sizeLine ∧ Vals xs its.toList
def SqT (K : PySem.W.Frag) (H : Hp) (a : Addr) (xs : List V) : Prop :=
  Rd H a (.tup xs) ∨
    ∃ (o : Obj) (its : Array Value) (n : Nat), K.lookup a = some o ∧ o.cls = .type "tuple" ∧ o.dict = none ∧ o.data = .seq its n ∧ its.size ≤ sizeLine ∧ Vals xs its.toList
def absV : Value → Option V
  | .none => some .non
  | .bool b => some (.bl b)
  | .int i _ => some (.int i)
  | .str x _ => some (.str x)
  | .bytes b _ => some (.byt b)
  | .float b _ => some (.flt b)
  | .ref a => some (.ref a)
  | .type n => some (.ty n)
  | _ => none
theorem RelV.abs {x : V} {u : Value} (r : RelV x u) : absV u = some x := by
  cases x with
  | non => cases r; rfl
  | bl _ => cases r; rfl
  | int _ => obtain ⟨t, rfl⟩ := r; rfl
  | str _ => obtain ⟨t, rfl⟩ := r; rfl
  | byt _ => obtain ⟨t, rfl⟩ := r; rfl
  | flt _ => obtain ⟨t, rfl⟩ := r; rfl
  | ref _ => cases r; rfl
  | ty _ => cases r; rfl
theorem RelV.inj {x y : V} {u : Value} (r : RelV x u) (q : RelV y u) : x = y := Option.some.inj (r.abs.symm.trans q.abs)
theorem Vals.inj : ∀ {xs ys : List V} {us : List Value}, Vals xs us → Vals ys us → xs = ys
  | _, _, _, .nil, .nil => rfl
  | _, _, _, .cons r t, .cons r' t' => by rw [r.inj r', Vals.inj t t']
section
variable {X : Cx} {pins : List (Addr × Obj)} {σ : St} {H : Hp} {s : Shared} {a : Addr} {xs ys : List V}
theorem SqL.of {K : PySem.W.Frag} (h : H a = some (.lst xs)) : SqL K H a xs := .inl (.inl h)
theorem SqT.of {K : PySem.W.Frag} (h : H a = some (.tup xs)) : SqT K H a xs := .inl (.inl h)
theorem Inv.list (I : Inv X pins σ H s) (h : SqL X.K H a xs) : ∃ its : List Value, Vals xs its ∧ PlainL s.heap a its.toArray ∧ xs.length ≤ sizeLine := by
  rcases h with h | ⟨o, its, n, hk, hc, hd, hs, hz, r⟩
  · obtain ⟨z, its, n, r, e⟩ := h.ok I.hok
    exact ⟨its, r, ⟨_, n, e, rfl, rfl, rfl⟩, z⟩
  · refine ⟨its.toList, r, ⟨o, n, I.kIn a o hk, hc, hd, by simpa using hs⟩, ?_⟩
    have e := r.length
    simp only [Array.length_toList] at e
    omega
theorem Inv.tuple (I : Inv X pins σ H s) (h : SqT X.K H a xs) : ∃ its : List Value, Vals xs its ∧ IsTup s.heap a its.toArray ∧ xs.length ≤ sizeLine := by
  rcases h with h | ⟨o, its, n, hk, hc, _, hs, hz, r⟩
  · obtain ⟨z, its, r, p⟩ := h.ok I.hok
    exact ⟨its, r, p.tup, z⟩
  · refine ⟨its.toList, r, ⟨o, I.kIn a o hk, hc, n, by simpa using hs⟩, ?_⟩
    have e := r.length
    simp only [Array.length_toList] at e
    omega
theorem Inv.list_inj (I : Inv X pins σ H s) (h : SqL X.K H a xs) (h' : SqL X.K H a ys) : xs = ys := by
  obtain ⟨its, r, ⟨o, n, e, _, _, d⟩, _⟩ := I.list h
  obtain ⟨its', r', ⟨o', n', e', _, _, d'⟩, _⟩ := I.list h'
  rw [e] at e'; cases e'
  rw [d] at d'
  injection d' with d1 _
  have : its = its' := by simpa using congrArg Array.toList d1
  subst this
  exact r.inj r'
theorem Inv.tuple_inj (I : Inv X pins σ H s) (h : SqT X.K H a xs) (h' : SqT X.K H a ys) : xs = ys := by
  obtain ⟨its, r, ⟨o, e, _, n, d⟩, _⟩ := I.tuple h
  obtain ⟨its', r', ⟨o', e', _, n', d'⟩, _⟩ := I.tuple h'
  rw [e] at e'; cases e'
  rw [d] at d'
  injection d' with d1 _
  have : its = its' := by simpa using congrArg Array.toList d1
  subst this
  exact r.inj r'
end
abbrev Cx.wish (X : Cx) (E : Value → Shared → Prop) : Cx := { X with xe := E }
abbrev Cx.nox (X : Cx) : Cx := X.wish fun _ _ => False
theorem Cx.Ok.wish {X : Cx} (ok : X.Ok) (E : Value → Shared → Prop) : (X.wish E).Ok :=
  ⟨ok.mod, ok.kind, ok.glob, ok.blt, ok.above, ok.inj, ok.has, ok.cab, ok.hd, ok.frames, ok.stk, ok.exf, ok.bs, ok.bsz, ok.noex, ok.exfs, ok.funs, ok.frf⟩
theorem Cx.Ok.unwish {X : Cx} {E : Value → Shared → Prop} (ok : (X.wish E).Ok) : X.Ok :=
  ⟨ok.mod, ok.kind, ok.glob, ok.blt, ok.above, ok.inj, ok.has, ok.cab, ok.hd, ok.frames, ok.stk, ok.exf, ok.bs, ok.bsz, ok.noex, ok.exfs, ok.funs, ok.frf⟩
section
variable {X : Cx} {pins : List (Addr × Obj)} {σ : St} {H : Hp} {s : Shared} {E : Value → Shared → Prop}
theorem Inv.wish (I : Inv X pins σ H s) (E : Value → Shared → Prop) : Inv (X.wish E) pins σ H s := ⟨I.ok.wish E, I.os, I.bare, I.base, I.loc, I.cell, I.free, I.freeC, I.pin, I.hok, I.len⟩
theorem Inv.unwish (I : Inv (X.wish E) pins σ H s) : Inv X pins σ H s := ⟨I.ok.unwish, I.os, I.bare, I.base, I.loc, I.cell, I.free, I.freeC, I.pin, I.hok, I.len⟩
theorem SP.unwish {D : Ends} {f : Flow} {s' : Shared} (h : SP (X.wish E) pins D f s') : SP X pins D f s' := by
  cases f with
  | next => obtain ⟨σ', H', I, q⟩ := h; exact ⟨σ', H', I.unwish, q⟩
  | brk => obtain ⟨σ', H', I, q⟩ := h; exact ⟨σ', H', I.unwish, q⟩
  | cont => obtain ⟨σ', H', I, q⟩ := h; exact ⟨σ', H', I.unwish, q⟩
  | ret u => obtain ⟨v, σ', H', I, r, q⟩ := h; exact ⟨v, σ', H', I.unwish, r, q⟩
theorem PE.nox {e : Expr} {t : TE} (h : PE X.nox e t) : PE X e t := fun pins s σ H Q I hw =>
  wpAny_mono (h pins s σ H Q (I.wish _) hw) (fun _ _ ⟨v, H', I', r, q⟩ => ⟨v, H', I'.unwish, r, q⟩) fun _ _ z => False.elim z
theorem PT.nox {e : Expr} {t : TT} (h : PT X.nox e t) : PT X e t := fun pins s σ H Q I hw =>
  wpAny_mono (h pins s σ H Q (I.wish _) hw) (fun _ _ ⟨H', I', q⟩ => ⟨H', I'.unwish, q⟩) fun _ _ z => False.elim z
theorem PSs.nox {st : List Stmt} {t : TS} (h : PSs X.nox st t) : PSs X st t := fun pins s σ H D I hw =>
  wpAny_mono (h pins s σ H D (I.wish _) hw) (fun _ _ q => q.unwish) fun _ _ z => False.elim z
end
section
variable {X : Cx} {st : Stmt} {rest : List Stmt} {t u : TS} {e : Expr} {te : TE} {pos : Pos}
def tNext : TS := fun D σ H => D.nx σ H
def tSeq (t u : TS) : TS := fun D σ H => t { D with nx := u D } σ H
theorem pss_nil : PSs X [] tNext := fun _ _ σ H _ I h => wpAny_execs_nil ⟨σ, H, I, h⟩
theorem pss_cons (h1 : PS X st t) (h2 : PSs X rest u) : PSs X (st :: rest) (tSeq t u) := by
  intro pins s σ H D I h
  refine wpAny_execs_cons (thn (h1 pins s σ H { D with nx := u D } I h) fun f s1 q => ?_)
  cases f with
  | next =>
    obtain ⟨σ', H', I', q⟩ := q
    exact h2 pins s1 σ' H' D I' q
  | ret v => exact q
  | brk => exact q
  | cont => exact q
theorem pss_one (h1 : PS X st t) : PSs X [st] t := by
  intro pins s σ H D I h
  refine wpAny_execs_cons (thn (h1 pins s σ H D I h) fun f s1 q => ?_)
  cases f with
  | next => exact wpAny_execs_nil q
  | ret v => exact q
  | brk => exact q
  | cont => exact q
def tBreak : TS := fun D σ H => D.bk σ H
def tCont : TS := fun D σ H => D.ct σ H
theorem Inv.quiet {pins : List (Addr × Obj)} {σ : St} {H : Hp} {s : Shared} (I : Inv X pins σ H s) : interactive X.env = false := by simp [interactive, I.ok.kind]
def tDrop (te : TE) : TS := fun D σ H => te σ H fun _ H1 => D.nx σ H1
theorem ps_expr (he : PE X e te) (hs : swapsWith e none pos.line X.env = pure false := by rfl) : PS X (.Expr e pos) (tDrop te) := by
  intro pins s σ H D I h
  exact wpAny_Expr_any (thn (he pins s σ H _ I h) fun v s1 ⟨x, H1, I1, r1, q1⟩ => ⟨σ, H1, I1, q1⟩) I.quiet hs
def tRet (te : TE) : TS := fun D σ H => te σ H D.rt
theorem ps_ret (he : PE X e te) : PS X (.Return (some e) pos) (tRet te) := by
  intro pins s σ H D I h
  exact wpAny_Return_some (thn (he pins s σ H _ I h) fun v s1 ⟨x, H1, I1, r1, q1⟩ => ⟨x, σ, H1, I1, r1, q1⟩)
def tRetN : TS := fun D _ H => D.rt .non H
def tIfS (c : TT) (t u : TS) : TS := fun D σ H => c σ H fun b H1 => if b = true then t D σ H1 else u D σ H1
theorem ps_if {c : Expr} {a b : List Stmt} {tc : TT} (hc : PT X c tc) (ha : PSs X a t) (hb : PSs X b u) : PS X (.If c a b pos) (tIfS tc t u) := by
  intro pins s σ H D I h
  refine wpAny_If (thn (hc pins s σ H _ I h) fun d s1 ⟨H1, I1, q1⟩ => ?_)
  cases d with
  | true => exact ha pins s1 σ H1 D I1 q1
  | false => exact hb pins s1 σ H1 D I1 q1
def tNever : TS := fun _ _ _ => False
end
abbrev TG := V → St → Hp → (St → Hp → Prop) → Prop
abbrev TGs := List V → St → Hp → (St → Hp → Prop) → Prop
def PG (X : Cx) (target : Expr) (t : TG) : Prop :=
  ∀ (pins : List (Addr × Obj)) (s : Shared) (σ : St) (H : Hp) (v : V) (u : Value) (Q : St → Hp → Prop), Inv X pins σ H s → RelV v u → t v σ H Q →
    wpAny (model X.prog X.w) X.A (assign target X.env u) (fun _ s' => ∃ σ' H', Inv X pins σ' H' s' ∧ Q σ' H') X.xe s
def PGs (X : Cx) (ts : List Expr) (t : TGs) : Prop :=
  ∀ (pins : List (Addr × Obj)) (s : Shared) (σ : St) (H : Hp) (vs : List V) (us : List Value) (Q : St → Hp → Prop), Inv X pins σ H s → Vals vs us → t vs σ H Q →
    wpAny (model X.prog X.w) X.A (assignInOrder ((assignEach ts X.env).map (·.2)) us) (fun _ s' => ∃ σ' H', Inv X pins σ' H' s' ∧ Q σ' H') X.xe s
abbrev TSet := V → V → V → Hp → (Hp → Prop) → Prop
def PSet (X : Cx) (t : TSet) : Prop :=
  ∀ (pins : List (Addr × Obj)) (s : Shared) (σ : St) (H : Hp) (o i v : V) (ov iv u : Value) (Q : Hp → Prop), Inv X pins σ H s → RelV o ov → RelV i iv → RelV v u → t o i v H Q →
    wpAny (model X.prog X.w) X.A (setItem ov iv u) (fun _ s' => ∃ H', Inv X pins σ H' s' ∧ Q H') X.xe s
abbrev TIp := V → V → Hp → VK → Prop
def PIp (X : Cx) (op : Operator) (t : TIp) : Prop :=
  ∀ (pins : List (Addr × Obj)) (s : Shared) (σ : St) (H : Hp) (x y : V) (v u : Value) (Q : VK), Inv X pins σ H s → RelV x v → RelV y u → t x y H Q →
    wpAny (model X.prog X.w) X.A (inplaceOp op v u) (EP X pins σ Q) X.xe s
section
variable {X : Cx} {pos : Pos}
def gName (i : Nat) : TG := fun v σ H Q => Q (σ.set i (some v)) H
theorem pg_name {i : Nat} {x : Str} (hN : X.N.Nodup) (hi : X.N[i]? = some x) (hx : Loc X.env.scope x) (hf : X.fn x = true ∨ X.env.scope.names.lookup x = some .local := by first | exact .inl rfl | exact .inr rfl | assumption) : PG X (.Name x pos) (gName i) := by
  intro pins s σ H v u Q I r h
  exact wpAny_assign_Name (store_ok I hN hi hx r (fun s' I' => ⟨_, H, I', h⟩) hf)
def gNil : TGs := fun vs σ H Q => vs = [] ∧ Q σ H
def gCons (t : TG) (u : TGs) : TGs := fun vs σ H Q => ∃ v r, vs = v :: r ∧ t v σ H fun σ' H' => u r σ' H' Q
theorem pgs_nil : PGs X [] gNil := by
  intro pins s σ H vs us Q I r h
  obtain ⟨e, h⟩ := h
  subst e
  cases r
  exact assignInOrder_nil ⟨σ, H, I, h⟩
theorem pgs_cons {e : Expr} {es : List Expr} {t : TG} {u : TGs} (h1 : PG X e t) (h2 : PGs X es u)
    (hs : (assignEach (e :: es) X.env).map (·.2) = assign e X.env :: (assignEach es X.env).map (·.2) := by rfl) : PGs X (e :: es) (gCons t u) := by
  intro pins s σ H vs us Q I r h
  obtain ⟨v, vr, e1, h⟩ := h
  subst e1
  cases r with
  | cons r rr =>
    rw [hs]
    refine assignInOrder_cons (thn (h1 pins s σ H _ _ _ I r h) fun _ s1 ⟨σ1, H1, I1, q1⟩ => ?_)
    exact h2 pins s1 σ1 H1 _ _ Q I1 rr q1
def gTup (K : PySem.W.Frag) (n : Nat) (t : TGs) : TG := fun v σ H Q => ∃ a xs, v = .ref a ∧ SqT K H a xs ∧ xs.length = n ∧ t xs σ H Q
theorem pg_tup {es : List Expr} {k : Nat} {t : TGs} {n : Nat} (hc : X.calm = true) (h : PGs X es t)
    (hn : (assignEach es X.env).length = n := by rfl) (hst : (assignEach es X.env).findIdx? (·.1) = none := by rfl) : PG X (.Tuple es k pos) (gTup X.K n t) := by
  intro pins s σ H v u Q I r hw
  obtain ⟨a, xs, e1, hq, hl, hw⟩ := hw
  subst e1
  cases r
  obtain ⟨its, rv, ht, hz⟩ := I.tuple hq
  refine assign_Tuple_tuple (I.ok.hd hc) ht (by simp [hn, ← hl, rv.length]) hst fun h' hx => ?_
  have I1 : Inv X pins σ H { s with heap := h' } := I.kept (t' := s.toks) fun b o e => hx b o (Nat.ne_of_lt (Heap.lt_size e)) e
  exact h pins _ σ H xs _ Q I1 (by simpa using rv) hw
def gSub (to ti : TE) (t : TSet) : TG := fun v σ H Q => to σ H fun o H1 => ti σ H1 fun i H2 => t o i v H2 fun H3 => Q σ H3
theorem pg_sub {o i : Expr} {to ti : TE} {t : TSet} (ho : PE X o to) (hi : PE X i ti) (hs : PSet X t)
    (ha : ∀ v, assign (.Subscript o i pos) X.env v = (do
      let ov ← holding [v] (eval o X.env)
      let iv ← holding [v, ov] (eval i X.env)
      standAt pos
      holding [v, ov, iv] (setItem ov iv v)
      release [v, ov, iv] []) := by intro _; rfl) : PG X (.Subscript o i pos) (gSub to ti t) := by
  intro pins s σ H v u Q I r h
  rw [ha]
  refine wpAny_bind (wpAny_holding (thn (ho pins s σ H _ I h) fun ov s1 ⟨x, H1, I1, r1, q1⟩ => ?_))
  refine wpAny_bind (wpAny_holding (thn (hi pins s1 σ H1 _ I1 q1) fun iv s2 ⟨y, H2, I2, r2, q2⟩ => ?_))
  refine wpAny_bind (wpAny_standAt (wpAny_bind (wpAny_holding (thn (hs pins s2 σ H2 x y v ov iv u _ I2 r1 r2 r q2) fun _ s3 ⟨H3, I3, q3⟩ => ?_))))
  exact wpAny_release ⟨σ, H3, I3, q3⟩
def tAsg (te : TE) (g : TG) : TS := fun D σ H => te σ H fun x H1 => g x σ H1 D.nx
theorem ps_asg {tg e : Expr} {te : TE} {g : TG} (he : PE X e te) (hg : PG X tg g) (hs : swapsWithSole [tg] e pos.line X.env = pure false := by rfl) (hw : swappedStores [tg] e X.env = pure none := by rfl)
    (h1 : (assignEach [tg] X.env).map (·.2) = [assign tg X.env] := by rfl) : PS X (.Assign [tg] e pos) (tAsg te g) := by
  intro pins s σ H D I h
  refine wpAny_Assign_stores (thn (he pins s σ H _ I h) fun v s1 ⟨x, H1, I1, r1, q1⟩ => ?_) hs hw
  rw [h1]
  exact thn (hg pins s1 σ H1 x v _ I1 r1 q1) fun _ s2 q => q
theorem ps_set {i : Nat} {x : Str} {e : Expr} {te : TE} {pos' : Pos} (hN : X.N.Nodup) (hi : X.N[i]? = some x) (hx : Loc X.env.scope x) (he : PE X e te) (hs : swapsWith e (some (.Name x pos')) pos.line X.env = pure false := by rfl) (hf : X.fn x = true ∨ X.env.scope.names.lookup x = some .local := by first | exact .inl rfl | exact .inr rfl | assumption) :
    PS X (.Assign [.Name x pos'] e pos) (tAsg te (gName i)) := by
  intro pins s σ H D I h
  refine wpAny_Assign_Name (thn (he pins s σ H _ I h) fun v s1 ⟨y, H1, I1, r1, q1⟩ => ?_) hs
  exact store_ok I1 hN hi hx r1 (fun s2 I2 => ⟨_, H1, I2, q1⟩) hf
def tPar (i j : Nat) (ta : TA) : TS := fun D σ H => ta σ H fun vs H1 => ∃ v w, vs = [v, w] ∧ D.nx ((σ.set i (some v)).set j (some w)) H1
def tAug (i : Nat) (te : TE) (ti : TIp) : TS := fun D σ H => ∃ x, σ[i]? = some (some x) ∧ te σ H fun y H1 => ti x y H1 fun z H2 => D.nx (σ.set i (some z)) H2
def tAugS (to ti te : TE) (tget : V → V → Hp → VK → Prop) (tip : TIp) (tset : TSet) : TS := fun D σ H => to σ H fun o H1 => ti σ H1 fun i H2 => tget o i H2 fun x H3 => te σ H3 fun y H4 => tip x y H4 fun z H5 => tset o i z H5 fun H6 => D.nx σ H6
def PGet (X : Cx) (t : V → V → Hp → VK → Prop) : Prop :=
  ∀ (pins : List (Addr × Obj)) (s : Shared) (σ : St) (H : Hp) (o i : V) (ov iv : Value) (Q : VK), Inv X pins σ H s → RelV o ov → RelV i iv → t o i H Q →
    wpAny (model X.prog X.w) X.A (getItem ov iv) (EP X pins σ Q) X.xe s
theorem ps_augS {o i e : Expr} {to ti te : TE} {tget : V → V → Hp → VK → Prop} {tip : TIp} {tset : TSet} {op : Operator} {tpos : Pos} (ho : PE X o to) (hi : PE X i ti) (hg : PGet X tget) (he : PE X e te) (hp : PIp X op tip) (hs : PSet X tset)
    (ha : ∀ ov iv new, augStore i ov iv new = (do holding [new, ov, iv] (setItem ov iv new); release [new, ov, iv] []; pure .next) := by intros; rfl) : PS X (.AugAssign (.Subscript o i tpos) op e pos) (tAugS to ti te tget tip tset) := by
  intro pins s σ H D I h
  refine wpAny_AugAssign_SubscriptAny (thn (ho pins s σ H _ I h) fun ov s1 ⟨x1, H1, I1, r1, q1⟩ => ?_) ha
  refine thn (hi pins s1 σ H1 _ I1 q1) fun iv s2 ⟨x2, H2, I2, r2, q2⟩ => ?_
  refine thn (hg pins s2 σ H2 x1 x2 ov iv _ I2 r1 r2 q2) fun old s3 ⟨x3, H3, I3, r3, q3⟩ => ?_
  refine thn (he pins s3 σ H3 _ I3 q3) fun v s4 ⟨x4, H4, I4, r4, q4⟩ => ?_
  refine thn (hp pins s4 σ H4 x3 x4 old v _ I4 r3 r4 q4) fun new s5 ⟨x5, H5, I5, r5, q5⟩ => ?_
  exact thn (hs pins s5 σ H5 x1 x2 x5 ov iv new _ I5 r1 r2 r5 q5) fun _ s6 ⟨H6, I6, q6⟩ => ⟨σ, H6, I6, q6⟩
def ipI (f : Int → Int → Int) : TIp := fun x y H Q => ∃ i j, x = .int i ∧ y = .int j ∧ Q (.int (f i j)) H
theorem ip_add : PIp X .Add (ipI fun i j => i + j) := by
  intro pins s σ H x y v u Q I r1 r2 h
  obtain ⟨i, j, e1, e2, q⟩ := h
  subst e1; subst e2
  obtain ⟨t, rfl⟩ := r1
  obtain ⟨t', rfl⟩ := r2
  exact iadd_int ⟨.int _, H, I.tok _, ⟨_, rfl⟩, q⟩
end
section
variable {X : Cx} {pos : Pos}
def tWhile (c : TT) (tb : TS) : TS := fun D σ H => ∃ W : Nat → St → Hp → Prop, (∃ m, W m σ H) ∧ ∀ m σ H, W m σ H →
  c σ H fun b H1 => if b = true then ∃ N : St → Hp → Prop, (∀ σ' H', N σ' H' → ∃ m', m' < m ∧ W m' σ' H') ∧ tb { D with nx := N, ct := N, bk := D.nx } σ H1 else D.nx σ H1
end
structure It where
  go : Nat → Hp → Prop
  yld : Nat → Hp → V → Hp → Prop
  stop : Nat → Hp → Prop
def FpOk (X : Cx) (pins : List (Addr × Obj)) (H : Hp) (b : Addr) : Prop :=
  H b = none ∧ b ≠ X.env.locals ∧ b ∉ X.fs ∧ (b ∈ X.ex ∨ X.s_0.heap.objs.size ≤ b) ∧ (∀ x c, X.env.cells.lookup x = some c → c ≠ b) ∧ ∀ p ∈ X.pn ++ pins, p.1 ≠ b
theorem Inv.fpOk {X : Cx} {pins : List (Addr × Obj)} {σ : St} {H H' : Hp} {s : Shared} {b : Addr} (I : Inv X pins σ H s) (hb : s.heap.objs.size ≤ b) (hn : H' b = none) : FpOk X pins H' b := by
  refine ⟨hn, Nat.ne_of_gt (Nat.lt_of_lt_of_le I.lt hb), I.nofs hb, .inr (Nat.le_trans I.sz hb), fun x c e z => ?_, fun p hp z => ?_⟩
  · obtain ⟨v, q⟩ := I.cell x c e
    exact absurd (Nat.lt_of_lt_of_le q.lt (by rw [z]; exact hb)) (Nat.lt_irrefl _)
  · exact absurd (Nat.lt_of_lt_of_le (Heap.lt_size (I.pin p hp).1) (by rw [z]; exact hb)) (Nat.lt_irrefl _)
structure Turn (P : Program) (w : World) (K : PySem.W.Frag) (tg : Expr) (J : It) (fp : List Addr) (it : Addr) (tn : Nat → Heap → Prop) : Prop where
  mem : it ∈ fp
  obj : ∀ i h, tn i h → ∀ b ∈ fp, ∃ o, h.get? b = some o ∧ ∀ v, o.data ≠ .cell v
  keep : ∀ i h h', tn i h → (∀ b ∈ fp, ∀ o, h.get? b = some o → h'.get? b = some o) → tn i h'
  item : ∀ (X : Cx), X.prog = P → X.w = w → X.K = K → X.calm = true → ∀ (i : Nat) (pins : List (Addr × Obj)) (s : Shared) (σ : St) (H : Hp) (E : Value → Shared → Prop), Inv X pins σ H s → (∀ b ∈ fp, FpOk X pins H b) → tn i s.heap → J.go i H →
    wpAny (model P w) X.A (pyNext (.ref it)) (fun r s1 => ∃ u, r = some u ∧
      wpAny (model P w) X.A (letOwnedTupleGo tg (.ref it) u) (fun _ s2 => ∃ x H', Inv X pins σ H' s2 ∧ RelV x u ∧ J.yld i H x H' ∧ tn (i + 1) s2.heap ∧ ∀ b ∈ fp, H' b = none) E s1) E s
  done : ∀ (X : Cx), X.prog = P → X.w = w → X.K = K → X.calm = true → ∀ (i : Nat) (pins : List (Addr × Obj)) (s : Shared) (σ : St) (H : Hp) (E : Value → Shared → Prop), Inv X pins σ H s → (∀ b ∈ fp, FpOk X pins H b) → tn i s.heap → J.stop i H →
    wpAny (model P w) X.A (pyNext (.ref it)) (fun r s1 => r = none ∧ Inv X pins σ H s1) E s
  self : ∀ (A : Around) (i : Nat) (s : Shared) (Q : Value → Shared → Prop) (E : Value → Shared → Prop), tn i s.heap → Q (.ref it) s → wpAny (model P w) A (pyIter (.ref it)) Q E s
abbrev TI := St → Hp → (It → Hp → Prop) → Prop
def PIE (X : Cx) (pins : List (Addr × Obj)) (σ : St) (tg : Expr) (R : It → Hp → Prop) (itv : Value) (s2 : Shared) : Prop :=
  ∃ (it : Addr) (fp : List Addr) (tn : Nat → Heap → Prop) (J : It) (H' : Hp), itv = .ref it ∧ Inv X pins σ H' s2 ∧ Turn X.prog X.w X.K tg J fp it tn ∧ tn 0 s2.heap ∧ (∀ b ∈ fp, FpOk X pins H' b) ∧ R J H'
def PI (X : Cx) (tg iter : Expr) (wi : TI) : Prop :=
  ∀ (pins : List (Addr × Obj)) (s : Shared) (σ : St) (H : Hp) (R : It → Hp → Prop), Inv X pins σ H s → wi σ H R →
    wpAny (model X.prog X.w) X.A (eval iter X.env) (fun v s1 => wpAny (model X.prog X.w) X.A (pyIter v) (PIE X pins σ tg R) X.xe s1) X.xe s
theorem go_of {M : Model} {A : Around} {E : Value → Shared → Prop} {s : Shared} {tg : Expr} {it : Addr} {u : Value} {o : Obj} {n : String} {vs : Array Value} {Q : Unit → Shared → Prop} (ho : s.heap.get? it = some o) (hc : o.cls = .type n) (hd : o.data = .fields vs)
    (hn : ["enumerate", "zip", "dict_itemiterator", "dict_reverseitemiterator", "odict_iterator", "itertools.zip_longest", "itertools.pairwise"].contains n = false) (hQ : Q () s) : wpAny M A (letOwnedTupleGo tg (.ref it) u) Q E s := by
  unfold letOwnedTupleGo
  cases tg <;> first
    | exact wpAny_pure hQ
    | (cases u <;> first
        | exact wpAny_pure hQ
        | (refine wpAny_bind (wpAny_load ho ?_)
           rw [hc, hd]
           show wpAny M A (if (["enumerate", "zip", "dict_itemiterator", "dict_reverseitemiterator", "odict_iterator", "itertools.zip_longest", "itertools.pairwise"].contains n && vs[0]? == some (rawInt _)) = true then _ else _) Q E s
           rw [if_neg (by intro h; rw [hn, Bool.false_and] at h; cases h)]
           exact wpAny_pure hQ))
def Itl (K : PySem.W.Frag) (a : Addr) : It :=
  ⟨fun i H => ∃ xs x, SqL K H a xs ∧ xs[i]? = some x, fun i H x H' => H' = H ∧ ∀ xs, SqL K H a xs → xs[i]? = some x, fun i H => ∃ xs, SqL K H a xs ∧ xs.length ≤ i⟩
def Itt (K : PySem.W.Frag) (a : Addr) : It :=
  ⟨fun i H => ∃ xs x, SqT K H a xs ∧ xs[i]? = some x, fun i H x H' => H' = H ∧ ∀ xs, SqT K H a xs → xs[i]? = some x, fun i H => ∃ xs, SqT K H a xs ∧ xs.length ≤ i⟩
def Itr (lo : Int) (n : Nat) : It := ⟨fun i _ => i < n, fun i H x H' => H' = H ∧ x = .int (lo + i), fun i _ => n ≤ i⟩
theorem turn_list {P : Program} {w : World} {K : PySem.W.Frag} {tg : Expr} (a it : Addr) : Turn P w K tg (Itl K a) [it] it (fun i h => h.IsListIter it a i) where
  mem := by simp
  obj := fun i h st b hb => by
    have e : b = it := by simpa using hb
    subst e
    obtain ⟨o, e, c, d⟩ := st
    exact ⟨o, e, fun v z => by rw [d] at z; cases z⟩
  keep := fun i h h' st k => st.at fun o e => k it (by simp) o e
  item := by
    intro X hP hw hK hc i pins s σ H E I hf st hg
    subst hP hw hK
    obtain ⟨xs, x, hq, hx⟩ := hg
    obtain ⟨its, rv, p, hz⟩ := I.list hq
    obtain ⟨u, hu, ru⟩ := rv.get hx
    obtain ⟨f0, f1, f2, f3, f4, f5⟩ := hf it (by simp)
    refine wpAny_pyNext_list_item st p.isList (x := u) (by simpa using hu) fun h' st' sb => ?_
    have I1 : Inv X pins σ H { s with heap := h' } := I.turned (t' := s.toks) (fun b o hb e => (sb.2 b hb).trans e) f0 f1 f3 f4 f5
    obtain ⟨o, e, c, d⟩ := id st'
    exact ⟨u, rfl, go_of (s := { s with heap := h' }) e c d (by decide) ⟨x, H, I1, ru, ⟨rfl, fun ys hy => by rw [I.list_inj hy hq]; exact hx⟩, st', fun b hb => (hf b hb).1⟩⟩
  done := by
    intro X hP hw hK hc i pins s σ H E I hf st hg
    subst hP hw hK
    obtain ⟨xs, hq, hx⟩ := hg
    obtain ⟨its, rv, p, hz⟩ := I.list hq
    obtain ⟨f0, f1, f2, f3, f4, f5⟩ := hf it (by simp)
    have hl := rv.length
    exact wpAny_pyNext_list_end (I.ok.hd hc) st p.isList (by simp; omega) fun h' eb => ⟨rfl, I.turned (t' := s.toks) (fun b o hb e => eb b o hb e) f0 f1 f3 f4 f5⟩
  self := fun _ _ _ _ _ st h => wpAny_pyIter_listiter st h
theorem turn_range {P : Program} {w : World} {K : PySem.W.Frag} {tg : Expr} (it : Addr) (lo : Int) (n : Nat) : Turn P w K tg (Itr lo n) [it] it (fun i h => IsRangeIter h it (lo + (i : Nat) * 1) ((n : Int) - (i : Nat)) 1) where
  mem := by simp
  obj := fun i h st b hb => by
    have e : b = it := by simpa using hb
    subst e
    exact ⟨_, st, fun v z => by
      have z' : Data.fields _ = Data.cell v := z
      cases z'⟩
  keep := fun i h h' st k => k it (by simp) _ st
  item := by
    intro X hP hw hK hc i pins s σ H E I hf st hg
    subst hP hw hK
    obtain ⟨f0, f1, f2, f3, f4, f5⟩ := hf it (by simp)
    have W := Walks.range (prog := X.prog) (w := X.w) (I.ok.hd hc) it lo 1 n
    refine W.item i s _ _ hg st fun v h' tk hv st' kk => ?_
    obtain ⟨t, rfl⟩ := hv
    have I1 : Inv X pins σ H { s with heap := h', toks := tk } := I.turned (fun b o hb e => kk b o (by simpa using hb) e) f0 f1 f3 f4 f5
    refine ⟨_, rfl, go_of (s := { s with heap := h', toks := tk }) (n := "range_iterator") st' rfl rfl (by decide) ⟨.int (lo + i), H, I1, ⟨t, ?_⟩, ⟨rfl, rfl⟩, st', fun b hb => (hf b hb).1⟩⟩
    rw [Int.mul_one]
  done := by
    intro X hP hw hK hc i pins s σ H E I hf st hg
    subst hP hw hK
    obtain ⟨f0, f1, f2, f3, f4, f5⟩ := hf it (by simp)
    exact wpAny_pyNext_range_end (I.ok.hd hc) st (by have : n ≤ i := hg; omega) fun h' eb => ⟨rfl, I.turned (t' := s.toks) (fun b o hb e => eb b o hb e) f0 f1 f3 f4 f5⟩
  self := fun _ _ _ _ _ st h => wpAny_pyIter_rangeiter st h
end L2
namespace L2
open PySem PySem.Spec PyProof.Rows
section
variable {X : Cx} {tg : Expr}
def iList (K : PySem.W.Frag) (tl : TE) : TI := fun σ H R => tl σ H fun x H1 => ∃ a, x = .ref a ∧ (∃ xs, SqL K H1 a xs) ∧ R (Itl K a) H1
def iTup (K : PySem.W.Frag) (tl : TE) : TI := fun σ H R => tl σ H fun x H1 => ∃ a, x = .ref a ∧ (∃ xs, SqT K H1 a xs) ∧ R (Itt K a) H1
theorem pi_list {l : Expr} {tl : TE} (hl : PE X l tl) : PI X tg l (iList X.K tl) := by
  intro pins s σ H R I h
  refine thn (hl pins s σ H _ I h) fun v s1 ⟨x, H1, I1, r1, q1⟩ => ?_
  obtain ⟨a, e, ⟨xs, hq⟩, q⟩ := q1
  subst e
  cases r1
  obtain ⟨its, rv, p, hz⟩ := I1.list hq
  refine wpAny_pyIter_list p.isList ?_
  refine ⟨s1.heap.objs.size, [s1.heap.objs.size], _, _, H1, rfl, I1.kept (t' := s1.toks) fun b o e => Heap.get?_push_of_some _ e, turn_list a _, ⟨_, Heap.get?_push_size _ rfl, rfl, rfl⟩, fun b hb => ?_, q⟩
  have e : b = s1.heap.objs.size := by simpa using hb
  subst e
  exact I1.fpOk (Nat.le_refl _) (I1.hok.fresh (Nat.le_refl _))
theorem range_it {pins : List (Addr × Obj)} {σ : St} {H : Hp} {s : Shared} {R : It → Hp → Prop} {E : Value → Shared → Prop} {lo hi : Int} {t u v : Tok} {tk : Nat} (I : Inv X pins σ H s) (h1 : -(2 ^ 62) ≤ lo) (h2 : lo < 2 ^ 62) (h3 : -(2 ^ 62) ≤ hi) (h4 : hi < 2 ^ 62)
    (q : R (Itr lo (hi - lo).toNat) H) : wpAny (model X.prog X.w) X.A (pyIter (.ref s.heap.objs.size)) (PIE X pins σ tg R) E { s with heap := s.heap.push { cls := .type "range", data := .fields #[.int lo t, .int hi u, .int 1 v] }, toks := tk } := by
  refine wpAny_pyIter_range (IsRange.new ..) (small_one h1 h2 h3 h4) ?_
  have I1 : Inv X pins σ H { s with heap := s.heap.push { cls := .type "range", data := .fields #[.int lo t, .int hi u, .int 1 v] }, toks := tk } := I.kept fun b o e => Heap.get?_push_of_some _ e
  refine ⟨(s.heap.push { cls := .type "range", data := .fields #[.int lo t, .int hi u, .int 1 v] }).objs.size, [(s.heap.push { cls := .type "range", data := .fields #[.int lo t, .int hi u, .int 1 v] }).objs.size], _, _, H, rfl,
    I1.kept (t' := tk) fun b o e => Heap.get?_push_of_some _ e, turn_range _ lo (hi - lo).toNat, ?_, fun b hb => ?_, q⟩
  · have e1 : lo + ((0 : Nat) : Int) * 1 = lo := by simp
    have e2 : (((hi - lo).toNat : Nat) : Int) - ((0 : Nat) : Int) = Builtin.Range.rangeSize lo hi 1 := by rw [rangeSize_one]; split <;> omega
    show IsRangeIter _ _ (lo + ((0 : Nat) : Int) * 1) ((((hi - lo).toNat : Nat) : Int) - ((0 : Nat) : Int)) 1
    rw [e1, e2]
    exact Heap.get?_push_size _ rfl
  · have e : b = (s.heap.push { cls := .type "range", data := .fields #[.int lo t, .int hi u, .int 1 v] }).objs.size := by simpa using hb
    subst e
    exact I1.fpOk (Nat.le_refl _) (I1.hok.fresh (Nat.le_refl _))
def iRng1 (ta : TA) : TI := fun σ H R => ta σ H fun vs H1 => ∃ j : Int, vs = [.int j] ∧ -(2 ^ 62) ≤ j ∧ j < 2 ^ 62 ∧ R (Itr 0 j.toNat) H1
def iRng2 (ta : TA) : TI := fun σ H R => ta σ H fun vs H1 => ∃ i j : Int, vs = [.int i, .int j] ∧ (-(2 ^ 62) ≤ i ∧ i < 2 ^ 62 ∧ -(2 ^ 62) ≤ j ∧ j < 2 ^ 62) ∧ R (Itr i (j - i).toNat) H1
theorem pi_range1 {a : Expr} {ta : TA} {p pos : Pos} (hg : Gl X "range") (hm : X.mg "range" = none) (ha : PA X [a] ta) (hs : starEach [a] X.env = [(false, eval a X.env)] := by rfl) : PI X tg (.Call (.Name "range" p) [a] [] pos) (iRng1 ta) := by
  intro pins s σ H R I h
  refine Call_ (ld_blt I hg hm boot_range (PyProof.Rows.callWith_type1 (thn (ha pos pins s σ H _ I h) fun us s1 ⟨vs, H1, I1, r1, q1⟩ => ?_) hs rfl))
  obtain ⟨j, e, q1, q2, q⟩ := q1
  subst e
  cases r1 with
  | cons r rr =>
    cases rr
    obtain ⟨t, rfl⟩ := r
    exact call_range_1 (range_it I1 (by omega) (by omega) q1 q2 (by simpa using q))
theorem pi_range2 {a b : Expr} {ta : TA} {p pos : Pos} (hg : Gl X "range") (hm : X.mg "range" = none) (ha : PA X [a, b] ta) (hs : starEach [a, b] X.env = [(false, eval a X.env), (false, eval b X.env)] := by rfl) (hs2 : starEach [b] X.env = [(false, eval b X.env)] := by rfl) :
    PI X tg (.Call (.Name "range" p) [a, b] [] pos) (iRng2 ta) := by
  intro pins s σ H R I h
  refine Call_ (ld_blt I hg hm boot_range (PyProof.Rows.callWith_type1 (thn (ha pos pins s σ H _ I h) fun us s1 ⟨vs, H1, I1, r1, q1⟩ => ?_) (by rw [hs, hs2]) (by rw [hs2]; rfl)))
  obtain ⟨i, j, e, ⟨q1, q2, q3, q4⟩, q⟩ := q1
  subst e
  cases r1 with
  | cons r rr =>
    cases rr with
    | cons r' rr =>
      cases rr
      obtain ⟨t, rfl⟩ := r
      obtain ⟨t', rfl⟩ := r'
      exact call_range_2 (range_it I1 q1 q2 q3 q4 q)
def tFor (wi : TI) (g : TG) (tb : TS) : TS := fun D σ H => wi σ H fun J H1 => ∃ W : Nat → Nat → St → Hp → Prop, (∃ m, W 0 m σ H1) ∧ ∀ i m σ H, W i m σ H →
  (J.stop i H ∧ D.nx σ H) ∨ (J.go i H ∧ ∃ N : St → Hp → Prop, (∀ σ' H', N σ' H' → ∃ m', m' < m ∧ W (i + 1) m' σ' H') ∧ ∀ x H', J.yld i H x H' → g x σ H' fun σ2 H2 => tb { D with nx := N, ct := N, bk := D.nx } σ2 H2)
def pinsAt (fp : List Addr) (h : Heap) : List (Addr × Obj) := fp.filterMap fun b => (h.get? b).map fun o => (b, o)
theorem mem_pinsAt {fp : List Addr} {h : Heap} {b : Addr} {o : Obj} (hb : b ∈ fp) (e : h.get? b = some o) : (b, o) ∈ pinsAt fp h := List.mem_filterMap.mpr ⟨b, hb, by rw [e]; rfl⟩
theorem of_pinsAt {fp : List Addr} {h : Heap} {p : Addr × Obj} (hp : p ∈ pinsAt fp h) : p.1 ∈ fp ∧ h.get? p.1 = some p.2 := by
  obtain ⟨b, hb, e⟩ := List.mem_filterMap.mp hp
  cases q : h.get? b with
  | none => rw [q] at e; cases e
  | some o =>
    rw [q] at e
    have e' : (b, o) = p := Option.some.inj e
    subst e'
    exact ⟨hb, q⟩
theorem Inv.pinned {pins : List (Addr × Obj)} {σ : St} {H : Hp} {s : Shared} {fp : List Addr} (I : Inv X pins σ H s) (hf : ∀ b ∈ fp, FpOk X pins H b) (ho : ∀ b ∈ fp, ∃ o, s.heap.get? b = some o ∧ ∀ v, o.data ≠ .cell v) : Inv X (pins ++ pinsAt fp s.heap) σ H s :=
  I.pins_of fun p hp => (List.mem_append.mp hp).elim (fun z => I.pin p (List.mem_append_right _ z)) fun z => by
    obtain ⟨hb, e⟩ := of_pinsAt z
    obtain ⟨f0, f1, f2, _⟩ := hf p.1 hb
    obtain ⟨o, e', d⟩ := ho p.1 hb
    rw [e] at e'; cases e'
    exact ⟨e, f0, f1, f2, d⟩
theorem Inv.unpinned {pins pl : List (Addr × Obj)} {σ : St} {H : Hp} {s : Shared} (I : Inv X (pins ++ pl) σ H s) : Inv X pins σ H s := I.pins_of fun p hp => I.pin p (List.mem_append_right _ (List.mem_append_left _ hp))
theorem ps_for {iter : Expr} {body : List Stmt} {wi : TI} {g : TG} {tb : TS} {pos : Pos} (hp : PassesOwn (model X.prog X.w) X.A X.env X.xe) (hc : X.calm = true) (hi : PI X tg iter wi) (hg : PG X tg g) (hb : PSs X body tb)
    (hs : ∀ x, foldedSetIterable iter X.env x = pure x := by intro _; rfl) : PS X (.For tg iter body [] pos) (tFor wi g tb) := by
  intro pins s σ H D I h
  refine wpAny_For (thn (hi pins s σ H _ I h) fun v s1 h1 => thn h1 fun itv s2 h2 => ?_) hs
  obtain ⟨it, fp, tn, J, H2, e, I2, T, st2, f2, W, ⟨m0, w0⟩, turn⟩ := h2
  subst e
  have stat : ∀ {H' : Hp}, (∀ b ∈ fp, H' b = none) → ∀ b ∈ fp, FpOk X pins H' b := fun hn b hb => ⟨hn b hb, (f2 b hb).2⟩
  refine codeAny_forLoop_any (fun n s' => ∃ i σ' H', Inv X pins σ' H' s' ∧ tn i s'.heap ∧ (∀ b ∈ fp, H' b = none) ∧ W i n σ' H') ?_ m0 ⟨0, σ, H2, I2, st2, fun b hb => (f2 b hb).1, w0⟩
  rintro n s3 ⟨i, σ3, H3, I3, st3, fr3, w3⟩
  rcases turn i n σ3 H3 w3 with ⟨stop, qn⟩ | ⟨go, N, hN, step⟩
  · refine wpAny_passesOwn hp (thn (T.done X rfl rfl rfl hc i pins s3 σ3 H3 X.xe I3 (stat fr3) st3 stop) fun r s4 ⟨hr, I4⟩ => ?_)
    subst hr
    exact wpAny_execs_nil ⟨σ3, H3, I4, qn⟩
  · refine wpAny_passesOwn hp (thn (T.item X rfl rfl rfl hc i pins s3 σ3 H3 X.xe I3 (stat fr3) st3 go) fun r s4 ⟨u, hr, h4⟩ => ?_)
    subst hr
    refine wpAny_passesOwn hp (thn h4 fun _ s5 ⟨x, H5, I5, r5, y5, st5, fr5⟩ => ?_)
    have I5' := I5.pinned (stat fr5) (T.obj _ _ st5)
    refine wpAny_passesOwn hp (thn (hg _ s5 σ3 H5 x u _ I5' r5 (step x H5 y5)) fun _ s6 ⟨σ6, H6, I6, q6⟩ => ?_)
    refine wpAny_passesOwn hp (thn (hb _ s6 σ6 H6 _ I6 q6) fun f s7 q7 => ?_)
    have again : ∀ {σ7 : St} {H7 : Hp}, Inv X (pins ++ pinsAt fp s5.heap) σ7 H7 s7 → N σ7 H7 → ∃ m, m < n ∧ ∃ i σ' H', Inv X pins σ' H' s7 ∧ tn i s7.heap ∧ (∀ b ∈ fp, H' b = none) ∧ W i m σ' H' := fun {σ7 H7} I7 n7 => by
      obtain ⟨m', hm, w7⟩ := hN σ7 H7 n7
      refine ⟨m', hm, i + 1, σ7, H7, I7.unpinned, T.keep _ _ _ st5 fun b hb o e => (I7.pin (b, o) (List.mem_append_right _ (List.mem_append_right _ (mem_pinsAt hb e)))).1, fun b hb => ?_, w7⟩
      obtain ⟨o, e, d⟩ := T.obj _ _ st5 b hb
      exact (I7.pin (b, o) (List.mem_append_right _ (List.mem_append_right _ (mem_pinsAt hb e)))).2.1
    cases f with
    | next => obtain ⟨σ7, H7, I7, n7⟩ := q7; exact again I7 n7
    | cont => obtain ⟨σ7, H7, I7, n7⟩ := q7; exact again I7 n7
    | brk => obtain ⟨σ7, H7, I7, q7⟩ := q7; exact ⟨σ7, H7, I7.unpinned, q7⟩
    | ret v => obtain ⟨x7, σ7, H7, I7, r7, q7⟩ := q7; exact ⟨x7, σ7, H7, I7.unpinned, r7, q7⟩
end
theorem for_list {K : PySem.W.Frag} {a : Addr} {xs : List V} {g : TG} {tb : TS} {D : Ends} {σ : St} {H : Hp} (Pv : Nat → St → Hp → Prop) (h0 : Pv 0 σ H) (hl : ∀ i σ H, i ≤ xs.length → Pv i σ H → SqL K H a xs)
    (hs : ∀ i x σ H, xs[i]? = some x → Pv i σ H → g x σ H fun σ2 H2 => tb { D with nx := Pv (i + 1), ct := Pv (i + 1), bk := D.nx } σ2 H2) (hd : ∀ σ H, Pv xs.length σ H → D.nx σ H) :
    ∃ W : Nat → Nat → St → Hp → Prop, (∃ m, W 0 m σ H) ∧ ∀ i m σ H, W i m σ H →
      ((Itl K a).stop i H ∧ D.nx σ H) ∨ ((Itl K a).go i H ∧ ∃ N : St → Hp → Prop, (∀ σ' H', N σ' H' → ∃ m', m' < m ∧ W (i + 1) m' σ' H') ∧ ∀ x H', (Itl K a).yld i H x H' → g x σ H' fun σ2 H2 => tb { D with nx := N, ct := N, bk := D.nx } σ2 H2) := by
  refine ⟨fun i m σ H => m = xs.length - i ∧ i ≤ xs.length ∧ Pv i σ H, ⟨xs.length, by simp, Nat.zero_le _, h0⟩, ?_⟩
  rintro i m σ H ⟨rfl, hi, p⟩
  have q := hl i σ H hi p
  by_cases hlt : i < xs.length
  · refine .inr ⟨⟨xs, xs[i], q, by simp [hlt]⟩, Pv (i + 1), fun σ' H' p' => ⟨xs.length - (i + 1), by omega, rfl, hlt, p'⟩, fun x H' y => ?_⟩
    obtain ⟨e, y⟩ := y
    subst e
    exact hs i x σ _ (y xs q) p
  · have e : i = xs.length := by omega
    subst e
    exact .inl ⟨⟨xs, q, Nat.le_refl _⟩, hd σ H p⟩
theorem for_range {lo : Int} {n : Nat} {g : TG} {tb : TS} {D : Ends} {σ : St} {H : Hp} (Pv : Nat → St → Hp → Prop) (h0 : Pv 0 σ H)
    (hs : ∀ i σ H, i < n → Pv i σ H → g (.int (lo + i)) σ H fun σ2 H2 => tb { D with nx := Pv (i + 1), ct := Pv (i + 1), bk := D.nx } σ2 H2) (hd : ∀ σ H, Pv n σ H → D.nx σ H) :
    ∃ W : Nat → Nat → St → Hp → Prop, (∃ m, W 0 m σ H) ∧ ∀ i m σ H, W i m σ H →
      ((Itr lo n).stop i H ∧ D.nx σ H) ∨ ((Itr lo n).go i H ∧ ∃ N : St → Hp → Prop, (∀ σ' H', N σ' H' → ∃ m', m' < m ∧ W (i + 1) m' σ' H') ∧ ∀ x H', (Itr lo n).yld i H x H' → g x σ H' fun σ2 H2 => tb { D with nx := N, ct := N, bk := D.nx } σ2 H2) := by
  refine ⟨fun i m σ H => m = n - i ∧ i ≤ n ∧ Pv i σ H, ⟨n, by simp, Nat.zero_le _, h0⟩, ?_⟩
  rintro i m σ H ⟨rfl, hi, p⟩
  by_cases hlt : i < n
  · refine .inr ⟨hlt, Pv (i + 1), fun σ' H' p' => ⟨n - (i + 1), by omega, rfl, hlt, p'⟩, fun x H' y => ?_⟩
    obtain ⟨e, y⟩ := y
    subst e y
    exact hs i σ _ hlt p
  · have e : i = n := by omega
    subst e
    exact .inl ⟨Nat.le_refl _, hd σ H p⟩
end L2
namespace L2
open PySem PySem.Spec PyProof.Rows
abbrev R2 := V → V → Hp → VK → Prop
def OpR (X : Cx) (f : Value → Value → Sem Value) (r : R2) : Prop :=
  ∀ (pins : List (Addr × Obj)) (s : Shared) (σ : St) (H : Hp) (x y : V) (v u : Value) (Q : VK), Inv X pins σ H s → RelV x v → RelV y u → r x y H Q →
    wpAny (model X.prog X.w) X.A (f v u) (EP X pins σ Q) X.xe s
def UnR (X : Cx) (f : Value → Sem Value) (r : V → Hp → VK → Prop) : Prop :=
  ∀ (pins : List (Addr × Obj)) (s : Shared) (σ : St) (H : Hp) (x : V) (v : Value) (Q : VK), Inv X pins σ H s → RelV x v → r x H Q →
    wpAny (model X.prog X.w) X.A (f v) (EP X pins σ Q) X.xe s
def CallR (X : Cx) (f : Value) (r : List V → Hp → VK → Prop) : Prop :=
  ∀ (pins : List (Addr × Obj)) (s : Shared) (σ : St) (H : Hp) (xs : List V) (us : List Value) (Q : VK), Inv X pins σ H s → Vals xs us → r xs H Q →
    wpAny (model X.prog X.w) X.A (call f us) (EP X pins σ Q) X.xe s
def TruR (X : Cx) (r : V → Hp → (Bool → Hp → Prop) → Prop) : Prop :=
  ∀ (pins : List (Addr × Obj)) (s : Shared) (σ : St) (H : Hp) (x : V) (v : Value) (Q : Bool → Hp → Prop), Inv X pins σ H s → RelV x v → r x H Q →
    wpAny (model X.prog X.w) X.A (truthy v) (TP X pins σ Q) X.xe s
def tOp (r : R2) (ta tb : TE) : TE := fun σ H Q => ta σ H fun x H1 => tb σ H1 fun y H2 => r x y H2 Q
def tUn (r : V → Hp → VK → Prop) (ta : TE) : TE := fun σ H Q => ta σ H fun x H1 => r x H1 Q
def rI (C : Int → Int → Prop) (g : Int → Int → V) : R2 := fun x y H Q => ∃ i j, x = .int i ∧ y = .int j ∧ C i j ∧ Q (g i j) H
def rI0 (g : Int → Int → V) : R2 := fun x y H Q => ∃ i j, x = .int i ∧ y = .int j ∧ Q (g i j) H
def rU (g : Int → V) : V → Hp → VK → Prop := fun x H Q => ∃ i, x = .int i ∧ Q (g i) H
section
variable {X : Cx} {a b c : Expr} {ta tb tc : TE} {pos : Pos}
theorem binT (ha : PE X a ta) (hb : PE X b tb) {pins : List (Addr × Obj)} {s : Shared} {σ : St} {H : Hp} {R : V → V → Hp → Prop} (I : Inv X pins σ H s)
    (h : ta σ H fun x H1 => tb σ H1 fun y H2 => R x y H2) {Q : Value → Shared → Prop} {f : Value → Value → Sem Value}
    (hf : ∀ v u s2 x y H2, Inv X pins σ H2 s2 → RelV x v → RelV y u → R x y H2 → wpAny (model X.prog X.w) X.A (f v u) Q X.xe s2) :
    wpAny (model X.prog X.w) X.A (eval a X.env) (fun v s₁ => wpAny (model X.prog X.w) X.A (eval b X.env) (fun u s₂ => wpAny (model X.prog X.w) X.A (f v u) Q X.xe s₂) X.xe s₁) X.xe s := by
  refine thn (ha pins s σ H _ I h) fun v s1 ⟨x, H1, I1, r1, q1⟩ => ?_
  refine thn (hb pins s1 σ H1 _ I1 q1) fun u s2 ⟨y, H2, I2, r2, q2⟩ => ?_
  exact hf v u s2 x y H2 I2 r1 r2 q2
theorem pe_op {op : Operator} {r : R2} (ho : OpR X (binaryOp op) r) (ha : PE X a ta) (hb : PE X b tb) : PE X (.BinOp a op b pos) (tOp r ta tb) := by
  intro pins s σ H Q I h
  exact wpAny_BinOp (binT ha hb I h fun v u s2 x y H2 I2 rx ry q => ho pins s2 σ H2 x y v u Q I2 rx ry q)
theorem pe_un {op : UnaryOp} {r : V → Hp → VK → Prop} (ho : UnR X (unaryOp op) r) (ha : PE X a ta) : PE X (.UnaryOp op a pos) (tUn r ta) := by
  intro pins s σ H Q I h
  exact UnaryOp_ (thn (ha pins s σ H _ I h) fun v s1 ⟨x, H1, I1, r1, q1⟩ => ho pins s1 σ H1 x v Q I1 r1 q1)
theorem opI {f : Value → Value → Sem Value} {C : Int → Int → Prop} {g : Int → Int → Int}
    (rule : ∀ (i j : Int) (t u : Tok) (s : Shared) (Q : Value → Shared → Prop) (E : Value → Shared → Prop), C i j → Q (.int (g i j) s.toks) { s with toks := s.toks + 1 } → wpAny (model X.prog X.w) X.A (f (.int i t) (.int j u)) Q E s) :
    OpR X f (rI C fun i j => .int (g i j)) := by
  intro pins s σ H x y v u Q I rx ry h
  obtain ⟨i, j, rfl, rfl, hc, q⟩ := h
  obtain ⟨t, rfl⟩ := rx
  obtain ⟨t', rfl⟩ := ry
  exact rule i j t t' s _ _ hc ⟨.int (g i j), H, I.tok _, ⟨_, rfl⟩, q⟩
theorem opI0 {f : Value → Value → Sem Value} {g : Int → Int → Int}
    (rule : ∀ (i j : Int) (t u : Tok) (s : Shared) (Q : Value → Shared → Prop) (E : Value → Shared → Prop), Q (.int (g i j) s.toks) { s with toks := s.toks + 1 } → wpAny (model X.prog X.w) X.A (f (.int i t) (.int j u)) Q E s) :
    OpR X f (rI0 fun i j => .int (g i j)) := by
  intro pins s σ H x y v u Q I rx ry h
  obtain ⟨i, j, rfl, rfl, q⟩ := h
  obtain ⟨t, rfl⟩ := rx
  obtain ⟨t', rfl⟩ := ry
  exact rule i j t t' s _ _ ⟨.int (g i j), H, I.tok _, ⟨_, rfl⟩, q⟩
theorem opB0 {f : Value → Value → Sem Value} {g : Int → Int → Bool}
    (rule : ∀ (i j : Int) (t u : Tok) (s : Shared) (Q : Value → Shared → Prop) (E : Value → Shared → Prop), Q (.bool (g i j)) s → wpAny (model X.prog X.w) X.A (f (.int i t) (.int j u)) Q E s) :
    OpR X f (rI0 fun i j => .bl (g i j)) := by
  intro pins s σ H x y v u Q I rx ry h
  obtain ⟨i, j, rfl, rfl, q⟩ := h
  obtain ⟨t, rfl⟩ := rx
  obtain ⟨t', rfl⟩ := ry
  exact rule i j t t' s _ _ ⟨.bl (g i j), H, I, rfl, q⟩
def CDiv (i j : Int) : Prop := 0 < j ∧ j < 1073741824
def CDivN (i j : Int) : Prop := j ≠ 0 ∧ j.natAbs < 1073741824
def CPow (i j : Int) : Prop := 0 ≤ j ∧ j ≤ 1000000 ∧ i.natAbs < 2 ^ 64
def CMul (i j : Int) : Prop := (-(2 ^ 64) < i ∧ i < 2 ^ 64) ∨ (-(2 ^ 64) < j ∧ j < 2 ^ 64)
theorem CMul.ok {i j : Int} (h : CMul i j) : IntMulOk i j := by
  rcases h with ⟨h1, h2⟩ | ⟨h1, h2⟩
  · exact .of_left (intBits_le_64 h1 h2)
  · exact .of_right (intBits_le_64 h1 h2)
theorem op_add : OpR X (binaryOp .Add) (rI0 fun i j => .int (i + j)) := opI0 fun _ _ _ _ _ _ _ q => add_int q
theorem op_sub : OpR X (binaryOp .Sub) (rI0 fun i j => .int (i - j)) := opI0 fun _ _ _ _ _ _ _ q => sub_int q
theorem op_mul : OpR X (binaryOp .Mult) (rI CMul fun i j => .int (i * j)) := opI fun _ _ _ _ _ _ _ hc q => mul_int q hc.ok
theorem op_fdiv : OpR X (binaryOp .FloorDiv) (rI CDiv fun i j => .int (i / j)) := opI fun i j _ _ _ _ _ hc q => by
  have h1 : (0 : Int) < j := hc.1
  have h2 : j < 1073741824 := hc.2
  exact floordiv_int (by omega) (by rw [Int.fdiv_eq_ediv_of_nonneg i (by omega)]; exact q) (.inl (PyProof.noPylong_small (by omega)))
theorem op_mod : OpR X (binaryOp .Mod) (rI (fun _ j => 0 < j) fun i j => .int (i % j)) := opI fun i j _ _ _ _ _ hc q => by
  have h1 : (0 : Int) < j := hc
  exact mod_int' (by omega) (by rw [Int.fmod_eq_emod_of_nonneg i (by omega)]; exact q)
theorem op_pow : OpR X (binaryOp .Pow) (rI CPow fun i j => .int (i ^ j.toNat)) := opI fun _ _ _ _ _ _ _ hc q => pow_int_small hc.1 hc.2.1 hc.2.2 q
theorem unI {f : Value → Sem Value} {g : Int → Int}
    (rule : ∀ (i : Int) (t : Tok) (s : Shared) (Q : Value → Shared → Prop) (E : Value → Shared → Prop), Q (.int (g i) s.toks) { s with toks := s.toks + 1 } → wpAny (model X.prog X.w) X.A (f (.int i t)) Q E s) :
    UnR X f (rU fun i => .int (g i)) := by
  intro pins s σ H x v Q I rx h
  obtain ⟨i, rfl, q⟩ := h
  obtain ⟨t, rfl⟩ := rx
  exact rule i t s _ _ ⟨.int (g i), H, I.tok _, ⟨_, rfl⟩, q⟩
theorem un_neg : UnR X (unaryOp .USub) (rU fun i => .int (-i)) := unI fun _ _ _ _ _ q => neg_int q
end
def scal : V → V → Bool
  | .non, .non => true | .non, .int _ => true | .int _, .non => true | .non, .bl _ => true | .bl _, .non => true | .non, .str _ => true | .str _, .non => true
  | .int _, .int _ => true | .bl _, .bl _ => true | .str _, .str _ => true | .byt _, .byt _ => true
  | .int _, .str _ => true | .str _, .int _ => true | .bl _, .str _ => true | .str _, .bl _ => true
  | _, _ => false
def rEq : R2 := fun x y H Q => scal x y = true ∧ Q (.bl (decide (x = y))) H
def rNe : R2 := fun x y H Q => scal x y = true ∧ Q (.bl (!decide (x = y))) H
theorem dec_int {i j : Int} : decide (V.int i = V.int j) = (i == j) := by
  rw [Bool.eq_iff_iff]
  simp
theorem dec_bl {i j : Bool} : decide (V.bl i = V.bl j) = (i == j) := by
  rw [Bool.eq_iff_iff]
  simp
theorem dec_str {i j : Str} : decide (V.str i = V.str j) = (i == j) := by
  rw [Bool.eq_iff_iff]
  simp
theorem dec_byt {i j : Array UInt8} : decide (V.byt i = V.byt j) = (i.toList == j.toList) := by
  rw [Bool.eq_iff_iff]
  cases i
  cases j
  simp
section
variable {X : Cx} {a b c : Expr} {ta tb tc : TE} {pos : Pos}
theorem fin_bl {pins : List (Addr × Obj)} {σ : St} {H : Hp} {s : Shared} {Q : VK} {k k' : Bool} (I : Inv X pins σ H s) (q : Q (.bl k) H) (e : k = k') : EP X pins σ Q (.bool k') s := by
  subst e
  exact ⟨.bl k, H, I, rfl, q⟩
theorem op_eq : OpR X (compareOp .Eq) rEq := by
  intro pins s σ H x y v u Q I rx ry h
  obtain ⟨hs, q⟩ := h
  cases x with
  | non =>
    cases rx
    cases y with
    | non => cases ry; exact PySem.EqNone.eq_none_none (fin_bl I q (by simp))
    | bl j => cases ry; exact PySem.EqNone.eq_none_bool (fin_bl I q (by simp))
    | int j => obtain ⟨t', rfl⟩ := ry; exact PySem.EqNone.eq_none_int (fin_bl I q (by simp))
    | str j => obtain ⟨t', rfl⟩ := ry; exact PySem.EqNone.eq_none_str (fin_bl I q (by simp))
    | _ => exact absurd (show false = true from hs) Bool.false_ne_true
  | bl i =>
    cases rx
    cases y with
    | non => cases ry; exact PySem.EqNone.eq_bool_none (fin_bl I q (by simp))
    | bl j => cases ry; exact eq_bool (fin_bl I q dec_bl)
    | str j => obtain ⟨t', rfl⟩ := ry; exact PySem.EqMixed.eq_bool_str (fin_bl I q (by simp))
    | _ => exact absurd (show false = true from hs) Bool.false_ne_true
  | int i =>
    obtain ⟨t, rfl⟩ := rx
    cases y with
    | non => cases ry; exact PySem.EqNone.eq_int_none (fin_bl I q (by simp))
    | int j => obtain ⟨t', rfl⟩ := ry; exact eq_int (fin_bl I q dec_int)
    | str j => obtain ⟨t', rfl⟩ := ry; exact PySem.EqMixed.eq_int_str (fin_bl I q (by simp))
    | _ => exact absurd (show false = true from hs) Bool.false_ne_true
  | str i =>
    obtain ⟨t, rfl⟩ := rx
    cases y with
    | non => cases ry; exact PySem.EqNone.eq_str_none (fin_bl I q (by simp))
    | bl j => cases ry; exact PySem.EqMixed.eq_str_bool (fin_bl I q (by simp))
    | int j => obtain ⟨t', rfl⟩ := ry; exact PySem.EqMixed.eq_str_int (fin_bl I q (by simp))
    | str j => obtain ⟨t', rfl⟩ := ry; exact eq_str (fin_bl I q dec_str)
    | _ => exact absurd (show false = true from hs) Bool.false_ne_true
  | byt i =>
    obtain ⟨t, rfl⟩ := rx
    cases y with
    | byt j => obtain ⟨t', rfl⟩ := ry; exact PySem.W.eq_bytes (fin_bl I q dec_byt)
    | _ => exact absurd (show false = true from hs) Bool.false_ne_true
  | _ => cases y <;> exact absurd (show false = true from hs) Bool.false_ne_true
theorem op_ne : OpR X (compareOp .NotEq) rNe := by
  intro pins s σ H x y v u Q I rx ry h
  obtain ⟨hs, q⟩ := h
  cases x with
  | non =>
    cases rx
    cases y with
    | non => cases ry; exact PySem.EqNone.ne_none_none (fin_bl I q (by simp))
    | bl j => cases ry; exact PySem.EqNone.ne_none_bool (fin_bl I q (by simp))
    | int j => obtain ⟨t', rfl⟩ := ry; exact PySem.EqNone.ne_none_int (fin_bl I q (by simp))
    | str j => obtain ⟨t', rfl⟩ := ry; exact PySem.EqNone.ne_none_str (fin_bl I q (by simp))
    | _ => exact absurd (show false = true from hs) Bool.false_ne_true
  | bl i =>
    cases rx
    cases y with
    | non => cases ry; exact PySem.EqNone.ne_bool_none (fin_bl I q (by simp))
    | bl j => cases ry; exact ne_bool (fin_bl I q (congrArg not dec_bl))
    | str j => obtain ⟨t', rfl⟩ := ry; exact PySem.EqMixed.ne_bool_str (fin_bl I q (by simp))
    | _ => exact absurd (show false = true from hs) Bool.false_ne_true
  | int i =>
    obtain ⟨t, rfl⟩ := rx
    cases y with
    | non => cases ry; exact PySem.EqNone.ne_int_none (fin_bl I q (by simp))
    | int j => obtain ⟨t', rfl⟩ := ry; exact ne_int (fin_bl I q (congrArg not dec_int))
    | str j => obtain ⟨t', rfl⟩ := ry; exact PySem.EqMixed.ne_int_str (fin_bl I q (by simp))
    | _ => exact absurd (show false = true from hs) Bool.false_ne_true
  | str i =>
    obtain ⟨t, rfl⟩ := rx
    cases y with
    | non => cases ry; exact PySem.EqNone.ne_str_none (fin_bl I q (by simp))
    | bl j => cases ry; exact PySem.EqMixed.ne_str_bool (fin_bl I q (by simp))
    | int j => obtain ⟨t', rfl⟩ := ry; exact PySem.EqMixed.ne_str_int (fin_bl I q (by simp))
    | str j => obtain ⟨t', rfl⟩ := ry; exact ne_str (fin_bl I q (congrArg not dec_str))
    | _ => exact absurd (show false = true from hs) Bool.false_ne_true
  | byt i =>
    obtain ⟨t, rfl⟩ := rx
    cases y with
    | byt j => obtain ⟨t', rfl⟩ := ry; exact PySem.W.ne_bytes (fin_bl I q (congrArg not dec_byt))
    | _ => exact absurd (show false = true from hs) Bool.false_ne_true
  | _ => cases y <;> exact absurd (show false = true from hs) Bool.false_ne_true
theorem op_lt : OpR X (compareOp .Lt) (rI0 fun i j => .bl (decide (i < j))) := opB0 fun _ _ _ _ _ _ _ q => lt_int q
theorem op_le : OpR X (compareOp .LtE) (rI0 fun i j => .bl (decide (i ≤ j))) := opB0 fun _ _ _ _ _ _ _ q => le_int q
theorem op_gt : OpR X (compareOp .Gt) (rI0 fun i j => .bl (decide (j < i))) := opB0 fun _ _ _ _ _ _ _ q => gt_int q
theorem op_ge : OpR X (compareOp .GtE) (rI0 fun i j => .bl (decide (j ≤ i))) := opB0 fun _ _ _ _ _ _ _ q => ge_int q
theorem op_isN : OpR X (compareOp .Is) (fun x y H Q => y = .non ∧ Q (.bl (decide (x = .non))) H) := by
  intro pins s σ H x y v u Q I rx ry h
  obtain ⟨rfl, q⟩ := h
  cases ry
  refine is_none_gen (fin_bl I q ?_)
  cases x <;> first
    | (cases rx; rfl)
    | (obtain ⟨t, rfl⟩ := rx; rfl)
theorem op_notN : OpR X (compareOp .IsNot) (fun x y H Q => y = .non ∧ Q (.bl (!decide (x = .non))) H) := by
  intro pins s σ H x y v u Q I rx ry h
  obtain ⟨rfl, q⟩ := h
  cases ry
  refine isnot_none_gen (fin_bl I q ?_)
  cases x <;> first
    | (cases rx; rfl)
    | (obtain ⟨t, rfl⟩ := rx; rfl)
def isObj : HO → Bool
  | .lst _ => true
  | .ins _ _ _ => true
  | _ => false
theorem nomark (b : Expr) {op : CmpOp} (h : op ≠ .In := by decide) (h2 : op ≠ .NotIn := by decide) : behindInMarks op b = false := by
  have e1 : (op == CmpOp.In) = false := by cases op <;> first | rfl | exact absurd rfl h
  have e2 : (op == CmpOp.NotIn) = false := by cases op <;> first | rfl | exact absurd rfl h2
  cases b <;> simp [behindInMarks, e1, e2]
theorem pe_cmpR {op : CmpOp} {r : R2} (ho : OpR X (compareOp op) r) (ha : PE X a ta) (hb : PE X b tb) (hm : behindInMarks op b = false) : PE X (.Compare a [op] [b] pos) (tOp r ta tb) := by
  intro pins s σ H Q I h
  exact wpAny_Compare1 (binT ha hb I h fun v u s2 x y H2 I2 rx ry q => ho pins s2 σ H2 x y v u Q I2 rx ry q) hm
def tTest (t : TE) : TT := fun σ H Q => t σ H fun x H' => ∃ k, x = .bl k ∧ Q k H'
theorem pt_cmpR {op : CmpOp} {r : R2} (ho : OpR X (compareOp op) r) (ha : PE X a ta) (hb : PE X b tb) (hm : behindInMarks op b = false) : PT X (.Compare a [op] [b] pos) (tTest (tOp r ta tb)) := by
  intro pins s σ H Q I h
  refine wpAny_isTrue_Compare1 (thn (ha pins s σ H _ I h) fun v s1 ⟨x, H1, I1, r1, q1⟩ => thn (hb pins s1 σ H1 _ I1 q1) fun u s2 ⟨y, H2, I2, r2, q2⟩ =>
    thn (ho pins s2 σ H2 x y v u _ I2 r1 r2 q2) fun c s3 ⟨z, H3, I3, r3, k, e, q3⟩ => ?_) hm
  subst e
  cases r3
  exact wpAny_truthy_bool ⟨H3, I3, q3⟩
def tChain (r r' : R2) (ta tb tc : TE) : TE := fun σ H Q => ta σ H fun x H1 => tb σ H1 fun y H2 => r x y H2 fun z H3 => ∃ k, z = .bl k ∧
  (if k = true then tc σ H3 fun w' H4 => r' y w' H4 Q else Q (.bl false) H3)
theorem pt_chain {op op' : CmpOp} {r r' : R2} (ho : OpR X (compareOp op) r) (ho' : OpR X (compareOp op') r') (ha : PE X a ta) (hb : PE X b tb) (hc : PE X c tc)
    (hm : lastMarks [op, op'] [b, c] = false := by with_unfolding_all rfl) : PT X (.Compare a [op, op'] [b, c] pos) (tTest (tChain r r' ta tb tc)) := by
  intro pins s σ H Q I h
  refine isTrue_chain (thn (ha pins s σ H _ I h) fun v s1 ⟨x, H1, I1, r1, q1⟩ => test_link (thn (hb pins s1 σ H1 _ I1 q1) fun u s2 ⟨y, H2, I2, r2, q2⟩ =>
    thn (ho pins s2 σ H2 x y v u _ I2 r1 r2 q2) fun d s3 ⟨z, H3, I3, r3, k, e, q3⟩ => ?_)) hm
  subst e
  cases r3
  refine wpAny_truthy_bool ?_
  cases k with
  | false =>
    obtain ⟨k', e', q'⟩ := q3
    cases e'
    exact ite_ff ⟨H3, I3, q'⟩
  | true =>
    refine ite_tt (test_last (thn (hc pins s3 σ H3 _ I3 q3) fun w' s4 ⟨z', H4, I4, r4, q4⟩ => thn (ho' pins s4 σ H4 y z' u w' _ I4 r2 r4 q4) fun d' s5 ⟨z2, H5, I5, r5, k2, e2, q5⟩ => ?_))
    subst e2
    cases r5
    exact wpAny_truthy_bool ⟨H5, I5, q5⟩
def TruV (K : PySem.W.Frag) (x : V) (H : Hp) (k : Bool) : Prop :=
  match x with
  | .non => k = false
  | .bl b => k = b
  | .int i => k = (i != 0)
  | .str y => y.length ≤ sizeLine ∧ k = ((y.length : Int) != 0)
  | .byt y => y.size ≤ sizeLine ∧ k = ((y.size : Int) != 0)
  | .ref p => (∃ xs, SqL K H p xs ∧ k = !xs.isEmpty) ∨ (∃ xs, SqT K H p xs ∧ k = !xs.isEmpty) ∨ ∃ kvs, H p = some (.dK kvs) ∧ k = !kvs.isEmpty
  | _ => False
theorem line63 : (sizeLine : Nat) < 2 ^ 63 := by rw [sizeLine_eq]; decide
def PlainIxT (b : Expr) : Prop := ∀ o i, subscripted b false o i = operate [o, i] (getItem o i)
theorem vals1 {x : V} {us : List Value} (r : Vals [x] us) : ∃ u, us = [u] ∧ RelV x u := by
  cases r with
  | cons r1 r2 => cases r2; exact ⟨_, rfl, r1⟩
theorem vals2 {x y : V} {us : List Value} (r : Vals [x, y] us) : ∃ u w', us = [u, w'] ∧ RelV x u ∧ RelV y w' := by
  cases r with
  | cons r1 r2 =>
    cases r2 with
    | cons r3 r4 => cases r4; exact ⟨_, _, rfl, r1, r3⟩
theorem call_abs : CallR X (.builtin "abs") (fun xs H Q => ∃ i, xs = [.int i] ∧ Q (.int (if i < 0 then -i else i)) H) := by
  intro pins s σ H xs us Q I r h
  obtain ⟨i, rfl, q⟩ := h
  obtain ⟨u, rfl, t, rfl⟩ := vals1 r
  exact call_abs_int fun u tk => ⟨.int (if i < 0 then -i else i), H, I.tok _, ⟨_, rfl⟩, q⟩
theorem call_max2 (hc : X.calm = true) : CallR X (.builtin "max") (fun xs H Q => ∃ i j, xs = [.int i, .int j] ∧ Q (.int (if j > i then j else i)) H) := by
  intro pins s σ H xs us Q I r h
  obtain ⟨i, j, rfl, q⟩ := h
  obtain ⟨u, w', rfl, ⟨t, rfl⟩, ⟨t', rfl⟩⟩ := vals2 r
  refine max_two_ints (I.ok.hd hc) fun h' tk k => ⟨_, H, I.kept k, ?_, q⟩
  by_cases hj : j > i
  · rw [if_pos hj, if_pos hj]; exact ⟨_, rfl⟩
  · rw [if_neg hj, if_neg hj]; exact ⟨_, rfl⟩
theorem call_int1 : CallR X (.type "int") (fun xs H Q => (∃ i, xs = [.int i] ∧ Q (.int i) H) ∨ ∃ k, xs = [.bl k] ∧ Q (.int (if k then 1 else 0)) H) := by
  intro pins s σ H xs us Q I r h
  rcases h with ⟨i, rfl, q⟩ | ⟨k, rfl, q⟩
  · obtain ⟨u, rfl, t, rfl⟩ := vals1 r
    exact call_int_int ⟨.int i, H, I, ⟨_, rfl⟩, q⟩
  · obtain ⟨u, rfl, r1⟩ := vals1 r
    cases r1
    exact call_int_bool ⟨.int (if k then 1 else 0), H, I.tok _, ⟨_, rfl⟩, q⟩
def LenV (K : PySem.W.Frag) (x : V) (H : Hp) (n : Nat) : Prop :=
  match x with
  | .str y => y.length ≤ sizeLine ∧ n = y.length
  | .byt y => y.size ≤ sizeLine ∧ n = y.size
  | .ref p => (∃ xs, SqL K H p xs ∧ n = xs.length) ∨ ∃ xs, SqT K H p xs ∧ n = xs.length
  | _ => False
end
end L2
namespace L2
open PySem PySem.Spec PyProof.Rows
structure ObjM (h : Heap) (x dx C : Addr) (mA : Str → Option Value) : Prop where
  obj : h.get? x = some (PySem.W.instObj C dx)
  ns : h.Ns1 dx mA
  ne : dx ≠ x
theorem lookIn_ns {h : Heap} {dx : Addr} {mA : Str → Option Value} (n : h.Ns1 dx mA) : ∃ od, h.get? dx = some od ∧ ∀ name, PySem.W.lookIn name od = some (mA name) := by
  obtain ⟨o, es, ep, ho, hd, hk, _, hm⟩ := n
  refine ⟨o, ho, fun name => ?_⟩
  have e := hm name
  unfold nsFind findBy at e
  rw [← Array.find?_toList] at e
  unfold PySem.W.lookIn
  rw [hd]
  dsimp only
  split
  · rename_i y q
    rw [q] at e
    exact congrArg some e
  · rename_i q
    rw [q] at e
    have a : es.toList.any (·.refKey) = false := by
      rw [List.any_eq_false]
      intro y hy
      obtain ⟨z, t, hkey⟩ := hk y (Array.mem_toList_iff.mp hy)
      simp [DictEntry.refKey, hkey]
    have a' : ¬ es.toList.any (·.refKey) = true := by rw [a]; exact Bool.false_ne_true
    rw [if_neg a']
    exact congrArg some e
theorem ObjM.look {h : Heap} {x dx C : Addr} {mA : Str → Option Value} (I : ObjM h x dx C mA) : ∃ od, PySem.W.InstAt h x (PySem.W.instObj C dx) C (some od) ∧ ∀ name, PySem.W.lookIn name od = some (mA name) :=
  let ⟨od, ho, hl⟩ := lookIn_ns I.ns
  ⟨od, ⟨I.obj, rfl, rfl, ho⟩, hl⟩
section
variable {prog : Program} {w : World} {A : Around} {E : Value → Shared → Prop} {s : Shared} {K : PySem.W.Frag} {x dx C f : Addr} {mA : Str → Option Value} {name : Str} {v : Value}
theorem get_map {expr : Bool} {Q : Value → Shared → Prop} (X : K.In s.heap) (I : ObjM s.heap x dx C mA) (hg : PySem.W.plainGet K C name = true) (hh : PySem.W.hasDictIn K C = true)
    (ha : PySem.W.findIn K (.ref C) name = some none) (hv : mA name = some v) (hv' : PySem.W.handedIn v = true) (h : Q v { s with toks := s.toks + 1 }) :
    wpAny (model prog w) A (getAttr (.ref x) name expr) Q E s := by
  obtain ⟨od, J, hl⟩ := I.look
  exact PySem.W.get_value X J (PySem.W.plainGet_of hg).1 (PySem.W.findObj_own hh ha rfl (by rw [hl, hv])) hv' h
theorem get_meth {pl : Sem Bool} {Q : Value × List Value → Shared → Prop} (X : K.In s.heap) (I : ObjM s.heap x dx C mA) (hg : PySem.W.plainGet K C name = true)
    (hf : PySem.W.findIn K (.ref C) name = some (some (.ref f))) (ht : PySem.W.isFn K (.ref f) = true) (hv : mA name = none) (h : Q (.ref f, [.ref x]) s) :
    wpAny (model prog w) A (getMethod (.ref x) name pl) Q E s := by
  obtain ⟨od, J, hl⟩ := I.look
  exact PySem.W.method_fn X J (PySem.W.plainGet_of hg).1 (PySem.W.plainGet_of hg).2 hf (beq_iff_eq.mp ht) (by show (PySem.W.lookIn name od).map (·.isSome) = some false; rw [hl, hv]; rfl) h
theorem set_map {ns : List Str} {Q : Unit → Shared → Prop} (X : K.In s.heap) (I : ObjM s.heap x dx C mA)
    (hs : PySem.W.findIn K (.ref C) "__setattr__" = some (some (.builtin "object.__setattr__"))) (hp : PySem.W.plainOver K C = true) (ht : PySem.W.takerIn K C name = some none) (hh : PySem.W.hasDictIn K C = true)
    (hw : PySem.Within mA ns) (hsz : ns.length ≤ sizeLine)
    (h : ∀ h', ObjM h' x dx C (fun y => if y = name then some v else mA y) → Heap.SameBut dx s.heap h' → Q () { s with heap := h', toks := s.toks + 2 }) :
    wpAny (model prog w) A (setAttr (.ref x) name v) Q E s := by
  obtain ⟨od, J, hl⟩ := I.look
  refine PySem.W.set_plain X J hs (PySem.W.osa_open (s := { s with toks := s.toks + 1 }) (r := none) X J hp ht fun b => ?_)
  obtain ⟨cd, hc, hd'⟩ := PySem.W.any_some hh
  have hx : s.heap.get? x = some ⟨.ref C, some dx, .plain, #[]⟩ := I.obj
  refine wpAny_bind (wpAny_pure (wpAny_bind (wpAny_bind (wpAny_loadPart hx (wpAny_bind (PySem.W.Looks.here (s := { s with toks := s.toks + 1 }) (PySem.W.looks_clsIn X hc) ?_))))))
  rw [hd']
  refine wpAny_pure (a := some dx) (wpAny_bind (wpAny_pure (wpAny_bind ?_)))
  refine wpAny_nsSet1 (s := { s with toks := s.toks + 1 }) I.ns fun h' hn2 hs2 => ?_
  obtain ⟨oD, esD, epD, hoD, hdD, hcD⟩ := hn2.count (PySem.Within.cons name v hw)
  refine wpAny_bind (wpAny_lookBehind hoD (by rw [hdD]; exact pastItsLine_dict (Nat.le_trans hcD (by rw [List.length_cons]; omega))) ?_)
  exact wpAny_pure (h _ ⟨(hs2.2 _ (Ne.symm I.ne)).trans I.obj, hn2, I.ne⟩ hs2)
theorem make_map {R : Result → Shared → Prop} {vs : List Value} {kw : List (Str × Value)} (X : K.In s.heap) (hm : PySem.W.makesIn K C = true)
    (hi : PySem.W.findIn K (.ref C) "__init__" = some (some (.ref f))) (hf : PySem.W.typeIn K (.ref f) = some (.type "function"))
    (h : codeAny (model prog w) (A.under (.builtin "type.__call__" ⟨.ref C :: vs, kw⟩)) (.call (.ref f) ⟨.ref (s.heap.objs.size + 1) :: vs, kw⟩) (PySem.W.InitBack (s.heap.objs.size + 1) R)
      { s with heap := (s.heap.push PySem.W.emptyDict).push (PySem.W.instObj C s.heap.objs.size) }) :
    codeAny (model prog w) A (.call (.ref C) ⟨vs, kw⟩) R s := by
  obtain ⟨hh, g, d, t, os⟩ := s
  exact PySem.W.make_core (PySem.W.makes_of X hm) (PySem.W.looks_findIn X hi) (fun self => PySem.W.bind_fn X self hf) (.inl rfl) h
end
def putF (f : Str) (v : V) : List (Str × V) → List (Str × V)
  | [] => [(f, v)]
  | (g, x) :: r => if g = f then (g, v) :: r else (g, x) :: putF f v r
theorem lookup_putF (f g : Str) (v : V) : ∀ fs : List (Str × V), (putF f v fs).lookup g = if g = f then some v else fs.lookup g
  | [] => by
    show List.lookup g [(f, v)] = _
    by_cases h : g = f
    · have hb : (g == f) = true := beq_iff_eq.mpr h
      simp only [List.lookup, hb, if_pos h]
    · have hb : (g == f) = false := beq_eq_false_iff_ne.mpr h
      simp only [List.lookup, hb, if_neg h]
  | (k, x) :: r => by
    have ih := lookup_putF f g v r
    rw [show putF f v ((k, x) :: r) = (if k = f then (k, v) :: r else (k, x) :: putF f v r) from rfl]
    by_cases hk : k = f
    · rw [if_pos hk]
      by_cases h : g = k
      · have hb : (g == k) = true := beq_iff_eq.mpr h
        simp only [List.lookup, hb, if_pos (h.trans hk)]
      · have hb : (g == k) = false := beq_eq_false_iff_ne.mpr h
        simp only [List.lookup, hb, if_neg (fun e : g = f => h (e.trans hk.symm))]
    · rw [if_neg hk]
      by_cases h : g = k
      · have hb : (g == k) = true := beq_iff_eq.mpr h
        simp only [List.lookup, hb, if_neg (fun e : g = f => hk (h.symm.trans e))]
      · have hb : (g == k) = false := beq_eq_false_iff_ne.mpr h
        simp only [List.lookup, hb]
        exact ih
theorem keys_putF (f : Str) (v : V) : ∀ fs : List (Str × V), f ∈ (putF f v fs).map (·.1) ∧ ∀ g, g ∈ fs.map (·.1) → g ∈ (putF f v fs).map (·.1)
  | [] => ⟨by simp [putF], fun g h => by simp at h⟩
  | (k, x) :: r => by
    obtain ⟨i1, i2⟩ := keys_putF f v r
    rw [show putF f v ((k, x) :: r) = (if k = f then (k, v) :: r else (k, x) :: putF f v r) from rfl]
    by_cases hk : k = f
    · rw [if_pos hk]
      subst hk
      exact ⟨by simp, fun g h => by simpa using h⟩
    · rw [if_neg hk]
      refine ⟨?_, fun g h => ?_⟩
      · rw [List.map_cons]
        exact List.mem_cons_of_mem _ i1
      · rw [List.map_cons] at h ⊢
        rcases List.mem_cons.mp h with e | e
        · exact List.mem_cons.mpr (.inl e)
        · exact List.mem_cons_of_mem _ (i2 g e)
theorem length_putF (f : Str) (v : V) : ∀ fs : List (Str × V), (putF f v fs).length ≤ fs.length + 1
  | [] => by simp [putF]
  | (k, x) :: r => by
    have ih := length_putF f v r
    rw [show putF f v ((k, x) :: r) = (if k = f then (k, v) :: r else (k, x) :: putF f v r) from rfl]
    by_cases hk : k = f
    · rw [if_pos hk, List.length_cons, List.length_cons]; omega
    · rw [if_neg hk, List.length_cons, List.length_cons]; omega
theorem RelO.some_of {v : V} {o : Option Value} (r : RelO (some v) o) : ∃ u, o = some u ∧ RelV v u := by
  cases o with
  | none => exact (show False from r).elim
  | some u => exact ⟨u, rfl, r⟩
theorem RelO.none_of {o : Option Value} (r : RelO none o) : o = none := by
  cases o with
  | none => rfl
  | some u => exact (show False from r).elim
theorem handed_of {v : V} {u : Value} (r : RelV v u) : PySem.W.handedIn u = true := by
  cases v with
  | non => cases (show u = Value.none from r); rfl
  | bl b => cases (show u = Value.bool b from r); rfl
  | int i => obtain ⟨t, e⟩ := (show ∃ t, u = Value.int i t from r); cases e; rfl
  | str x => obtain ⟨t, e⟩ := (show ∃ t, u = Value.str x t from r); cases e; rfl
  | byt b => obtain ⟨t, e⟩ := (show ∃ t, u = Value.bytes b t from r); cases e; rfl
  | flt b => obtain ⟨t, e⟩ := (show ∃ t, u = Value.float b t from r); cases e; rfl
  | ref a => cases (show u = Value.ref a from r); rfl
  | ty n => cases (show u = Value.type n from r); rfl
section
variable {P : Program} {w : World} {H H' : Hp} {h h' : Heap} {a C dx : Addr} {fs fs' : List (Str × V)}
theorem ins_get (hok : HOk P w H h) (e : H a = some (.ins C dx fs)) : ∃ mA, ObjM h a dx C mA ∧ (∀ f, RelO (fs.lookup f) (mA f)) ∧ PySem.Within mA (fs.map (·.1)) ∧ fs.length ≤ 1000 ∧ H dx = some (.own a) := by
  obtain ⟨d, z, ne, ob, mA, n, r, q⟩ := (show ObjOk P w H h a (.ins C dx fs) from hok a _ e)
  exact ⟨mA, ⟨ob, n, ne⟩, r, q, z, d⟩
end
structure Cls (K : PySem.W.Frag) (C : Addr) : Prop where
  pg : PySem.W.plainGet K C Str.empty = true
  hd : PySem.W.hasDictIn K C = true
  po : PySem.W.plainOver K C = true
  sa : PySem.W.findIn K (.ref C) "__setattr__" = some (some (.builtin "object.__setattr__"))
theorem Cls.get {K : PySem.W.Frag} {C : Addr} (c : Cls K C) (f : Str) : PySem.W.plainGet K C f = true := c.pg
def NoAttr (K : PySem.W.Frag) (C : Addr) (f : Str) : Prop := PySem.W.findIn K (.ref C) f = some none
theorem NoAttr.taker {K : PySem.W.Frag} {C : Addr} {f : Str} (n : NoAttr K C f) : PySem.W.takerIn K C f = some none := by
  unfold PySem.W.takerIn
  rw [show PySem.W.findIn K (.ref C) f = some none from n]
  rfl
structure Con (K : PySem.W.Frag) (C : Addr) (f : Str) (v : V) (u : Value) : Prop where
  at_ : PySem.W.findIn K (.ref C) f = some (some u)
  rel : RelV v u
  get : PySem.W.specialIn K u "__get__" = some none
  cp : PySem.W.copiedNames.contains f = false
structure Meth (K : PySem.W.Frag) (C : Addr) (m : Str) (f : Addr) : Prop where
  at_ : PySem.W.findIn K (.ref C) m = some (some (.ref f))
  fn : PySem.W.isFn K (.ref f) = true
  kp : PySem.W.keepIn K (.ref f) = true
section
variable {X : Cx} {pins : List (Addr × Obj)} {σ : St} {H : Hp} {s : Shared} {a C dx : Addr} {fs : List (Str × V)} {f : Str} {v : V} {A : Around} {E : Value → Shared → Prop}
theorem getattr_ok {b : Bool} {Q : Value → Shared → Prop} (I : Inv X pins σ H s) (e : H a = some (.ins C dx fs)) (c : Cls X.K C) (n : NoAttr X.K C f) (l : fs.lookup f = some v)
    (h : ∀ u s', Inv X pins σ H s' → RelV v u → Q u s') : wpAny (model X.prog X.w) A (getAttr (.ref a) f b) Q E s := by
  obtain ⟨mA, O, r, _, _, _⟩ := ins_get I.hok e
  obtain ⟨u, hu, ru⟩ := RelO.some_of (v := v) (o := mA f) (by rw [← l]; exact r f)
  exact get_map I.kIn O (c.get f) c.hd n hu (handed_of ru) (h u _ (I.tok _) ru)
theorem getmeth_ok {m : Str} {g : Addr} {pl : Sem Bool} {Q : Value × List Value → Shared → Prop} (I : Inv X pins σ H s) (e : H a = some (.ins C dx fs)) (c : Cls X.K C) (k : Meth X.K C m g) (l : fs.lookup m = none)
    (h : Q (.ref g, [.ref a]) s) : wpAny (model X.prog X.w) A (getMethod (.ref a) m pl) Q E s := by
  obtain ⟨mA, O, r, _, _, _⟩ := ins_get I.hok e
  have hn : mA m = none := RelO.none_of (by rw [← l]; exact r m)
  exact get_meth I.kIn O (c.get m) k.at_ k.fn hn h
theorem setattr_ok {y : V} {u : Value} {Q : Unit → Shared → Prop} (I : Inv X pins σ H s) (e : H a = some (.ins C dx fs)) (c : Cls X.K C) (n : NoAttr X.K C f) (hl : fs.length < 1000) (ry : RelV y u)
    (h : ∀ s', Inv X pins σ (upd H a (.ins C dx (putF f y fs))) s' → Q () s') : wpAny (model X.prog X.w) A (setAttr (.ref a) f u) Q E s := by
  obtain ⟨mA, O, r, wi, _, ho⟩ := ins_get I.hok e
  have hz : (fs.map (·.1)).length ≤ sizeLine := by rw [List.length_map, sizeLine_eq]; omega
  refine set_map I.kIn O c.sa c.po n.taker c.hd wi hz fun h' O' sb => h _ ?_
  have hd : ∃ o, h'.get? dx = some o := let ⟨o, _, _, e', _⟩ := O'.ns; ⟨o, e'⟩
  refine I.write (x := a) (e := dx) (by rw [e]; exact True.intro) (.inr ho) (fun b q hb z => (sb.2 b hb).trans z) hd ?_
  refine ⟨by rw [upd_ne O.ne]; exact ho, ?_, O.ne, O'.obj, _, O'.ns, fun g => ?_, fun g hg => ?_⟩
  · have := length_putF f y fs; omega
  · show RelO ((putF f y fs).lookup g) (if g = f then some u else mA g)
    rw [lookup_putF]
    by_cases q : g = f
    · rw [if_pos q, if_pos q]; exact ry
    · rw [if_neg q, if_neg q]; exact r g
  · by_cases q : g = f
    · rw [q]; exact (keys_putF f y fs).1
    · refine (keys_putF f y fs).2 g (wi g fun z => hg ?_)
      show (if g = f then some u else mA g) = none
      rw [if_neg q]; exact z
theorem Inv.made (I : Inv X pins σ H s) : Inv X pins σ (upd (upd H s.heap.objs.size (.own (s.heap.objs.size + 1))) (s.heap.objs.size + 1) (.ins C s.heap.objs.size []))
    { s with heap := (s.heap.push PySem.W.emptyDict).push (PySem.W.instObj C s.heap.objs.size) } := by
  have e1 : (s.heap.push PySem.W.emptyDict).get? s.heap.objs.size = some PySem.W.emptyDict := Heap.get?_push_size s.heap rfl
  have e2 : ((s.heap.push PySem.W.emptyDict).push (PySem.W.instObj C s.heap.objs.size)).get? (s.heap.objs.size + 1) = some (PySem.W.instObj C s.heap.objs.size) := by
    have := Heap.get?_push_size (s.heap.push PySem.W.emptyDict) (o := PySem.W.instObj C s.heap.objs.size) rfl
    rwa [Heap.size_push] at this
  have e3 : (s.heap.push PySem.W.emptyDict).Ns s.heap.objs.size (fun _ => none) := ⟨PySem.W.emptyDict, #[], _, e1, rfl, (fun e he => absurd he (by simp)), fun _ => rfl⟩
  have I1 := I.laid (a := s.heap.objs.size) (o := .own (s.heap.objs.size + 1)) (h' := s.heap.push PySem.W.emptyDict) (t' := s.toks) (fun b u q => Heap.get?_push_of_some _ q) (Nat.le_refl _) ⟨_, e1⟩
  refine I1.laid (a := s.heap.objs.size + 1) (o := .ins C s.heap.objs.size []) (t' := s.toks) (fun b u q => Heap.get?_push_of_some _ q) (Nat.le_of_eq (Heap.size_push _ _)) ?_
  have ne : s.heap.objs.size ≠ s.heap.objs.size + 1 := Nat.ne_of_lt (Nat.lt_succ_self _)
  refine ⟨by rw [upd_ne ne, upd_same], Nat.zero_le _, ne, e2, fun _ => none, (Heap.Ns1.of_empty e3).at fun o q => Heap.get?_push_of_some _ q, fun _ => True.intro, fun y hy => absurd rfl hy⟩
theorem attr_of {prog : Program} {w : World} {env : Env} {e : Expr} {f : Str} {pos : Pos} {s : Shared} {Q : Value → Shared → Prop} (hb : attributeBase e f env (eval e env) = eval e env)
    (h : wpAny (model prog w) A (eval e env) (fun o s₁ => wpAny (model prog w) A (getAttr o f true) Q E s₁) E s) : wpAny (model prog w) A (eval (.Attribute e f pos) env) Q E s :=
  Attribute_any_ h (by rw [arm_eval_Attribute, hb])
end
def tFld (K : PySem.W.Frag) (ta : TE) (f : Str) : TE := fun σ H Q => ta σ H fun x H1 => ∃ a C dx fs v, x = .ref a ∧ H1 a = some (.ins C dx fs) ∧ Cls K C ∧ NoAttr K C f ∧ fs.lookup f = some v ∧ Q v H1
def tCon (K : PySem.W.Frag) (ta : TE) (f : Str) : TE := fun σ H Q => ta σ H fun x H1 => ∃ a C dx fs v u, x = .ref a ∧ H1 a = some (.ins C dx fs) ∧ Cls K C ∧ Con K C f v u ∧ fs.lookup f = none ∧ Q v H1
def sFld (K : PySem.W.Frag) (ta tv : TE) (f : Str) : TS := fun D σ H => tv σ H fun y H1 => ta σ H1 fun x H2 => ∃ a C dx fs, x = .ref a ∧ H2 a = some (.ins C dx fs) ∧ Cls K C ∧ NoAttr K C f ∧ fs.length < 1000 ∧
  D.nx σ (upd H2 a (.ins C dx (putF f y fs)))
def InOp (X : Cx) (op : Operator) (rd : V → V → Hp → VK → Prop) : Prop :=
  ∀ (pins : List (Addr × Obj)) (s : Shared) (σ : St) (H : Hp) (x y : V) (u v : Value) (Q : VK), Inv X pins σ H s → RelV x u → RelV y v → rd x y H Q → wpAny (model X.prog X.w) X.A (inplaceOp op u v) (EP X pins σ Q) X.xe s
def sFldAug (K : PySem.W.Frag) (ta tv : TE) (rd : V → V → Hp → VK → Prop) (f : Str) : TS := fun D σ H => ta σ H fun x H1 => ∃ a C dx fs v, x = .ref a ∧ H1 a = some (.ins C dx fs) ∧ Cls K C ∧ NoAttr K C f ∧ fs.lookup f = some v ∧
  tv σ H1 fun y H2 => rd v y H2 fun z H3 => ∃ dx' fs', H3 a = some (.ins C dx' fs') ∧ fs'.length < 1000 ∧ D.nx σ (upd H3 a (.ins C dx' (putF f z fs')))
section
variable {X : Cx} {o e value : Expr} {f : Str} {pos pos' tpos : Pos} {ta tv : TE}
theorem pe_fld (he : PE X e ta) (hb : attributeBase e f X.env (eval e X.env) = eval e X.env) : PE X (.Attribute e f pos) (tFld X.K ta f) := by
  intro pins s σ H Q I h
  refine attr_of hb (thn (he pins s σ H _ I h) fun u s1 ⟨x, H1, I1, rx, a, C, dx, fs, v, ex, ea, c, n, l, q⟩ => ?_)
  subst ex
  obtain rfl : u = Value.ref a := rx
  exact getattr_ok I1 ea c n l fun u' s2 I2 ru => ⟨v, H1, I2, ru, q⟩
theorem ps_fld (ha : PE X o ta) (hv : PE X value tv) (hs : swapsWith value (some (.Attribute o f pos')) pos.line X.env = pure false) : PS X (.Assign [.Attribute o f pos'] value pos) (sFld X.K ta tv f) := by
  intro pins s σ H D I h
  refine plainObj_wpAny_Assign_Attribute (thn (hv pins s σ H _ I h) fun u s1 ⟨y, H1, I1, ry, q⟩ => thn (ha pins s1 σ H1 _ I1 q) fun ov s2 ⟨x, H2, I2, rx, a, C, dx, fs, ex, ea, c, n, l, q2⟩ => ?_) hs
  subst ex
  obtain rfl : ov = Value.ref a := rx
  exact setattr_ok I2 ea c n l ry fun s3 I3 => ⟨σ, _, I3, q2⟩
theorem ps_fldaug {op : Operator} {rd : V → V → Hp → VK → Prop} (ha : PE X o ta) (hv : PE X value tv) (hop : InOp X op rd) : PS X (.AugAssign (.Attribute o f tpos) op value pos) (sFldAug X.K ta tv rd f) := by
  intro pins s σ H D I h
  refine wpAny_AugAssign_AttributeAny (thn (ha pins s σ H _ I h) fun ov s1 ⟨x, H1, I1, rx, a, C, dx, fs, v, ex, ea, c, n, l, q⟩ => ?_)
  subst ex
  obtain rfl : ov = Value.ref a := rx
  refine getattr_ok I1 ea c n l fun u s2 I2 ru => thn (hv pins s2 σ H1 _ I2 q) fun w3 s3 ⟨y, H2, I3, ry, q3⟩ => thn (hop pins s3 σ H2 v y u w3 _ I3 ru ry q3) fun w4 s4 ⟨z, H3, I4, rz, dx', fs', ea', l', q4⟩ => ?_
  exact setattr_ok I4 ea' c n l' rz fun s5 I5 => ⟨σ, _, I5, q4⟩
def rAdd : V → V → Hp → VK → Prop := fun x y H Q => ∃ i j, x = .int i ∧ y = .int j ∧ Q (.int (i + j)) H
def rSub : V → V → Hp → VK → Prop := fun x y H Q => ∃ i j, x = .int i ∧ y = .int j ∧ Q (.int (i - j)) H
theorem in_add : InOp X .Add rAdd := by
  rintro pins s σ H x y u v Q I rx ry ⟨i, j, rfl, rfl, q⟩
  obtain ⟨t, rfl⟩ := (show ∃ t, u = Value.int i t from rx)
  obtain ⟨t', rfl⟩ := (show ∃ t', v = Value.int j t' from ry)
  exact PyProof.Rows.iadd_int ⟨.int (i + j), H, I.tok _, ⟨_, rfl⟩, q⟩
theorem in_sub : InOp X .Sub rSub := by
  rintro pins s σ H x y u v Q I rx ry ⟨i, j, rfl, rfl, q⟩
  obtain ⟨t, rfl⟩ := (show ∃ t, u = Value.int i t from rx)
  obtain ⟨t', rfl⟩ := (show ∃ t', v = Value.int j t' from ry)
  exact PyProof.Rows.isub_int ⟨.int (i - j), H, I.tok _, ⟨_, rfl⟩, q⟩
end
section
variable {X : Cx} {pins : List (Addr × Obj)} {σ : St} {H : Hp} {s : Shared} {A : Around} {E : Value → Shared → Prop} {Q : Value → Shared → Prop} {c : Value} {b : Bool}
inductive TyOf (K : PySem.W.Frag) (H : Hp) : V → Value → Prop where
  | non : TyOf K H .non (.type "NoneType")
  | bl (x : Bool) : TyOf K H (.bl x) (.type "bool")
  | int (i : Int) : TyOf K H (.int i) (.type "int")
  | str (x : Str) : TyOf K H (.str x) (.type "str")
  | flt (x : UInt64) : TyOf K H (.flt x) (.type "float")
  | lst {a : Addr} {xs : List V} (e : H a = some (.lst xs)) : TyOf K H (.ref a) (.type "list")
  | frz {a : Addr} {o : Obj} {xs : List V} (e : H a = some (.frz o (.lst xs))) : TyOf K H (.ref a) (.type "list")
  | tup {a : Addr} {xs : List V} (e : H a = some (.tup xs)) : TyOf K H (.ref a) (.type "tuple")
  | dK {a : Addr} {kvs : List (Key × V)} (e : H a = some (.dK kvs)) : TyOf K H (.ref a) (.type "dict")
  | dT {a : Addr} {kvs : List (List Key × V)} (e : H a = some (.dT kvs)) : TyOf K H (.ref a) (.type "dict")
  | ins {a C dx : Addr} {fs : List (Str × V)} (e : H a = some (.ins C dx fs)) (cl : Cls K C) (ha : PySem.W.findIn K (.ref C) "__class__" = some (some (.builtin "object.__class__")))
      (hn : PySem.W.specialIn K (.builtin "object.__class__") "__get__" = some (some (.builtin "getset_descriptor.__get__"))) (htk : PySem.W.takesIn K (.builtin "object.__class__") = some true)
      (hm : PySem.W.mroIn K C (.type "object") = some true) : TyOf K H (.ref a) (.ref C)
theorem isinst_ok {x : V} {u t : Value} (I : Inv X pins σ H s) (rx : RelV x u) (ty : TyOf X.K H x t) (e : PySem.W.kitOne X.K t c = some b) (h : ∀ tk, Q (.bool b) { s with toks := tk }) :
    wpAny (model X.prog X.w) A (call (.builtin "isinstance") [u, c]) Q E s := by
  cases ty with
  | non => cases (show u = Value.none from rx); exact PySem.W.kia_one PySem.W.kitx_none I.kIn True.intro e (fun z => nomatch z) h
  | bl y => cases (show u = Value.bool y from rx); exact PySem.W.kia_one PySem.W.kitx_bool I.kIn True.intro e (fun z => nomatch z) h
  | int i => obtain ⟨t, q⟩ := (show ∃ t, u = Value.int i t from rx); cases q; exact PySem.W.kia_one PySem.W.kitx_int I.kIn True.intro e (fun z => nomatch z) h
  | str y => obtain ⟨t, q⟩ := (show ∃ t, u = Value.str y t from rx); cases q; exact PySem.W.kia_one PySem.W.kitx_str I.kIn True.intro e (fun z => nomatch z) h
  | flt y => obtain ⟨t, q⟩ := (show ∃ t, u = Value.float y t from rx); cases q; exact PySem.W.kia_one PySem.W.kitx_float I.kIn True.intro e (fun z => nomatch z) h
  | @lst a xs ea =>
    cases (show u = Value.ref a from rx)
    obtain ⟨_, _, n, _, h1⟩ := (show ObjOk X.prog X.w H s.heap a (.lst xs) from I.hok a _ ea)
    exact PySem.W.kia_one PySem.W.kitx_list I.kIn ⟨_, h1, rfl⟩ e (fun z => nomatch z) h
  | @frz a ob xs ea =>
    cases (show u = Value.ref a from rx)
    obtain ⟨_, _, _, n, _, h1⟩ := (show ObjOk X.prog X.w H s.heap a (.frz ob (.lst xs)) from I.hok a _ ea)
    exact PySem.W.kia_one PySem.W.kitx_list I.kIn ⟨_, h1, rfl⟩ e (fun z => nomatch z) h
  | @tup a xs ea =>
    cases (show u = Value.ref a from rx)
    obtain ⟨_, _, _, p⟩ := (show ObjOk X.prog X.w H s.heap a (.tup xs) from I.hok a _ ea)
    obtain ⟨o, h1, h2, _⟩ := p
    exact PySem.W.kia_one PySem.W.kitx_tuple I.kIn ⟨o, h1, h2⟩ e (fun z => nomatch z) h
  | @dK a kvs ea =>
    cases (show u = Value.ref a from rx)
    obtain ⟨_, _, vs, _, p⟩ := (show ObjOk X.prog X.w H s.heap a (.dK kvs) from I.hok a _ ea)
    obtain ⟨o, es, ep, h1, h2, _⟩ := p
    exact PySem.W.kia_one PySem.W.kitx_dict I.kIn ⟨o, h1, h2.1⟩ e (fun z => nomatch z) h
  | @dT a kvs ea =>
    cases (show u = Value.ref a from rx)
    obtain ⟨_, _, xs, _, o, es, ep, h1, h2, _⟩ := (show ObjOk X.prog X.w H s.heap a (.dT kvs) from I.hok a _ ea)
    exact PySem.W.kia_one PySem.W.kitx_dict I.kIn ⟨o, h1, h2.1⟩ e (fun z => nomatch z) h
  | @ins a C dx fs ea cl ha hn htk hm =>
    cases (show u = Value.ref a from rx)
    obtain ⟨mA, O, _⟩ := ins_get I.hok ea
    obtain ⟨od, J, _⟩ := O.look
    exact PySem.W.kia_one (PySem.W.kitx_own (cl.get _) cl.hd ha hn htk hm) I.kIn J e (fun z => nomatch z) h
end
end L2
namespace L2
open PySem PySem.Spec PyProof.Rows
structure Room (k : Nat) (A : Around) : Prop where
  hd : A.handled = none
  dp : A.depth + 3 * k + 5 < recursionLimit
  un : A.units + 16 * k + 200 < cLine
  gd : A.guards = some []
theorem Room.mono {j k : Nat} {A : Around} (r : Room k A) (h : j ≤ k) : Room j A := ⟨r.hd, by have := r.dp; omega, by have := r.un; omega, r.gd⟩
theorem Room.deeper {k : Nat} {A : Around} (r : Room (k + 1) A) (env : Env) : Room k (A.deeper env) :=
  ⟨r.hd, by have := r.dp; show A.depth + 1 + 3 * k + 5 < _; omega, by have := r.un; show A.units + 3 + 16 * k + 200 < _; omega, r.gd⟩
theorem Room.in1 {k : Nat} {A : Around} (r : Room (k + 1) A) : Room k A.in1 :=
  ⟨r.hd, by have := r.dp; show A.depth + 3 * k + 5 < _; omega, by have := r.un; show A.units + 1 + 16 * k + 200 < _; omega, r.gd⟩
theorem make_depth {A : Around} {C : Addr} {us : List Value} {kw : List (Str × Value)} : (A.under (.builtin "type.__call__" ⟨.ref C :: us, kw⟩)).depth = A.depth + 1 := by
  first | rfl | simp [Around.under, Code.weight, Code.isCreation, Code.isGuard, Code.isCaller, Code.frames, Code.isFrame, guardIds]
theorem make_units {A : Around} {C : Addr} {us : List Value} {kw : List (Str × Value)} : (A.under (.builtin "type.__call__" ⟨.ref C :: us, kw⟩)).units = A.units + 1 := by
  first | rfl | simp [Around.under, Code.cUnits, Code.frames, Code.isFrame]
theorem Room.make {k : Nat} {A : Around} (r : Room (k + 1) A) (C : Addr) (us : List Value) (kw : List (Str × Value)) : Room k (A.under (.builtin "type.__call__" ⟨.ref C :: us, kw⟩)) :=
  ⟨r.hd, by have := r.dp; rw [make_depth]; omega, by have := r.un; rw [make_units]; omega, by
    have q := r.gd
    first | exact q | simpa [Around.under, Code.guards, Code.isGuard, guardIds, pushGuards] using q⟩
theorem Room.depth {k : Nat} {A : Around} (r : Room k A) : A.depth < recursionLimit := by have := r.dp; omega
theorem Room.units {k : Nat} {A : Around} (r : Room k A) : A.units + 64 < cLine := by have := r.un; omega
def tNil : TA := fun _ H Q => Q [] H
def tCons (ta : TE) (tr : TA) : TA := fun σ H Q => ta σ H fun x H1 => tr σ H1 fun xs H2 => Q (x :: xs) H2
section
variable {X : Cx} {e : Expr} {es : List Expr} {te : TE} {t : TA} {pos : Pos}
theorem pa_nil : PA X [] tNil := fun _ _ _ _ H Q I h => Calls.spliced_nil ⟨[], H, I, .nil, h⟩
theorem pa_cons (ha : PE X e te) (hr : PA X es t) (hs : starEach (e :: es) X.env = (false, eval e X.env) :: starEach es X.env := by rfl) : PA X (e :: es) (tCons te t) := by
  intro pos pins s σ H Q I h
  rw [hs]
  show wpAny _ _ (spliced ((false, eval e X.env) :: backTo pos (starEach es X.env))) _ _ s
  refine Calls.spliced_cons (thn (ha pins s σ H _ I h) fun u s1 ⟨x, H1, I1, r1, q1⟩ => ?_)
  exact thn (hr pos pins s1 σ H1 _ I1 q1) fun us s2 ⟨xs, H2, I2, r2, q2⟩ => ⟨x :: xs, H2, I2, .cons r1 r2, q2⟩
def tTup (t : TA) : TE := fun σ H Q => t σ H fun xs H1 => xs.length ≤ sizeLine ∧ ∀ p, H1 p = none → Q (.ref p) (upd H1 p (.tup xs))
def tLst (t : TA) : TE := fun σ H Q => t σ H fun xs H1 => xs.length ≤ sizeLine ∧ ∀ p, H1 p = none → Q (.ref p) (upd H1 p (.lst xs))
theorem pe_tup {x1} (h : PA X es t) : PE X (.Tuple es x1 pos) (tTup t) := by
  intro pins s σ H Q I hq
  refine wpAny_Tuple_spliced (thn (h pos pins s σ H _ I hq) fun us s1 ⟨xs, H1, I1, r, z, q⟩ => ⟨by rw [← r.length]; exact z, ?_⟩)
  have hf : H1 s1.heap.objs.size = none := I1.hok.fresh (Nat.le_refl _)
  refine ⟨.ref s1.heap.objs.size, upd H1 s1.heap.objs.size (.tup xs), I1.laid (t' := s1.toks) (fun b u e => Heap.get?_push_of_some _ e) (Nat.le_refl _) ?_, rfl, q _ hf⟩
  exact ⟨z, us, r, ⟨_, Heap.get?_push_size _ rfl, rfl, rfl, _, rfl⟩⟩
theorem pe_lst (h : PA X es t) : PE X (.List es pos) (tLst t) := by
  intro pins s σ H Q I hq
  refine wpAny_List_spliced (thn (h pos pins s σ H _ I hq) fun us s1 ⟨xs, H1, I1, r, z, q⟩ => ⟨by rw [← r.length]; exact z, ?_⟩)
  have hf : H1 s1.heap.objs.size = none := I1.hok.fresh (Nat.le_refl _)
  refine ⟨.ref s1.heap.objs.size, upd H1 s1.heap.objs.size (.lst xs), I1.laid (t' := s1.toks) (fun b u e => Heap.get?_push_of_some _ e) (Nat.le_refl _) ?_, rfl, q _ hf⟩
  exact ⟨z, us, 0, r, Heap.get?_push_size _ rfl⟩
end
abbrev Sp := List V → Hp → VK → XK → Prop
abbrev CXT := List Env → Hp → Shared → XK → Value → Shared → Prop
structure Env0 (P : Program) (w : World) (K : PySem.W.Frag) (mg : Str → Option Value) (base : Heap) (A : Around) (outer : List Env) (s : Shared) (H : Hp) : Prop where
  frames : A.frames = some outer
  mod : Mod K mg base
  bs : ∀ b o, base.get? b = some o → s.heap.get? b = some o ∧ H b = none
  bsz : base.objs.size ≤ s.heap.objs.size
  funs : s.heap.FunFrames base outer
  frf : ∀ b ∈ frs outer, H b = none
  hok : HOk P w H s.heap
  bare : AllBare s.gens
def CE (outer : List Env) (P : Program) (w : World) (H : Hp) (s : Shared) (Q : VK) (u : Value) (s' : Shared) : Prop :=
  ∃ v H', s'.os = s.os ∧ AllBare s'.gens ∧ Un (frs outer) [] H H' s.heap s'.heap ∧ HOk P w H' s'.heap ∧ RelV v u ∧ Q v H'
def CR (CX : CXT) (outer : List Env) (P : Program) (w : World) (H : Hp) (s : Shared) (Q : VK) (E : XK) (r : Result) (s' : Shared) : Prop :=
  match r with
  | .ok (.ret u) => CE outer P w H s Q u s'
  | .ok _ => False
  | .error e => CX outer H s E e s'
structure FnOk (P : Program) (w : World) (K : PySem.W.Frag) (mg : Str → Option Value) (base : Heap) (CX : CXT) (k : Nat) (f : Addr) (fd : FuncData) (ps : List Str) (sp : Sp) : Prop where
  len : ∀ vs H Q E, sp vs H Q E → vs.length = ps.length
  run : ∀ (A : Around) (outer : List Env) (s : Shared) (H : Hp) (args : Args) (us : List Value) (vs : List V) (Q : VK) (E : XK), Room k A → Env0 P w K mg base A outer s H → BindsTo s fd args (ps.zip us) → Vals vs us → sp vs H Q E →
    codeAny (model P w) A (.call (.ref f) args) (CR CX outer P w H s Q E) s
theorem FnOk.mono {P : Program} {w : World} {K : PySem.W.Frag} {mg : Str → Option Value} {base : Heap} {CX : CXT} {j k : Nat} {f : Addr} {fd : FuncData} {ps : List Str} {sp : Sp} (F : FnOk P w K mg base CX j f fd ps sp) (h : j ≤ k) :
    FnOk P w K mg base CX k f fd ps sp := ⟨F.len, fun A outer s H args us vs Q E hr => F.run A outer s H args us vs Q E (hr.mono h)⟩
theorem Env0.make {P : Program} {w : World} {K : PySem.W.Frag} {mg : Str → Option Value} {base : Heap} {A : Around} {outer : List Env} {s : Shared} {H : Hp} (e : Env0 P w K mg base A outer s H) (C : Addr) (us : List Value) (kw : List (Str × Value)) :
    Env0 P w K mg base (A.under (.builtin "type.__call__" ⟨.ref C :: us, kw⟩)) outer s H := ⟨by first | exact e.frames | (simpa [Around.under, Code.envs, Code.isFrame, pushEnvs] using e.frames), e.mod, e.bs, e.bsz, e.funs, e.frf, e.hok, e.bare⟩
theorem Env0.in1 {P : Program} {w : World} {K : PySem.W.Frag} {mg : Str → Option Value} {base : Heap} {A : Around} {outer : List Env} {s : Shared} {H : Hp} (e : Env0 P w K mg base A outer s H) :
    Env0 P w K mg base A.in1 outer s H := ⟨e.frames, e.mod, e.bs, e.bsz, e.funs, e.frf, e.hok, e.bare⟩
section
variable {X : Cx} {pins : List (Addr × Obj)} {σ : St} {H : Hp} {s s' : Shared}
theorem Inv.env0 (I : Inv X pins σ H s) : Env0 X.prog X.w X.K X.mg X.base X.A X.stack s H :=
  ⟨I.ok.frames, I.ok.mod, I.bs, Nat.le_trans I.ok.bsz I.sz, I.stack, I.stkFree, I.hok, I.bare⟩
theorem Inv.after {Q : VK} {u : Value} (I : Inv X pins σ H s) (h : CE X.stack X.prog X.w H s Q u s') : EP X pins σ Q u s' := by
  obtain ⟨v, H', os, bare, un, hok, r, q⟩ := h
  obtain ⟨hh, g, d, t, os'⟩ := s'
  obtain rfl : os' = s.os := os
  exact ⟨v, H', I.call (h' := hh) (g' := g) (d' := d) (t' := t) (ch := []) un hok bare (fun b z => absurd z (by simp)), r, q⟩
end
def tCall (sp : Sp) (dvs : List V) (E : XK) (t : TA) : TE := fun σ H Q => t σ H fun vs H1 => sp (vs ++ dvs) H1 Q E
def tMeth (C : Addr) (m : Str) (sp : Sp) (dvs : List V) (E : XK) (ta : TE) (t : TA) : TE := fun σ H Q => ta σ H fun x H1 => ∃ a dx fs, x = .ref a ∧ H1 a = some (.ins C dx fs) ∧ fs.lookup m = none ∧
  t σ H1 fun vs H2 => sp (x :: (vs ++ dvs)) H2 Q E
def tMake (C : Addr) (sp : Sp) (dvs : List V) (E : XK) (t : TA) : TE := fun σ H Q => t σ H fun vs H1 => ∀ x dx, H1 x = none → H1 dx = none → dx ≠ x →
  sp (.ref x :: (vs ++ dvs)) (upd (upd H1 dx (.own x)) x (.ins C dx [])) (fun v H2 => v = .non ∧ Q (.ref x) H2) E
def Binds (K : PySem.W.Frag) (fd : FuncData) (ps : List Str) (ds : List Value) : Prop :=
  ∀ (s : Shared) (us : List Value), K.In s.heap → (us ++ ds).length = ps.length → BindsTo s fd ⟨us, []⟩ (ps.zip (us ++ ds))
theorem Binds.all {K : PySem.W.Frag} {fd : FuncData} {ps : List Str} (h : ∀ us : List Value, us.length = ps.length → bindArgs fd ⟨us, []⟩ = pure (ps.zip us)) : Binds K fd ps [] := fun s us _ hl => by
  rw [List.append_nil] at hl ⊢
  exact .of_eq (h us hl)
def Passes (CX : CXT) (X : Cx) (E : XK) : Prop := ∀ (pins : List (Addr × Obj)) (σ : St) (H : Hp) (s : Shared) (e : Value) (s' : Shared), Inv X pins σ H s → CX X.stack H s E e s' → X.xe e s'
section
variable {X : Cx} {CX : CXT} {k : Nat} {f C : Addr} {fd : FuncData} {ps : List Str} {sp : Sp} {dvs : List V} {ds : List Value} {E : XK} {x m : Str} {p pos apos : Pos} {e o : Expr} {es : List Expr} {ta : TE} {t : TA}
theorem run_fn {pins : List (Addr × Obj)} {σ : St} {H : Hp} {s : Shared} {Q : VK} {us : List Value} {vs : List V} (F : FnOk X.prog X.w X.K X.mg X.base CX k f fd ps sp) (hr : Room k X.A) (hb : Binds X.K fd ps ds) (hd : Vals dvs ds) (hx : Passes CX X E)
    (I : Inv X pins σ H s) (r : Vals vs us) (h : sp (vs ++ dvs) H Q E) : wpAny (model X.prog X.w) X.A (call (.ref f) us) (EP X pins σ Q) X.xe s := by
  have r2 : Vals (vs ++ dvs) (us ++ ds) := r.append hd
  have hl : (us ++ ds).length = ps.length := by rw [← r2.length]; exact F.len _ _ _ _ h
  refine wpAny_call (codeAny_mono (F.run X.A X.stack s H ⟨us, []⟩ (us ++ ds) (vs ++ dvs) Q E hr I.env0 (hb s us I.kIn hl) r2 h) fun r s' hq => ?_)
  cases r with
  | error e => exact hx pins σ H s e s' I hq
  | ok fl =>
    cases fl with
    | ret u => exact I.after hq
    | next => exact False.elim hq
    | brk => exact False.elim hq
    | cont => exact False.elim hq
theorem pe_call (F : FnOk X.prog X.w X.K X.mg X.base CX k f fd ps sp) (hr : Room k X.A) (hg : Gl X x) (hm : X.mg x = some (.ref f)) (hk : PySem.W.keepIn X.K (.ref f) = true) (hb : Binds X.K fd ps ds) (hd : Vals dvs ds) (hx : Passes CX X E)
    (ha : PA X (e :: es) t) (hdb : (x == ("__debug__" : Str)) = false := by decide) (he : starEach (e :: es) X.env = (false, eval e X.env) :: starEach es X.env := by rfl) (hpl : (backTo pos (starEach es X.env)).any (·.1) = false := by rfl) :
    PE X (.Call (.Name x p) (e :: es) [] pos) (tCall sp dvs E t) := by
  intro pins s σ H Q I h
  refine wpAny_Call_Name_kw (ld_glob I hg hm ?_ hdb)
  refine PySem.W.callWith_K (h₀ := X.base) I.ok.mod.kin hk (thn (ha pos pins s σ H _ I h) fun us s1 ⟨vs, H1, I1, r, q⟩ => ⟨I1.kIn, ?_⟩) he hpl
  exact run_fn F hr hb hd hx I1 r q
theorem pe_meth {pl : Sem Bool} (he : PE X o ta) (c : Cls X.K C) (hm : Meth X.K C m f) (F : FnOk X.prog X.w X.K X.mg X.base CX k f fd ps sp) (hr : Room k X.A) (hb : Binds X.K fd ps ds) (hd : Vals dvs ds) (hx : Passes CX X E) (ha : PA X (e :: es) t)
    (hst : starEach (e :: es) X.env = (false, eval e X.env) :: starEach es X.env := by rfl) (hpl : (backTo pos (starEach es X.env)).any (·.1) = false := by rfl)
    (ht : eval (.Call (.Attribute o m apos) (e :: es) [] pos) X.env = (do
      let ov ← eval o X.env
      standAt apos.atName
      let (f, first) ← holding [ov] (getMethod ov m pl)
      callWith pos f first (backTo pos (starEach (e :: es) X.env)) (backToKw pos (keywordEach [] X.env))) := by rfl) :
    PE X (.Call (.Attribute o m apos) (e :: es) [] pos) (tMeth C m sp dvs E ta t) := by
  intro pins s σ H Q I h
  refine PySem.W.methodCall_KW (pl := pl) (thn (he pins s σ H _ I h) fun u s1 ⟨x, H1, I1, rx, a, dx, fs, ex, ea, l, q⟩ => ?_) ht
  subst ex
  obtain rfl : u = Value.ref a := rx
  refine getmeth_ok I1 ea c hm l ?_
  refine PySem.W.callWith_K (first := [.ref a]) (h₀ := X.base) I.ok.mod.kin hm.kp (thn (ha pos pins s1 σ H1 _ I1 q) fun us s2 ⟨vs, H2, I2, r, q2⟩ => ⟨I2.kIn, ?_⟩) hst hpl
  exact run_fn (us := .ref a :: us) (vs := .ref a :: vs) F hr hb hd hx I2 (.cons rfl r) q2
theorem pe_meth0 {pl : Sem Bool} (he : PE X o ta) (c : Cls X.K C) (hm : Meth X.K C m f) (F : FnOk X.prog X.w X.K X.mg X.base CX k f fd ps sp) (hr : Room k X.A) (hb : Binds X.K fd ps ds) (hd : Vals dvs ds) (hx : Passes CX X E)
    (ht : eval (.Call (.Attribute o m apos) [] [] pos) X.env = (do
      let ov ← eval o X.env
      standAt apos.atName
      let (f, first) ← holding [ov] (getMethod ov m pl)
      callWith pos f first (backTo pos (starEach [] X.env)) (backToKw pos (keywordEach [] X.env))) := by rfl) :
    PE X (.Call (.Attribute o m apos) [] [] pos) (tMeth C m sp dvs E ta tNil) := by
  intro pins s σ H Q I h
  refine PySem.W.methodCall_KW (pl := pl) (thn (he pins s σ H _ I h) fun u s1 ⟨x, H1, I1, rx, a, dx, fs, ex, ea, l, q⟩ => ?_) ht
  subst ex
  obtain rfl : u = Value.ref a := rx
  refine getmeth_ok I1 ea c hm l ?_
  exact PySem.W.callWith_K0 (first := [.ref a]) I1.kIn hm.kp (run_fn (us := [.ref a]) (vs := [.ref a]) F hr hb hd hx I1 (.cons rfl .nil) q)
structure Mk (K : PySem.W.Frag) (C f : Addr) : Prop where
  makes : PySem.W.makesIn K C = true
  init : PySem.W.findIn K (.ref C) "__init__" = some (some (.ref f))
  fn : PySem.W.isFn K (.ref f) = true
  kp : PySem.W.keepIn K (.ref C) = true
theorem run_make {pins : List (Addr × Obj)} {σ : St} {H : Hp} {s : Shared} {Q : VK} {us : List Value} {vs : List V} (M : Mk X.K C f) (F : FnOk X.prog X.w X.K X.mg X.base CX k f fd ps sp) (hr : Room (k + 1) X.A) (hb : Binds X.K fd ps ds) (hd : Vals dvs ds)
    (hx : Passes CX X E) (I : Inv X pins σ H s) (r : Vals vs us)
    (h : ∀ x dx, H x = none → H dx = none → dx ≠ x → sp (.ref x :: (vs ++ dvs)) (upd (upd H dx (.own x)) x (.ins C dx [])) (fun v H2 => v = .non ∧ Q (.ref x) H2) E) :
    wpAny (model X.prog X.w) X.A (call (.ref C) us) (EP X pins σ Q) X.xe s := by
  have hq := h (s.heap.objs.size + 1) s.heap.objs.size (I.hok.fresh (Nat.le_succ _)) (I.hok.fresh (Nat.le_refl _)) (Nat.ne_of_lt (Nat.lt_succ_self _))
  have I2 := Inv.made (C := C) I
  have r2 : Vals (V.ref (s.heap.objs.size + 1) :: (vs ++ dvs)) (Value.ref (s.heap.objs.size + 1) :: (us ++ ds)) := .cons rfl (r.append hd)
  have hl : (Value.ref (s.heap.objs.size + 1) :: us ++ ds).length = ps.length := by
    have e := r2.length
    rw [F.len _ _ _ _ hq] at e
    exact e.symm
  refine wpAny_call (make_map (f := f) I.kIn M.makes M.init (beq_iff_eq.mp M.fn) (codeAny_mono (F.run _ X.stack _ _ ⟨Value.ref (s.heap.objs.size + 1) :: us, []⟩ (Value.ref (s.heap.objs.size + 1) :: (us ++ ds)) _ _ E (hr.make C us [])
    (I2.env0.make C us []) (hb _ (Value.ref (s.heap.objs.size + 1) :: us) I2.kIn hl) r2 hq) fun r s' hq' => ?_))
  cases r with
  | error e => exact hx pins σ _ _ e s' I2 hq'
  | ok fl =>
    cases fl with
    | ret u =>
      obtain ⟨v, H', I3, rv, ev, q3⟩ := I2.after hq'
      subst ev
      exact ⟨rv, ⟨V.ref (s.heap.objs.size + 1), H', I3, rfl, q3⟩⟩
    | next => exact False.elim hq'
    | brk => exact False.elim hq'
    | cont => exact False.elim hq'
theorem pe_make (M : Mk X.K C f) (F : FnOk X.prog X.w X.K X.mg X.base CX k f fd ps sp) (hr : Room (k + 1) X.A) (hg : Gl X x) (hm : X.mg x = some (.ref C)) (hb : Binds X.K fd ps ds) (hd : Vals dvs ds) (hx : Passes CX X E)
    (ha : PA X (e :: es) t) (hdb : (x == ("__debug__" : Str)) = false := by decide) (he : starEach (e :: es) X.env = (false, eval e X.env) :: starEach es X.env := by rfl) (hpl : (backTo pos (starEach es X.env)).any (·.1) = false := by rfl) :
    PE X (.Call (.Name x p) (e :: es) [] pos) (tMake C sp dvs E t) := by
  intro pins s σ H Q I h
  refine wpAny_Call_Name_kw (ld_glob I hg hm ?_ hdb)
  refine PySem.W.callWith_K (h₀ := X.base) I.ok.mod.kin M.kp (thn (ha pos pins s σ H _ I h) fun us s1 ⟨vs, H1, I1, r, q⟩ => ⟨I1.kIn, ?_⟩) he hpl
  exact run_make M F hr hb hd hx I1 r q
end
def PK (X : Cx) (kws : List Keyword) (t : TA) : Prop :=
  ∀ (pos : Pos) (pins : List (Addr × Obj)) (s : Shared) (σ : St) (H : Hp) (Q : List V → Hp → Prop), Inv X pins σ H s → t σ H Q → wpAny (model X.prog X.w) X.A (evalAll ((backToKw pos (keywordEach kws X.env)).map (·.2))) (AP X pins σ Q) X.xe s
section
variable {X : Cx} {CX : CXT} {k : Nat} {f C : Addr} {fd : FuncData} {ps ks : List Str} {sp : Sp} {E : XK} {x m : Str} {p pos apos kpos : Pos} {e o : Expr} {es : List Expr} {kws : List Keyword} {te ta : TE} {t tk : TA} {nm : Option Str}
structure KBinds (K : PySem.W.Frag) (fd : FuncData) (ps ks : List Str) (g : List Value → List Value → List Value) (gV : List V → List V → List V) : Prop where
  to : ∀ (s : Shared) (us ws : List Value), K.In s.heap → (g us ws).length = ps.length → BindsTo s fd ⟨us, ks.zip ws⟩ (ps.zip (g us ws))
  rel : ∀ {vs : List V} {us : List Value} {zs : List V} {ws : List Value}, Vals vs us → Vals zs ws → Vals (gV vs zs) (g us ws)
def tCallK (sp : Sp) (gV : List V → List V → List V) (E : XK) (t tk : TA) : TE := fun σ H Q => t σ H fun vs H1 => tk σ H1 fun zs H2 => sp (gV vs zs) H2 Q E
variable {g : List Value → List Value → List Value} {gV : List V → List V → List V}
end
structure FnScope (N P : List Str) (sc : Scope) : Prop where
  kind : sc.kind = .function
  co : sc.isCoroutine = false
  gen : sc.isGenerator = false
  nd : N.Nodup
  pre : N.take P.length = P
  par : ∀ x ∈ P, sc.names.lookup x = some .local ∨ sc.names.lookup x = some .cell
  nofree : ∀ y ∈ sc.names, y.2 ≠ .free
theorem bindL_out {kindOf : Str → Option NameKind} {x : Str} : ∀ {binds : List (Str × Value)} {m : Str → Option Value}, (∀ v, (x, v) ∉ binds) → bindL kindOf binds m x = m x
  | [], _, _ => rfl
  | (n, v) :: r, m, h => by
    unfold bindL
    rw [bindL_out fun w hw => h w (List.mem_cons_of_mem _ hw)]
    split
    · have : x ≠ n := by rintro rfl; exact h v List.mem_cons_self
      simp [this]
    · rfl
theorem bindC_out {kindOf : Str → Option NameKind} {x : Str} : ∀ {binds : List (Str × Value)} {m : Str → Option Value}, (∀ v, (x, v) ∉ binds) → bindC kindOf binds m x = m x
  | [], _, _ => rfl
  | (n, v) :: r, m, h => by
    unfold bindC
    rw [bindC_out fun w hw => h w (List.mem_cons_of_mem _ hw)]
    split
    · rfl
    · have : x ≠ n := by rintro rfl; exact h v List.mem_cons_self
      simp [this]
theorem bindL_get {kindOf : Str → Option NameKind} {x : Str} {v : Value} : ∀ {P : List Str} {vs : List Value} {i : Nat} {m : Str → Option Value}, P.Nodup → P[i]? = some x → vs[i]? = some v → kindOf x = some .local →
    bindL kindOf (P.zip vs) m x = some v
  | [], _, _, _, _, h, _, _ => by simp at h
  | _ :: _, [], _, _, _, _, h, _ => by simp at h
  | p :: P, w :: vs, 0, m, nd, h1, h2, hk => by
    simp at h1 h2; subst h1; subst h2
    show bindL kindOf ((p, w) :: P.zip vs) m p = _
    unfold bindL
    rw [bindL_out fun v hv => (List.nodup_cons.mp nd).1 (List.of_mem_zip hv).1, if_pos hk]
    simp
  | p :: P, w :: vs, i + 1, m, nd, h1, h2, hk => by
    show bindL kindOf ((p, w) :: P.zip vs) m x = _
    unfold bindL
    exact bindL_get (i := i) (List.nodup_cons.mp nd).2 (by simpa using h1) (by simpa using h2) hk
theorem bindC_get {kindOf : Str → Option NameKind} {x : Str} {v : Value} : ∀ {P : List Str} {vs : List Value} {i : Nat} {m : Str → Option Value}, P.Nodup → P[i]? = some x → vs[i]? = some v → kindOf x ≠ some .local →
    bindC kindOf (P.zip vs) m x = some v
  | [], _, _, _, _, h, _, _ => by simp at h
  | _ :: _, [], _, _, _, _, h, _ => by simp at h
  | p :: P, w :: vs, 0, m, nd, h1, h2, hk => by
    simp at h1 h2; subst h1; subst h2
    show bindC kindOf ((p, w) :: P.zip vs) m p = _
    unfold bindC
    rw [bindC_out fun v hv => (List.nodup_cons.mp nd).1 (List.of_mem_zip hv).1, if_neg hk]
    simp
  | p :: P, w :: vs, i + 1, m, nd, h1, h2, hk => by
    show bindC kindOf ((p, w) :: P.zip vs) m x = _
    unfold bindC
    exact bindC_get (i := i) (List.nodup_cons.mp nd).2 (by simpa using h1) (by simpa using h2) hk
def start (N : List Str) (vs : List V) : St := vs.map some ++ List.replicate (N.length - vs.length) none
def cxOf (CX : CXT) (P : Program) (w : World) (K : PySem.W.Frag) (mg : Str → Option Value) (base : Heap) (N : List Str) (qual : Str) (scope : Scope) (f : Addr) (cd : Value) (A : Around) (outer : List Env) (s : Shared) (H : Hp) (E : XK) : Cx where
  prog := P
  w := w
  K := K
  mg := mg
  base := base
  A := A.deeper (envOfC qual scope s.heap.objs.size f cd)
  N := N
  s_0 := s
  H_0 := H
  env := envOfC qual scope s.heap.objs.size f cd
  outer := outer
  stack := envOfC qual scope s.heap.objs.size f cd :: outer
  ex := []
  calm := true
  fn := fun _ => true
  pn := []
  xe := fun e s' => wpAny (model P w) (A.deeper (envOfC qual scope s.heap.objs.size f cd)) (leaving (envOfC qual scope s.heap.objs.size f cd) e) (fun _ s'' => CX outer H s E e s'') (fun e' s'' => CX outer H s E e' s'') s'
theorem cell_has {sc : Scope} {n : Nat} {x : Str} (h : sc.names.lookup x = some .cell) : ∃ c, (cellsFrom n sc.names []).lookup x = some c := by
  have q := PySem.W.cellsFrom_some sc.names n [] (.inl h)
  exact Option.isSome_iff_exists.mp q
theorem inv_start {CX : CXT} {P : Program} {w : World} {K : PySem.W.Frag} {mg : Str → Option Value} {base : Heap} {N ps : List Str} {qual : Str} {scope : Scope} {f : Addr} {cd : Value} {A : Around} {outer : List Env} {s s1 : Shared} {H : Hp} {E : XK} {us : List Value} {vs : List V}
    (S : FnScope N ps scope) (hd : A.handled = none) (e0 : Env0 P w K mg base A outer s H) (hl : vs.length = ps.length) (r : Vals vs us)
    (x : InCallC s s.heap.objs.size (bindL (envOfC qual scope s.heap.objs.size f cd).kindOf (ps.zip us) fun _ => none) (cellsFrom (s.heap.objs.size + 1) scope.names []) (bindC (envOfC qual scope s.heap.objs.size f cd).kindOf (ps.zip us) fun _ => none) s1) :
    Inv (cxOf CX P w K mg base N qual scope f cd A outer s H E) [] (start N vs) H s1 := by
  have hpl : ps.length ≤ N.length := by have := congrArg List.length S.pre; rw [List.length_take] at this; omega
  obtain ⟨h1, tk, rfl, hk⟩ := x.done
  have noA : ∀ b : Addr, b ∉ (cxOf CX P w K mg base N qual scope f cd A outer s H E).ex := fun b z => absurd (show b ∈ ([] : List Addr) from z) (by simp)
  refine ⟨⟨e0.mod, S.kind, rfl, rfl, Nat.le_refl _, fun y z c h1 h2 => ?_, fun y hy => ?_, fun y c _ h => ?_, fun _ => hd, Around.frames_deeper e0.frames, .inr ⟨rfl, rfl⟩, fun b z => absurd z (noA b), e0.bs, e0.bsz, fun b _ _ => noA b, fun b z => absurd z (noA b), e0.funs, e0.frf⟩,
    rfl, e0.bare, Un.kept hk, ⟨_, x.toInCall.ns, fun i y v h1 h2 h3 => ?_⟩, fun y c h => ⟨_, x.cell y c h⟩, e0.hok.fresh (Nat.le_refl _), fun y c h => ?_, fun p hp => absurd (show p ∈ ([] : List (Addr × Obj)) from hp) (by simp), e0.hok.kept hk, ?_⟩
  · exact name_of_addr x.apart (PySem.mem_of_lookup h1) (PySem.mem_of_lookup h2)
  · have hy : scope.names.lookup y = some .cell ∨ scope.names.lookup y = some .free := hy
    rcases hy with hy | hy
    · exact cell_has hy
    · exact absurd rfl (S.nofree _ (PySem.mem_of_lookup hy))
  · exact Nat.le_of_lt (x.above y c (PySem.mem_of_lookup h))
  · have hi : i < vs.length := by
      unfold start at h2
      by_cases hi : i < vs.length
      · exact hi
      · rw [List.getElem?_append_right (by simpa using hi)] at h2
        rw [List.getElem?_replicate] at h2
        split at h2 <;> cases h2
    have ha : vs[i]? = some v := by
      unfold start at h2
      rw [List.getElem?_append_left (by simpa using hi), List.getElem?_map] at h2
      cases e : vs[i]? with
      | none => rw [e] at h2; cases h2
      | some a => rw [e] at h2; cases h2; rfl
    obtain ⟨u, hu, rv⟩ := r.get ha
    have hp : ps[i]? = some y := by
      rw [← S.pre, List.getElem?_take_of_lt (by omega)]; exact h1
    have ndP : ps.Nodup := by rw [← S.pre]; exact S.nd.sublist (List.take_sublist _ _)
    refine ⟨u, rv, ?_⟩
    rcases S.par y (List.mem_of_getElem? hp) with k | k
    · exact .inl ⟨k, bindL_get ndP hp hu k⟩
    · obtain ⟨c, e⟩ := cell_has (n := s.heap.objs.size + 1) k
      refine .inr ⟨.inl k, c, e, ?_⟩
      have q := x.cell y c e
      rw [bindC_get ndP hp hu (by show scope.names.lookup y ≠ _; rw [k]; decide)] at q
      exact q
  · exact e0.hok.fresh (Nat.le_of_lt (x.above y c (PySem.mem_of_lookup h)))
  · unfold start
    show _ = N.length
    rw [List.length_append, List.length_map, List.length_replicate]
    omega
theorem fn_of {CX : CXT} {P : Program} {w : World} {K : PySem.W.Frag} {mg : Str → Option Value} {base : Heap} {k : Nat} {f : Addr} {name qual : Str} {params : Arguments} {body : List Stmt} {scope : Scope} {dV kV doc pm cdv ct oc : Value} {an od : Option Addr}
    {osl : Array (Option Value)} {N ps : List Str} {sp : Sp} (lk : K.lookup f = some ⟨oc, od, .func (PySem.W.fnOf name qual params body scope dV kV doc pm an cdv ct), osl⟩) (hcd : PySem.W.codeIn K cdv qual = true) (S : FnScope N ps scope)
    (len : ∀ vs H Q E, sp vs H Q E → vs.length = ps.length)
    (hbody : ∀ (A : Around) (outer : List Env) (s : Shared) (H : Hp) (vs : List V) (Q : VK) (E : XK), Room k (A.deeper (envOfC qual scope s.heap.objs.size f cdv)) → sp vs H Q E →
      ∃ t, PSs (cxOf CX P w K mg base N qual scope f cdv A outer s H E) body t ∧ t { nx := fun _ H' => Q .non H', rt := Q } (start N vs) H) :
    FnOk P w K mg base CX (k + 1) f (PySem.W.fnOf name qual params body scope dV kV doc pm an cdv ct) ps sp := by
  refine ⟨len, fun A outer s H args us vs Q E hr e0 hb r hsp => ?_⟩
  have hl := len _ _ _ _ hsp
  have KX : K.In s.heap := e0.mod.kin.keeps fun b o e => (e0.bs b o e).1
  have lim : s.heap.NoLimit := e0.mod.nolimit.keeps fun b o e => (e0.bs b o e).1
  have hkind : ∀ y ∈ ps.zip us, scope.names.lookup y.1 = some .local ∨ (scope.names.lookup y.1 = some .cell ∧ ((cellsFrom (s.heap.objs.size + 1) scope.names []).lookup y.1).isSome = true) := fun ⟨n, v⟩ hy => by
    rcases S.par n (List.of_mem_zip hy).1 with q | q
    · exact .inl q
    · exact .inr ⟨q, PySem.W.cellsFrom_some _ _ _ (.inl q)⟩
  refine codeAny_call_function hr.depth (KX _ _ lk) rfl S.co S.gen rfl (PySem.W.codeRec_of KX hcd) (hb _ _ _ _ ?_)
  refine wpAny_newFunctionEnv_cells S.kind hkind fun env he s1 x => ?_
  subst he
  refine ⟨lim.keeps x.toInCall.keep, codeAny_func ?_⟩
  obtain ⟨t, ht, hq⟩ := hbody A outer s H vs Q E (hr.deeper _) hsp
  have I : Inv (cxOf CX P w K mg base N qual scope f cdv A outer s H E) [] (start N vs) H s1 := inv_start S hr.hd e0 hl r x
  refine wpAny_mono (ht [] s1 (start N vs) H _ I hq) (fun fl s' hs => ?_) fun e s' hs => hs
  have fin : ∀ {σ' : St} {H' : Hp} {v : V} {u : Value}, Inv (cxOf CX P w K mg base N qual scope f cdv A outer s H E) [] σ' H' s' → RelV v u → Q v H' → CE outer P w H s Q u s' :=
    fun {σ' H' v u} J rv q => ⟨v, H', J.os, J.bare, J.base, J.hok, rv, q⟩
  cases fl with
  | ret u =>
    obtain ⟨v, σ', H', J, rv, q⟩ := hs
    exact fin J rv q
  | next =>
    obtain ⟨σ', H', J, q⟩ := hs
    exact fin (v := V.non) (u := Value.none) J rfl q
  | brk =>
    obtain ⟨_, _, _, q⟩ := hs
    exact False.elim q
  | cont =>
    obtain ⟨_, _, _, q⟩ := hs
    exact False.elim q
end L2
namespace L2
open PySem PySem.Spec PyProof.Rows
section
variable {X : Cx} {x : Str} {p pos : Pos} {e : Expr} {es : List Expr} {t : TA} {id T : String} {r : List V → Hp → VK → Prop}
def tCB (r : List V → Hp → VK → Prop) (t : TA) : TE := fun σ H Q => t σ H fun vs H1 => r vs H1 Q
theorem pe_callB (hc : CallR X (.builtin id) r) (hg : Gl X x) (hm : X.mg x = none) (hv : bootBuiltins x = some (.builtin id)) (ha : PA X (e :: es) t) (hn : x ≠ "__name__" := by decide) (hdb : (x == ("__debug__" : Str)) = false := by decide)
    (he : starEach (e :: es) X.env = (false, eval e X.env) :: starEach es X.env := by rfl) (hpl : (backTo pos (starEach es X.env)).any (·.1) = false := by rfl) : PE X (.Call (.Name x p) (e :: es) [] pos) (tCB r t) := by
  intro pins s σ H Q I h
  refine wpAny_Call_Name_kw (ld_blt I hg hm hv ?_ hn hdb)
  exact PyProof.Rows.callWith_builtin1 (thn (ha pos pins s σ H _ I h) fun us s1 ⟨vs, H1, I1, r1, q1⟩ => hc pins s1 σ H1 vs us Q I1 r1 q1) he hpl
theorem pe_callTy (hc : CallR X (.type T) r) (hg : Gl X x) (hm : X.mg x = none) (hv : bootBuiltins x = some (.type T)) (ha : PA X (e :: es) t) (hn : x ≠ "__name__" := by decide) (hdb : (x == ("__debug__" : Str)) = false := by decide)
    (he : starEach (e :: es) X.env = (false, eval e X.env) :: starEach es X.env := by rfl) (hpl : (backTo pos (starEach es X.env)).any (·.1) = false := by rfl) : PE X (.Call (.Name x p) (e :: es) [] pos) (tCB r t) := by
  intro pins s σ H Q I h
  refine wpAny_Call_Name_kw (ld_blt I hg hm hv ?_ hn hdb)
  exact PyProof.Rows.callWith_type1 (thn (ha pos pins s σ H _ I h) fun us s1 ⟨vs, H1, I1, r1, q1⟩ => hc pins s1 σ H1 vs us Q I1 r1 q1) he hpl
end
end L2
namespace HT
open PySem PyProof.Rows
def lexLt : List Int → List Int → Bool
  | [], [] => false
  | [], _ :: _ => true
  | _ :: _, [] => false
  | x :: xs, y :: ys => if x = y then lexLt xs ys else decide (x < y)
section
open PySem.SeqAt
open PySem.AutoSeq1 (wpAny_loadPart')
open PySem.MeetsSeq PySem.MeetsSeq2 PySem.MeetsSeq3
end
section
variable {prog : Program} {w : World} {A : Around} {E : Value → Shared → Prop} {s : Shared}
theorem cat_tup {t b : Addr} {vs ws : List Value} {Q : Value → Shared → Prop} (ht : IsTup s.heap t vs.toArray) (hb : IsTup s.heap b ws.toArray) (hv : vs ≠ [])
    (h1 : ws = [] → Q (.ref t) s) (h2 : ws ≠ [] → Q (.ref s.heap.objs.size) { s with heap := s.heap.push { cls := .type "tuple", data := .seq (vs ++ ws).toArray } })
    (hsz : vs.length + ws.length ≤ sizeLine) : wpAny (model prog w) A (binaryOp .Add (.ref t) (.ref b)) Q E s := by
  obtain ⟨⟨cls, dd, data, sl⟩, ho, hc, n, hd⟩ := id ht
  obtain ⟨⟨cls2, dd2, data2, sl2⟩, ho2, hc2, n2, hd2⟩ := id hb
  simp only at hc hd hc2 hd2
  subst hc hd hc2 hd2
  have e : vs.toArray ++ ws.toArray = (vs ++ ws).toArray := by simp
  by_cases hw : ws = []
  · exact concat_meets ⟨_, ho, rfl⟩ ⟨_, ho2, rfl⟩ noFill_tuple_add seq_tuple_add PySem.F.slot_tuple_add PySem.F.entry_tuple_add (PySem.F.args_tuple_add_2 _ _)
      (tuple_addW1 t b vs.toArray ws.toArray n n2 dd dd2 sl sl2 (by simpa using hv) (by simp [hw])) ⟨ho, ho2, h1 hw⟩
  · refine concat_meets ⟨_, ho, rfl⟩ ⟨_, ho2, rfl⟩ noFill_tuple_add seq_tuple_add PySem.F.slot_tuple_add PySem.F.entry_tuple_add (PySem.F.args_tuple_add_2 _ _)
      (tuple_addW2 t b vs.toArray ws.toArray n n2 dd dd2 sl sl2 (by simpa using hv) (by simpa using hw) (by rw [List.size_toArray, List.size_toArray]; exact hsz)) ⟨ho, ho2, ?_⟩
    rw [e]
    exact h2 hw
def sIx (n d : Nat) : Option Int → Nat
  | none => d
  | some v => if v < 0 then (v + (n : Int)).toNat else min v.toNat n
theorem sIx_nat (n d k : Nat) : sIx n d (some (k : Int)) = min k n := by
  show (if (k : Int) < 0 then ((k : Int) + (n : Int)).toNat else min (k : Int).toNat n) = min k n
  rw [if_neg (by omega), Int.toNat_natCast]
theorem sIx_le (n d : Nat) (hd : d ≤ n) (o : Option Int) : sIx n d o ≤ n := by
  cases o with
  | none => exact hd
  | some v =>
    show (if v < 0 then (v + (n : Int)).toNat else min v.toNat n) ≤ n
    by_cases hv : v < 0
    · rw [if_pos hv]; omega
    · rw [if_neg hv]; exact Nat.min_le_right _ _
theorem clip_eq (v : Int) (n d : Nat) : (if v < 0 then max (v + (n : Int)) 0 else min v (n : Int)) = ((sIx n d (some v) : Nat) : Int) := by
  show (if v < 0 then max (v + (n : Int)) 0 else min v (n : Int)) = (((if v < 0 then (v + (n : Int)).toNat else min v.toNat n) : Nat) : Int)
  by_cases hv : v < 0
  · simp only [if_pos hv]; omega
  · simp only [if_neg hv]; omega
theorem adjust_gen (lo hi : Option Int) (n : Nat) : Builtin.Slice.sliceAdjust lo hi 1 (n : Int) = (((sIx n 0 lo : Nat) : Int), ((sIx n n hi : Nat) : Int)) := by
  have h1 : ¬ ((1 : Int) < 0) := by omega
  unfold Builtin.Slice.sliceAdjust
  simp only [h1, if_false]
  refine Prod.ext ?_ ?_
  · cases lo with
    | none => rfl
    | some v => exact clip_eq v n 0
  · cases hi with
    | none => rfl
    | some v => exact clip_eq v n n
theorem places_gen (i j : Nat) : Builtin.Slice.slicePlaces (i : Int) (j : Int) 1 = j - i := by
  unfold Builtin.Slice.slicePlaces
  have h1 : (1 : Int) > 0 := by omega
  simp only [h1, if_true, Int.ediv_one]
  split <;> omega
theorem slicePart_ {v : Value} {o : Option Int} {Q : Option Int → Shared → Prop} (p : IsPart v o) (h : Q o s) : wpAny (model prog w) A (Builtin.Slice.slicePartIndex v) Q E s := by
  cases p with
  | none => exact slicePart_none h
  | int i t => exact slicePart_int h
theorem sliceApplied_gen {sl : Addr} {vl vu : Value} {lo hi : Option Int} {n : Nat} {Q : Int × Int × Nat → Shared → Prop} (hs : s.heap.IsSliceOf sl vl vu .none) (pl : IsPart vl lo) (pu : IsPart vu hi)
    (h : Q (((sIx n 0 lo : Nat) : Int), 1, sIx n n hi - sIx n 0 lo) s) : wpAny (model prog w) A (Builtin.Slice.sliceApplied (.ref sl) (pure (n : Int))) Q E s := by
  obtain ⟨os, hos, hcs, hds⟩ := id hs
  unfold Builtin.Slice.sliceApplied Builtin.Slice.sliceFields
  refine wpAny_bind (wpAny_bind (wpAny_field hos hds (x := vl) rfl (wpAny_bind (wpAny_field hos hds (x := vu) rfl (wpAny_bind (wpAny_field hos hds (x := .none) rfl (wpAny_pure ?_)))))))
  refine wpAny_bind (slicePart_none ?_)
  show wpAny _ _ (if ((1 : Int) == 0) = true then _ else _) _ _ s
  rw [if_neg (by decide)]
  refine wpAny_bind (slicePart_ pl (wpAny_bind (slicePart_ pu (wpAny_bind (wpAny_pure ?_)))))
  show wpAny _ _ (match Builtin.Slice.sliceAdjust lo hi 1 (n : Int) with | (lo, hi) => pure (lo, (1 : Int), Builtin.Slice.slicePlaces lo hi 1)) _ _ s
  rw [adjust_gen lo hi n]
  show wpAny _ _ (pure (((sIx n 0 lo : Nat) : Int), (1 : Int), Builtin.Slice.slicePlaces ((sIx n 0 lo : Nat) : Int) ((sIx n n hi : Nat) : Int) 1)) _ _ s
  rw [places_gen]
  exact wpAny_pure h
theorem pick_gen (xs : Array Value) (i k : Nat) : ((List.range k).filterMap fun (m : Nat) => xs[((i : Int) + (m : Int) * 1).toNat]?).toArray = ((xs.toList.drop i).take k).toArray := by
  have e : (fun (m : Nat) => xs[((i : Int) + (m : Int) * 1).toNat]?) = fun m => xs[i + m]? := by
    funext m
    have : ((i : Int) + (m : Int) * 1).toNat = i + m := by omega
    rw [this]
  rw [e]
  have := pick_run xs i k
  rw [List.filterMap_map] at this
  have e2 : ((fun x => xs[x]?) ∘ fun x => i + x) = fun m => xs[i + m]? := rfl
  rw [e2] at this
  rw [this]
theorem getItem_tuple_cut {t sl : Addr} {items : Array Value} {vl vu : Value} {lo hi : Option Int} {Q : Value → Shared → Prop} (ht : IsTup s.heap t items) (hs : s.heap.IsSliceOf sl vl vu .none) (pl : IsPart vl lo) (pu : IsPart vu hi)
    (hw : ¬ (sIx items.size 0 lo = 0 ∧ sIx items.size items.size hi = items.size))
    (h : Q (.ref s.heap.objs.size) { s with heap := s.heap.push { cls := .type "tuple", data := .seq ((items.toList.drop (sIx items.size 0 lo)).take (sIx items.size items.size hi - sIx items.size 0 lo)).toArray } })
    (hsz : items.size ≤ sizeLine) : wpAny (model prog w) A (getItem (.ref t) (.ref sl)) Q E s := by
  have htake : sizeOk (.seq ((items.toList.drop (sIx items.size 0 lo)).take (sIx items.size items.size hi - sIx items.size 0 lo)).toArray) := by
    show ((items.toList.drop (sIx items.size 0 lo)).take (sIx items.size items.size hi - sIx items.size 0 lo)).toArray.size ≤ sizeLine
    rw [List.size_toArray, List.length_take, List.length_drop, Array.length_toList]
    omega
  have hj : sIx items.size items.size hi ≤ items.size := sIx_le _ _ (Nat.le_refl _) hi
  obtain ⟨os, hos, hcs, hds⟩ := id hs
  have hTs : s.TypeIs (.ref sl) "slice" := ⟨os, hos, hcs⟩
  unfold getItem
  try with_reducible refine wpAny_holding ?_
  first | refine wpAny_bind (wpAny_pure ?_) | skip
  refine wpAny_bind (wpAny_sequenceKey ht.typeIs (by decide) ?_)
  refine wpAny_bind (wpAny_callSpecial?_slot (name := Str.ofString "__getitem__") ht.typeIs PyProof.Rows.slot_tuple_getitem
    (wpAny_call_entry PyProof.Rows.slot_tuple_getitem ht.typeIs entry_tuple_getitem ?_ (args_tuple_getitem _ _)))
  show wpAny _ _ (Builtin.Tuple.tupleItemsOf (.ref t) >>= _) _ _ s
  refine wpAny_bind (tupleItemsOf_ ht ?_)
  refine wpAny_bind (wpAny_typeOf hTs ?_)
  rw [if_pos (by decide)]
  refine wpAny_bind (sliceApplied_gen hs pl pu ?_)
  have hno : ¬ ((((sIx items.size 0 lo : Nat) : Int) == 0 && (1 : Int) == 1 && (sIx items.size items.size hi - sIx items.size 0 lo) == items.size) = true) := by
    intro q
    rw [Bool.and_eq_true, Bool.and_eq_true] at q
    have q1 : ((sIx items.size 0 lo : Nat) : Int) = 0 := eq_of_beq q.1.1
    have q2 : sIx items.size items.size hi - sIx items.size 0 lo = items.size := eq_of_beq q.2
    exact hw ⟨by omega, by omega⟩
  show wpAny _ _ (if (((sIx items.size 0 lo : Nat) : Int) == 0 && (1 : Int) == 1 && (sIx items.size items.size hi - sIx items.size 0 lo) == items.size) = true then _ else _) _ _ s
  rw [if_neg hno, pick_gen]
  first
    | exact wpAny_bind (m := Builtin.Tuple.tupleExact _) (wpAny_newObj_type (wpAny_pure ⟨_, rfl, wpAny_pure h⟩) htake)
    | exact wpAny_bind (m := Builtin.Tuple.tupleExact _) (wpAny_newObj_type (wpAny_bind (wpAny_pure (wpAny_pure ⟨_, rfl, wpAny_pure h⟩))) htake)
    | exact wpAny_bind (wpAny_bind (m := Builtin.Tuple.tupleExact _) (wpAny_newObj_type (wpAny_pure (wpAny_pure ⟨_, rfl, wpAny_pure h⟩)) htake))
    | exact wpAny_bind (wpAny_bind (m := Builtin.Tuple.tupleExact _) (wpAny_newObj_type (wpAny_pure ⟨_, rfl, wpAny_pure h⟩) htake))
end
end HT
namespace L2
open PySem PySem.Spec PyProof.Rows
abbrev TO := St → Hp → (Option Int → Hp → Prop) → Prop
def PO (X : Cx) (e : Option Expr) (t : TO) : Prop :=
  ∀ (pins : List (Addr × Obj)) (s : Shared) (σ : St) (H : Hp) (Q : Option Int → Hp → Prop), Inv X pins σ H s → t σ H Q →
    wpAny (model X.prog X.w) X.A (evalPart e X.env) (fun u s' => ∃ o H', Inv X pins σ H' s' ∧ IsPart u o ∧ Q o H') X.xe s
def tNoPart : TO := fun _ H Q => Q none H
def tPart (t : TE) : TO := fun σ H Q => t σ H fun x H1 => ∃ i, x = .int i ∧ Q (some i) H1
section
variable {X : Cx} {e : Expr} {te : TE} {lo hi : Option Expr} {tl th : TO} {pos p2 : Pos}
theorem po_none : PO X none tNoPart := by
  intro pins s σ H Q I h
  rw [evalPart_none]
  exact wpAny_pure ⟨none, H, I, .none, h⟩
theorem po_some (h : PE X e te) : PO X (some e) (tPart te) := by
  intro pins s σ H Q I hw
  rw [evalPart_some]
  refine thn (h pins s σ H _ I hw) fun u s1 ⟨x, H1, I1, r1, q1⟩ => ?_
  obtain ⟨i, rfl, q⟩ := q1
  obtain ⟨t, rfl⟩ := r1
  exact ⟨some i, H1, I1, .int i t, q⟩
def SlR (X : Cx) (r : V → Option Int → Option Int → Hp → VK → Prop) : Prop :=
  ∀ (pins : List (Addr × Obj)) (s : Shared) (σ : St) (H : Hp) (x : V) (v vl vu : Value) (lo hi : Option Int) (sl : Addr) (Q : VK), Inv X pins σ H s → RelV x v → s.heap.IsSliceOf sl vl vu .none → IsPart vl lo → IsPart vu hi → r x lo hi H Q →
    ∃ T id, typeLookup (.type T) "__getitem__" = pure (some (.builtin id)) ∧ s.TypeIs v T ∧ wpAny (model X.prog X.w) X.A (getItem v (.ref sl)) (EP X pins σ Q) X.xe s
def tSl (r : V → Option Int → Option Int → Hp → VK → Prop) (te : TE) (tl th : TO) : TE := fun σ H Q => te σ H fun x H1 => tl σ H1 fun l H2 => th σ H2 fun u H3 => r x l u H3 Q
theorem pe_slice {r : V → Option Int → Option Int → Hp → VK → Prop} (hr : SlR X r) (he : PE X e te) (hl : PO X lo tl) (hu : PO X hi th) : PE X (.Subscript e (.Slice lo hi none p2) pos) (tSl r te tl th) := by
  intro pins s σ H Q I h
  refine Subscript_ (thn (he pins s σ H _ I h) fun v s1 ⟨x, H1, I1, r1, q1⟩ => ?_)
  refine wpAny_Slice (thn (hl pins s1 σ H1 _ I1 q1) fun vl s2 ⟨l, H2, I2, pl, q2⟩ => thn (hu pins s2 σ H2 _ I2 q2) fun vu s3 ⟨u, H3, I3, pu, q3⟩ => ?_)
  rw [evalPart_none]
  refine wpAny_pure ?_
  have I4 : Inv X pins σ H3 { s3 with heap := s3.heap.push { cls := .type "slice", data := .fields #[vl, vu, .none] } } := I3.kept (t' := s3.toks) fun b ob q => Heap.get?_push_of_some _ q
  obtain ⟨T, id, hT, ht, hg⟩ := hr pins { s3 with heap := s3.heap.push { cls := .type "slice", data := .fields #[vl, vu, .none] } } σ H3 x v vl vu l u s3.heap.objs.size Q I4 r1 (Heap.IsSliceOf.new ..) pl pu q3
  show wpAny (model X.prog X.w) X.A (subscriptTail e (.Slice lo hi none p2) v (.ref s3.heap.objs.size)) (EP X pins σ Q) X.xe { s3 with heap := s3.heap.push { cls := .type "slice", data := .fields #[vl, vu, .none] } }
  exact tail_any (ops := [.ref s3.heap.objs.size, v]) ht hT hg (by with_unfolding_all rfl)
def cutV (xs : List V) (lo hi : Option Int) : List V := (xs.drop (HT.sIx xs.length 0 lo)).take (HT.sIx xs.length xs.length hi - HT.sIx xs.length 0 lo)
theorem cutV_length (xs : List V) (lo hi : Option Int) : (cutV xs lo hi).length ≤ xs.length := by
  unfold cutV
  rw [List.length_take, List.length_drop]
  omega
def rSlT (K : PySem.W.Frag) : V → Option Int → Option Int → Hp → VK → Prop := fun x lo hi H Q => ∃ a xs, x = .ref a ∧ SqT K H a xs ∧
  ¬ (HT.sIx xs.length 0 lo = 0 ∧ HT.sIx xs.length xs.length hi = xs.length) ∧ ∀ p, H p = none → Q (.ref p) (upd H p (.tup (cutV xs lo hi)))
theorem sl_tup : SlR X (rSlT X.K) := by
  intro pins s σ H x v vl vu lo hi sl Q I rx hs pl pu h
  obtain ⟨a, xs, rfl, hx, hw, q⟩ := h
  cases rx
  obtain ⟨its, r, ht, hz⟩ := I.tuple hx
  have hlen : its.toArray.size = xs.length := by rw [List.size_toArray]; exact r.length.symm
  refine ⟨"tuple", _, PyProof.Rows.slot_tuple_getitem.lookup, ht.typeIs, ?_⟩
  refine HT.getItem_tuple_cut ht hs pl pu (by rw [hlen]; exact hw) ?_ (by rw [hlen]; exact hz)
  rw [hlen]
  refine ⟨.ref s.heap.objs.size, _, I.laid (t' := s.toks) (o := .tup (cutV xs lo hi)) (fun b ob q => Heap.get?_push_of_some _ q) (Nat.le_refl _) ?_, rfl, q _ (I.hok.fresh (Nat.le_refl _))⟩
  exact ⟨Nat.le_trans (cutV_length xs lo hi) hz, _, (r.drop (HT.sIx xs.length 0 lo)).take (HT.sIx xs.length xs.length hi - HT.sIx xs.length 0 lo), TupN.new _ _⟩
def rLtT (K : PySem.W.Frag) : R2 := fun x y H Q => ∃ a b ns ms, x = .ref a ∧ y = .ref b ∧ SqT K H a (ns.map V.int) ∧ SqT K H b (ms.map V.int) ∧ Q (.bl (HT.lexLt ns ms)) H
def rCatT (K : PySem.W.Frag) : R2 := fun x y H Q => ∃ a b xs ys, x = .ref a ∧ y = .ref b ∧ SqT K H a xs ∧ SqT K H b ys ∧ xs ≠ [] ∧ xs.length + ys.length ≤ sizeLine ∧
  (ys = [] → Q (.ref a) H) ∧ (ys ≠ [] → ∀ p, H p = none → Q (.ref p) (upd H p (.tup (xs ++ ys))))
theorem Vals.nil_iff {xs : List V} {us : List Value} (r : Vals xs us) : us = [] ↔ xs = [] := by
  cases r with
  | nil => simp
  | cons _ _ => simp
theorem op_catT : OpR X (binaryOp .Add) (rCatT X.K) := by
  intro pins s σ H x y v u Q I rx ry h
  obtain ⟨a, b, xs, ys, rfl, rfl, ha, hb, hx, hz, q1, q2⟩ := h
  cases rx
  cases ry
  obtain ⟨its, r1, p1, _⟩ := I.tuple ha
  obtain ⟨its2, r2, p2, _⟩ := I.tuple hb
  refine HT.cat_tup p1 p2 (fun z => hx (r1.nil_iff.mp z)) (fun z => ⟨.ref a, H, I, rfl, q1 (r2.nil_iff.mp z)⟩) (fun z => ?_) (by rw [← r1.length, ← r2.length]; exact hz)
  refine ⟨.ref s.heap.objs.size, _, I.laid (t' := s.toks) (o := .tup (xs ++ ys)) (fun b ob q => Heap.get?_push_of_some _ q) (Nat.le_refl _) ?_, rfl, q2 (fun w => z (r2.nil_iff.mpr w)) _ (I.hok.fresh (Nat.le_refl _))⟩
  exact ⟨by rw [List.length_append]; exact hz, _, r1.append r2, TupN.new _ _⟩
end
end L2
namespace L2
open PySem PySem.Spec PyProof.Rows
def ixN (n : Nat) (i : Int) : Option Nat := if 0 ≤ i then (if i < n then some i.toNat else none) else if -(n : Int) ≤ i then some (i + n).toNat else none
def atI {α : Type} (xs : List α) (i : Int) : Option α := (ixN xs.length i).bind fun j => xs[j]?
theorem ixN_seq {n : Nat} {i : Int} {j : Nat} (h : ixN n i = some j) : seqIndex? i n = some j ∧ j < n ∧ -(n : Int) ≤ i ∧ i < n := by
  unfold ixN at h
  by_cases h0 : 0 ≤ i
  · rw [if_pos h0] at h
    by_cases h1 : i < n
    · rw [if_pos h1] at h
      have e : i.toNat = j := Option.some.inj h
      exact ⟨by rw [seqIndex_of h0 h1, e], by omega, by omega, h1⟩
    · rw [if_neg h1] at h; cases h
  · rw [if_neg h0] at h
    by_cases h1 : -(n : Int) ≤ i
    · rw [if_pos h1] at h
      have e : (i + n).toNat = j := Option.some.inj h
      exact ⟨by rw [seqIndex_neg (by omega) h1, e], by omega, h1, by omega⟩
    · rw [if_neg h1] at h; cases h
theorem atI_get {α : Type} {xs : List α} {i : Int} {v : α} (h : atI xs i = some v) : ∃ j, seqIndex? i xs.length = some j ∧ xs[j]? = some v ∧ j < xs.length ∧ -(xs.length : Int) ≤ i ∧ i < xs.length := by
  unfold atI at h
  cases e : ixN xs.length i with
  | none => rw [e] at h; cases h
  | some j =>
    rw [e] at h
    obtain ⟨h1, h2, h3, h4⟩ := ixN_seq e
    exact ⟨j, h1, h, h2, h3, h4⟩
theorem atI_nat {α : Type} {xs : List α} {j : Nat} {v : α} (h : xs[j]? = some v) : atI xs (j : Int) = some v := by
  have hj : j < xs.length := (List.getElem?_eq_some_iff.mp h).1
  have e : ixN xs.length (j : Int) = some j := by
    unfold ixN
    rw [if_pos (by omega), if_pos (by omega)]; simp
  unfold atI; rw [e]; exact h
def PlainIx (b : Expr) : Prop := ∀ o i, subscripted b false o i = operate [o, i] (getItem o i)
def IxR (X : Cx) (r : R2) : Prop :=
  ∀ (value slice : Expr) (pins : List (Addr × Obj)) (s : Shared) (σ : St) (H : Hp) (x y : V) (v u : Value) (Q : VK), Inv X pins σ H s → RelV x v → RelV y u → r x y H Q →
    subscripted slice false v u = operate [v, u] (getItem v u) → wpAny (model X.prog X.w) X.A (subscriptTail value slice v u) (EP X pins σ Q) X.xe s
def MtR (X : Cx) (id : String) (r : V → List V → Hp → VK → Prop) : Prop :=
  ∀ (pins : List (Addr × Obj)) (s : Shared) (σ : St) (H : Hp) (x : V) (xs : List V) (v : Value) (us : List Value) (Q : VK), Inv X pins σ H s → RelV x v → Vals xs us → r x xs H Q →
    wpAny (model X.prog X.w) X.A (call (.builtin id) (v :: us)) (EP X pins σ Q) X.xe s
section
variable {X : Cx} {a b : Expr} {ta tb : TE} {pos : Pos}
theorem pe_ix {r : R2} (hr : IxR X r) (ha : PE X a ta) (hb : PE X b tb) (hs : PlainIx b) : PE X (.Subscript a b pos) (tOp r ta tb) := by
  intro pins s σ H Q I h
  exact Subscript_ (binT ha hb I h fun v u s2 x y H2 I2 rx ry q => hr a b pins s2 σ H2 x y v u Q I2 rx ry q (hs _ _))
def rIxL (K : PySem.W.Frag) : R2 := fun x y H Q => ∃ p xs i v, x = .ref p ∧ y = .int i ∧ SqL K H p xs ∧ atI xs i = some v ∧ Q v H
def rIxT (K : PySem.W.Frag) : R2 := fun x y H Q => ∃ p xs i v, x = .ref p ∧ y = .int i ∧ SqT K H p xs ∧ atI xs i = some v ∧ Q v H
def rIxS : R2 := fun x y H Q => ∃ z i c, x = .str z ∧ y = .int i ∧ z.length ≤ sizeLine ∧ atI z.cps.toList i = some c ∧ Q (.str ⟨#[c]⟩) H
theorem ix_list : IxR X (rIxL X.K) := by
  intro value slice pins s σ H x y v u Q I rx ry h hs
  obtain ⟨p, xs, i, z, rfl, rfl, hq, he, q⟩ := h
  cases rx
  obtain ⟨t, rfl⟩ := ry
  obtain ⟨its, r, pl, hz⟩ := I.list hq
  obtain ⟨j, h1, h2, h3, h4, h5⟩ := atI_get he
  obtain ⟨w, ew, rw'⟩ := r.get h2
  have hl := r.length
  have hn := line63
  have fin : EP X pins σ Q w s := ⟨z, H, I, rw', q⟩
  by_cases h0 : 0 ≤ i
  · have hj : i.toNat = j := by
      rw [seqIndex_of h0 h5] at h1
      exact Option.some.inj h1
    exact item_listR pl.isList h0 (by omega) (by rw [hj]; simpa using ew) fin hs
  · have hj : (i + (its.toArray.size : Int)).toNat = j := by
      rw [seqIndex_neg (by omega) h4] at h1
      rw [List.size_toArray, ← hl]
      exact Option.some.inj h1
    exact subscriptTail_builtinR (x := w) pl.isList.typeIs slot_list_getitem.lookup
      (wpAny_getItem_list_neg (Q := fun r s' => r = w ∧ EP X pins σ Q r s') pl.isList (by omega) (by rw [List.size_toArray] <;> omega) (by omega) (by rw [hj]; simpa using ew) ⟨rfl, fin⟩) hs
theorem ix_tup : IxR X (rIxT X.K) := by
  intro value slice pins s σ H x y v u Q I rx ry h hs
  obtain ⟨p, xs, i, z, rfl, rfl, hq, he, q⟩ := h
  cases rx
  obtain ⟨t, rfl⟩ := ry
  obtain ⟨its, r, pl, hz⟩ := I.tuple hq
  obtain ⟨j, h1, h2, h3, h4, h5⟩ := atI_get he
  obtain ⟨w, ew, rw'⟩ := r.get h2
  have hl := r.length
  have hn := line63
  have fin : EP X pins σ Q w s := ⟨z, H, I, rw', q⟩
  exact subscriptTail_builtinR (x := w) pl.typeIs slot_tuple_getitem.lookup
    (getItem_tuple (j := j) (Q := fun r s' => r = w ∧ EP X pins σ Q r s') pl (by omega) (by omega) (by rw [List.size_toArray, ← hl]; exact h1) (by simpa using ew) ⟨rfl, fin⟩) hs
def rIx (K : PySem.W.Frag) : R2 := fun x y H Q => rIxL K x y H Q ∨ rIxT K x y H Q ∨ rIxS x y H Q
theorem mapSeq_set (its : List Value) (n j : Nat) (u : Value) : Obj.mapSeq (·.setIfInBounds j u) { cls := .type "list", data := .seq its.toArray n } = { cls := .type "list", data := .seq (its.set j u).toArray n } := by
  simp [Obj.mapSeq]
theorem Inv.lst {pins : List (Addr × Obj)} {σ : St} {H : Hp} {s : Shared} {p : Addr} {xs : List V} (I : Inv X pins σ H s) (h : H p = some (.lst xs)) :
    ∃ (its : List Value) (n : Nat), Vals xs its ∧ s.heap.get? p = some { cls := .type "list", data := .seq its.toArray n } ∧ xs.length ≤ sizeLine := by
  obtain ⟨z, its, n, r, e⟩ := I.hok p _ h
  exact ⟨its, n, r, e, z⟩
theorem Inv.lstUpd {pins : List (Addr × Obj)} {σ : St} {H : Hp} {s : Shared} {p : Addr} {xs ys : List V} {its its' : List Value} {n n' : Nat} {f : Obj → Obj} (I : Inv X pins σ H s) (h : H p = some (.lst xs))
    (ho : s.heap.get? p = some { cls := .type "list", data := .seq its.toArray n }) (hf : f { cls := .type "list", data := .seq its.toArray n } = { cls := .type "list", data := .seq its'.toArray n' }) (r : Vals ys its') (hz : ys.length ≤ sizeLine) (t : Nat) :
    Inv X pins σ (upd H p (.lst ys)) { s with heap := s.heap.update p f, toks := t } := by
  have e : (s.heap.update p f).get? p = some { cls := .type "list", data := .seq its'.toArray n' } := by
    rw [Heap.get?_update_self f ho (by rw [hf] <;> rfl), hf]
  refine I.write (x := p) (e := p) (by rw [h]; trivial) (.inl rfl) (fun b u hb q => (Heap.get?_update_other _ _ (Ne.symm hb)).trans q) ⟨_, e⟩ ?_
  exact ⟨hz, its', n', r, e⟩
def rSetL : V → V → V → Hp → (Hp → Prop) → Prop := fun o i v H Q => ∃ p xs k j, o = .ref p ∧ i = .int k ∧ H p = some (.lst xs) ∧ ixN xs.length k = some j ∧ Q (upd H p (.lst (xs.set j v)))
theorem set_list : PSet X rSetL := by
  intro pins s σ H o i v ov iv u Q I ro ri rv h
  obtain ⟨p, xs, k, j, rfl, rfl, hp, hj, q⟩ := h
  cases ro
  obtain ⟨t, rfl⟩ := ri
  obtain ⟨its, n, r, ho, hz⟩ := I.lst hp
  obtain ⟨h1, h2, h3, h4⟩ := ixN_seq hj
  have hl := r.length
  have hn := line63
  have I' : Inv X pins σ (upd H p (.lst (xs.set j v))) { s with heap := s.heap.update p (Obj.mapSeq (·.setIfInBounds j u)) } :=
    I.lstUpd hp ho (mapSeq_set its n j u) (r.set rv j) (by rw [List.length_set]; exact hz) s.toks
  by_cases h0 : 0 ≤ k
  · have hk : k.toNat = j := by
      rw [seqIndex_of h0 h4] at h1
      exact Option.some.inj h1
    exact PySem.W.ki_setAt ho h0 (by omega) (by rw [List.size_toArray, ← hl]; exact h4) (by rw [hk]; exact ⟨_, I', q⟩)
  · have hk : (k + (its.toArray.size : Int)).toNat = j := by
      rw [seqIndex_neg (by omega) h3] at h1
      rw [List.size_toArray, ← hl]
      exact Option.some.inj h1
    exact PySem.W.ki_setBack ho (by omega) (by rw [List.size_toArray, ← hl]; exact h3) (by omega) (by rw [hk]; exact ⟨_, I', q⟩)
theorem slice_bounds (lo hi : Option Int) (n : Nat) : (sliceBounds lo hi none n).1 = ((HT.sIx n 0 lo : Nat) : Int) ∧ (sliceBounds lo hi none n).2.1 = ((HT.sIx n n hi : Nat) : Int) ∧ (sliceBounds lo hi none n).2.2 = 1 := by
  refine ⟨?_, ?_, rfl⟩
  · cases lo with
    | none => simp [sliceBounds, HT.sIx]
    | some i =>
      simp only [sliceBounds, HT.sIx, Option.getD_none, show (1 : Int) > 0 by decide, if_true]
      by_cases h : i < 0
      · simp only [h, if_true] <;> omega
      · simp only [h, if_false] <;> omega
  · cases hi with
    | none => simp [sliceBounds, HT.sIx]
    | some i =>
      simp only [sliceBounds, HT.sIx, Option.getD_none, show (1 : Int) > 0 by decide, if_true]
      by_cases h : i < 0
      · simp only [h, if_true] <;> omega
      · simp only [h, if_false] <;> omega
theorem slicePick_cut (its : List Value) (lo hi : Option Int) : slicePick its.toArray lo hi none = ((its.drop (HT.sIx its.length 0 lo)).take (HT.sIx its.length its.length hi - HT.sIx its.length 0 lo)).toArray := by
  obtain ⟨h1, h2, h3⟩ := slice_bounds lo hi its.toArray.size
  unfold slicePick
  rw [h1, h2, h3]
  simp only [sliceRange_one, pick_run, List.size_toArray] <;> rfl
def rSlL (K : PySem.W.Frag) : V → Option Int → Option Int → Hp → VK → Prop := fun x lo hi H Q => ∃ a xs, x = .ref a ∧ SqL K H a xs ∧ ∀ p, H p = none → Q (.ref p) (upd H p (.lst (cutV xs lo hi)))
theorem sl_list : SlR X (rSlL X.K) := by
  intro pins s σ H x v vl vu lo hi sl Q I rx hs pl pu h
  obtain ⟨a, xs, rfl, hx, q⟩ := h
  cases rx
  obtain ⟨its, r, ht, hz⟩ := I.list hx
  have hlen := r.length
  refine ⟨"list", _, slot_list_getitem.lookup, ht.isList.typeIs, ?_⟩
  refine wpAny_getItem_list_slice ht.isList hs pl pu .none (by simp) ?_ (by rw [List.size_toArray] <;> omega)
  rw [slicePick_cut, ← hlen]
  refine ⟨.ref s.heap.objs.size, _, I.laid (t' := s.toks) (o := .lst (cutV xs lo hi)) (fun b ob q => Heap.get?_push_of_some _ q) (Nat.le_refl _) ?_, rfl, q _ (I.hok.fresh (Nat.le_refl _))⟩
  exact ⟨Nat.le_trans (cutV_length xs lo hi) hz, _, 0, (r.drop (HT.sIx xs.length 0 lo)).take (HT.sIx xs.length xs.length hi - HT.sIx xs.length 0 lo), Heap.get?_push_size _ rfl⟩
def flatV : V → Bool
  | .non => true
  | .bl _ => true
  | .int _ => true
  | .str _ => true
  | _ => false
def eqV : V → V → Bool
  | .non, .non => true
  | .bl a, .bl b => a == b
  | .bl a, .int b => (if a then 1 else 0) == b
  | .int a, .bl b => a == (if b then 1 else 0)
  | .int a, .int b => a == b
  | .str a, .str b => a == b
  | _, _ => false
def eqU (x : V) (u : Value) : Bool := match u with
  | .none => eqV .non x
  | .bool b => eqV (.bl b) x
  | .int i _ => eqV (.int i) x
  | .str z _ => eqV (.str z) x
  | _ => false
def inV (x : V) (xs : List V) : Bool := xs.any fun y => eqV y x
def rIn (K : PySem.W.Frag) (neg : Bool) : R2 := fun x y H Q => ∃ p xs, y = .ref p ∧ (SqL K H p xs ∨ SqT K H p xs) ∧ flatV x = true ∧ xs.all flatV = true ∧ Q (.bl (if neg then !inV x xs else inV x xs)) H
theorem call_len_seq : CallR X (.builtin "len") (fun xs H Q => ∃ p ys, xs = [.ref p] ∧ (SqL X.K H p ys ∨ SqT X.K H p ys) ∧ Q (.int ys.length) H) := by
  intro pins s σ H xs us Q I r h
  obtain ⟨p, ys, rfl, hq, q⟩ := h
  obtain ⟨u, rfl, rx⟩ := vals1 r
  cases rx
  have hn := line63
  rcases hq with hq | hq
  · obtain ⟨its, r', pl, hz⟩ := I.list hq
    have hlen := r'.length
    exact Calls.call_len_list pl.isList (by simp only [List.size_toArray] <;> omega) ⟨.int ys.length, H, I.tok _, ⟨s.toks + 1, by rw [List.size_toArray, hlen]⟩, q⟩
  · obtain ⟨its, r', pl, hz⟩ := I.tuple hq
    have hlen := r'.length
    exact len_tuple pl (by simp only [List.size_toArray] <;> omega) ⟨.int ys.length, H, I.tok _, ⟨s.toks + 1, by rw [List.size_toArray, hlen]⟩, q⟩
theorem call_list_of : CallR X (.type "list") (fun xs H Q => ∃ p ys, xs = [.ref p] ∧ (SqL X.K H p ys ∨ SqT X.K H p ys) ∧ ∀ l, H l = none → Q (.ref l) (upd H l (.lst ys))) := by
  intro pins s σ H xs us Q I r h
  obtain ⟨p, ys, rfl, hq, q⟩ := h
  obtain ⟨u, rfl, rx⟩ := vals1 r
  cases rx
  have fin : ∀ (its : List Value), Vals ys its → ys.length ≤ sizeLine → ∀ (h' : Heap) (c' : Nat), (∀ b o', s.heap.get? b = some o' → h'.get? b = some o') →
      h'.get? s.heap.objs.size = some { cls := .type "list", dict := none, data := .seq its.toArray c', slots := #[] } → EP X pins σ Q (.ref s.heap.objs.size) { s with heap := h' } := fun its r' hz h' c' kp e =>
    ⟨.ref s.heap.objs.size, _, I.laid (t' := s.toks) kp (Nat.le_refl _) (show ObjOk X.prog X.w _ h' _ (.lst ys) from ⟨hz, its, c', r', e⟩), rfl, q _ (I.hok.fresh (Nat.le_refl _))⟩
  rcases hq with hq | hq
  · obtain ⟨its, r', pl, hz⟩ := I.list hq
    have hlen := r'.length
    obtain ⟨o, ho, hc, n, hd⟩ := pl.isList
    exact call_list_seq p (.inl rfl) ho hc hd (fun h' c' kp e => fin its r' hz h' c' kp e) (by simp only [List.size_toArray] <;> omega)
  · obtain ⟨its, r', pl, hz⟩ := I.tuple hq
    have hlen := r'.length
    obtain ⟨o, ho, hc, n, hd⟩ := pl
    exact call_list_seq p (.inr rfl) ho hc hd (fun h' c' kp e => fin its r' hz h' c' kp e) (by simp only [List.size_toArray] <;> omega)
theorem call_tuple_of : CallR X (.type "tuple") (fun xs H Q => ∃ p ys, xs = [.ref p] ∧ ((SqL X.K H p ys ∧ ∀ l, H l = none → Q (.ref l) (upd H l (.tup ys))) ∨ (SqT X.K H p ys ∧ Q (.ref p) H))) := by
  intro pins s σ H xs us Q I r h
  obtain ⟨p, ys, rfl, h⟩ := h
  obtain ⟨u, rfl, rx⟩ := vals1 r
  cases rx
  rcases h with ⟨hq, q⟩ | ⟨hq, q⟩
  · obtain ⟨its, r', pl, hz⟩ := I.list hq
    have hlen := r'.length
    refine call_tuple_list pl.isList (fun h' kp => ?_) (by simp only [List.size_toArray] <;> omega)
    have I1 : Inv X pins σ H { s with heap := h' } := I.kept (t' := s.toks) kp
    have I2 : Inv X pins σ (upd H h'.objs.size (.tup ys)) { s with heap := h'.push { cls := .type "tuple", data := .seq its.toArray } } :=
      I1.laid (t' := s.toks) (fun b o e => Heap.get?_push_of_some _ e) (Nat.le_refl _) (show ObjOk X.prog X.w _ _ _ (.tup ys) from ⟨hz, its, r', TupN.new _ _⟩)
    exact ⟨.ref h'.objs.size, _, I2, rfl, q _ (I1.hok.fresh (Nat.le_refl _))⟩
  · obtain ⟨its, r', pl, hz⟩ := I.tuple hq
    exact call_tuple_same pl ⟨.ref p, H, I, rfl, q⟩
def tyV (K : PySem.W.Frag) (T : String) (x : V) (H : Hp) : Prop := match x with
  | .str _ => T = "str"
  | .int _ => T = "int"
  | .ref p => (T = "list" ∧ ∃ xs, SqL K H p xs) ∨ (T = "tuple" ∧ ((∃ o, K.lookup p = some o ∧ o.cls = .type "tuple" ∧ o.dict = none) ∨ ∃ xs, SqT K H p xs)) ∨
      (T = "dict" ∧ ((∃ kvs, H p = some (.dK kvs)) ∨ ∃ kvs, H p = some (.dT kvs))) ∨ (T = "set" ∧ ∃ S n, H p = some (.set S n))
  | _ => False
theorem tyV_is {pins : List (Addr × Obj)} {σ : St} {H : Hp} {s : Shared} {T : String} {x : V} {v : Value} (I : Inv X pins σ H s) (r : RelV x v) (ty : tyV X.K T x H) :
    s.TypeIs v T ∧ ∀ a, v = .ref a → ∃ ob, s.heap.get? a = some ob ∧ ob.dict = none := by
  cases x with
  | str z =>
    obtain ⟨t, rfl⟩ := r
    cases (show T = "str" from ty)
    exact ⟨typeIs_str s z t, fun _ e => nomatch e⟩
  | int i =>
    obtain ⟨t, rfl⟩ := r
    cases (show T = "int" from ty)
    exact ⟨typeIs_int s i t, fun _ e => nomatch e⟩
  | ref p =>
    cases r
    rcases ty with ⟨rfl, xs, hq⟩ | ⟨rfl, ⟨o, hk, hc, hd⟩ | ⟨xs, hq | ⟨o, its, n, hk, hc, hd, _⟩⟩⟩ | ⟨rfl, hk⟩ | ⟨rfl, S, n, hk⟩
    · obtain ⟨its, _, pl, _⟩ := I.list hq
      refine ⟨pl.isList.typeIs, fun a e => ?_⟩
      cases e
      obtain ⟨o, n, e, c, hd, _⟩ := pl
      exact ⟨o, e, hd⟩
    · refine ⟨⟨o, I.kIn p o hk, hc⟩, fun a e => ?_⟩
      cases e
      exact ⟨o, I.kIn _ o hk, hd⟩
    · obtain ⟨_, its, _, o, e, c, hd, _⟩ := (show ObjOk _ _ _ _ _ (.tup xs) from hq.ok I.hok)
      refine ⟨⟨o, e, c⟩, fun a q => ?_⟩
      cases q
      exact ⟨o, e, hd⟩
    · refine ⟨⟨o, I.kIn p o hk, hc⟩, fun a e => ?_⟩
      cases e
      exact ⟨o, I.kIn _ o hk, hd⟩
    · have z : ∃ o, s.heap.get? p = some o ∧ o.ExactDict := by
        rcases hk with ⟨kvs, hk⟩ | ⟨kvs, hk⟩
        · obtain ⟨_, _, _, _, o, _, _, e, ex, _⟩ := I.hok p _ hk
          exact ⟨o, e, ex⟩
        · obtain ⟨_, _, _, _, o, _, _, e, ex, _⟩ := I.hok p _ hk
          exact ⟨o, e, ex⟩
      obtain ⟨o, e, ex⟩ := z
      refine ⟨⟨o, e, ex.1⟩, fun a e2 => ?_⟩
      cases e2
      exact ⟨o, e, ex.2.1⟩
    · obtain ⟨o, _, _, _, e, ex, _⟩ := I.hok p _ hk
      refine ⟨⟨o, e, ex.1⟩, fun a e2 => ?_⟩
      cases e2
      exact ⟨o, e, ex.2.1⟩
  | _ => exact False.elim ty
def tBM0 (K : PySem.W.Frag) (T : String) (r : V → List V → Hp → VK → Prop) (to : TE) : TE := fun σ H Q => to σ H fun x H1 => tyV K T x H1 ∧ r x [] H1 Q
def tBM (K : PySem.W.Frag) (T : String) (r : V → List V → Hp → VK → Prop) (to : TE) (t : TA) : TE := fun σ H Q => to σ H fun x H1 => tyV K T x H1 ∧ t σ H1 fun xs H2 => r x xs H2 Q
variable {o e : Expr} {es : List Expr} {to : TE} {t : TA} {name : Str} {apos cpos : Pos} {T id : String} {r : V → List V → Hp → VK → Prop}
theorem pe_bm (pa : PlainAttrs T) (slot : Slot T name id) (hty : typeOf (.builtin id) = pure (.type "method_descriptor")) (hm : MtR X id r) (ho : PE X o to) (ha : PA X (e :: es) t)
    (hbase : attributeBase o name X.env (eval o X.env) = eval o X.env := by rfl)
    (hfew : ((backTo cpos (starEach (e :: es) X.env)).all (fun x => !x.1) && (backToKw cpos (keywordEach [] X.env)).all (fun x => x.1.isSome)
      && decide ((e :: es).length + ([] : List Keyword).length + (if ([] : List Keyword).isEmpty then 0 else 1) < 30)) = true := by rfl)
    (hline : (apos.endLine == cpos.line) = true := by rfl) (hs : starEach (e :: es) X.env = (false, eval e X.env) :: starEach es X.env := by rfl) (hplain : (backTo cpos (starEach es X.env)).any (·.1) = false := by rfl) :
    PE X (.Call (.Attribute o name apos) (e :: es) [] cpos) (tBM X.K T r to t) := by
  intro pins s σ H Q I h
  refine wpAny_Call_method_late hbase hfew hline rfl (thn (ho pins s σ H _ I h) fun v s1 ⟨x, H1, I1, r1, ty, q1⟩ => ?_)
  obtain ⟨h1, h2⟩ := tyV_is I1 r1 ty
  refine ⟨T, id, pa, slot, hty, h1, h2, ?_⟩
  have hA := ha cpos pins s1 σ H1 _ I1 q1
  rw [hs] at hA ⊢
  refine Calls.callWith_builtin (by show (false || (backTo cpos (starEach es X.env)).any (·.1)) = false; rw [hplain] <;> rfl) (Calls.evalArgs_plain ?_)
  exact thn hA fun us s2 ⟨vs, H2, I2, r2, q2⟩ => hm pins s2 σ H2 x vs v us Q I2 r1 r2 q2
end
end L2
namespace L2
open PySem PySem.Spec PyProof.Rows
def MtM (X : Cx) (id : String) (r : V → List V → Hp → VK → Prop) : Prop :=
  ∀ (pins : List (Addr × Obj)) (s : Shared) (σ : St) (H : Hp) (x : V) (xs : List V) (v : Value) (us : List Value) (Q : VK), Inv X pins σ H s → RelV x v → Vals xs us → r x xs H Q →
    wpAny (model X.prog X.w) X.A (call (.builtin id) (v :: us)) (EP X pins σ Q) X.xe s
theorem Vals.one : ∀ {x : V} {us : List Value}, Vals [x] us → ∃ u, us = [u] ∧ RelV x u
  | _, _, .cons r .nil => ⟨_, rfl, r⟩
theorem Vals.two : ∀ {x y : V} {us : List Value}, Vals [x, y] us → ∃ u v, us = [u, v] ∧ RelV x u ∧ RelV y v
  | _, _, _, .cons r (.cons q .nil) => ⟨_, _, rfl, r, q⟩
theorem Vals.zero : ∀ {us : List Value}, Vals [] us → us = []
  | _, .nil => rfl
theorem Vals.dropLast {xs : List V} {us : List Value} (h : Vals xs us) : Vals xs.dropLast us.dropLast := by
  induction h with
  | nil => exact .nil
  | cons r t ih =>
    cases t with
    | nil => exact .nil
    | cons q t' => exact .cons r ih
theorem Vals.eraseIdx : ∀ {xs : List V} {us : List Value} (i : Nat), Vals xs us → Vals (xs.eraseIdx i) (us.eraseIdx i)
  | _, _, _, .nil => .nil
  | _, _, 0, .cons _ t => t
  | _, _, i + 1, .cons r t => .cons r (Vals.eraseIdx i t)
theorem Vals.reverse {xs : List V} {us : List Value} (h : Vals xs us) : Vals xs.reverse us.reverse := by
  induction h with
  | nil => exact .nil
  | cons r t ih => rw [List.reverse_cons, List.reverse_cons]; exact Vals.append ih (.cons r .nil)
theorem Vals.rep {xs : List V} {us : List Value} (h : Vals xs us) : ∀ k : Nat, Vals (List.replicate k xs).flatten (List.replicate k us).flatten
  | 0 => .nil
  | k + 1 => by
    rw [List.replicate_succ, List.replicate_succ, List.flatten_cons, List.flatten_cons]
    exact Vals.append h (Vals.rep h k)
theorem foldl_rep (its : List Value) : ∀ (k : Nat) (acc : List Value),
    List.foldl (fun x1 x2 => x1 ++ x2) acc.toArray (List.replicate k its.toArray) = (acc ++ (List.replicate k its).flatten).toArray
  | 0, acc => by simp
  | k + 1, acc => by
    have e : acc.toArray ++ its.toArray = (acc ++ its).toArray := by simp
    have e2 : (acc ++ its) ++ (List.replicate k its).flatten = acc ++ (List.replicate (k + 1) its).flatten := by
      rw [List.replicate_succ, List.flatten_cons, List.append_assoc]
    rw [← e2, ← foldl_rep its k (acc ++ its), ← e, List.replicate_succ, List.foldl_cons]
section
variable {X : Cx} {pins : List (Addr × Obj)} {σ : St} {H : Hp} {s : Shared} {l b : Addr} {xs ys zs : List V}
theorem Inv.lset {its its' : List Value} {n : Nat} {f : Array Value → Array Value} {t' : Nat} (I : Inv X pins σ H s) (hH : H l = some (.lst xs))
    (e : s.heap.get? l = some { cls := .type "list", data := .seq its.toArray n }) (hf : f its.toArray = its'.toArray) (hv : Vals ys its') (hz : ys.length ≤ sizeLine) :
    Inv X pins σ (upd H l (.lst ys)) { s with heap := s.heap.update l (Obj.mapSeq f), toks := t' } := by
  have q := PySem.IsL.update e f
  rw [hf] at q
  refine I.write (x := l) (e := l) (by rw [hH]; exact trivial) (.inl rfl) (fun b' u hb hu => (Heap.get?_update_other s.heap (Obj.mapSeq f) (Ne.symm hb)).trans hu) ⟨_, q⟩ ?_
  exact ⟨hz, its', _, hv, q⟩
theorem Inv.lnew {its : List Value} {t' : Nat} (I : Inv X pins σ H s) (hv : Vals ys its) (hz : ys.length ≤ sizeLine) :
    Inv X pins σ (upd H s.heap.objs.size (.lst ys)) { s with heap := s.heap.push { cls := .type "list", data := .seq its.toArray }, toks := t' } :=
  I.laid (fun _ _ q => Heap.get?_push_of_some _ q) (Nat.le_refl _) ⟨hz, its, 0, hv, Heap.get?_push_size _ rfl⟩
theorem Inv.fresh (I : Inv X pins σ H s) : H s.heap.objs.size = none := I.hok.fresh (Nat.le_refl _)
theorem Inv.lstM (I : Inv X pins σ H s) (hH : H l = some (.lst xs)) : xs.length ≤ sizeLine ∧ ∃ (its : List Value) (n : Nat), Vals xs its ∧ xs.length = its.length ∧ s.heap.get? l = some { cls := .type "list", data := .seq its.toArray n } := by
  obtain ⟨z, its, n, r, e⟩ := I.hok l _ hH
  exact ⟨z, its, n, r, r.length, e⟩
theorem notLongL {n : Nat} (h : n ≤ sizeLine) : Builtin.List.listTooLong n = false := by
  unfold Builtin.List.listTooLong
  exact decide_eq_false (by omega)
end
section
variable {X : Cx}
def rAppend : V → List V → Hp → VK → Prop := fun x vs H Q => ∃ l xs y, x = .ref l ∧ vs = [y] ∧ H l = some (.lst xs) ∧ xs.length < sizeLine ∧ Q .non (upd H l (.lst (xs ++ [y])))
theorem mt_append : MtM X "list.append" rAppend := by
  intro pins s σ H x vs v us Q I rx rv h
  obtain ⟨l, xs, y, rfl, rfl, hH, hz, q⟩ := h
  cases rx
  obtain ⟨u, rfl, ru⟩ := rv.one
  obtain ⟨z, its, n, r, hl, e⟩ := I.lstM hH
  refine call_meets F.slot_list_append ⟨_, e, rfl⟩ F.entry_list_append (F.args_list_append_2 _ _) (PySem.list_append l its.toArray n u (by rw [List.size_toArray]; omega)) ⟨e, ?_⟩
  refine ⟨.non, _, I.lset (its' := its ++ [u]) hH e (by simp) (r.append (.cons ru .nil)) ?_, rfl, q⟩
  rw [List.length_append, List.length_singleton]
  omega
def rExtend : V → List V → Hp → VK → Prop := fun x vs H Q => ∃ l b xs zs, x = .ref l ∧ vs = [.ref b] ∧ H l = some (.lst xs) ∧ H b = some (.lst zs) ∧ xs.length + zs.length ≤ sizeLine ∧ Q .non (upd H l (.lst (xs ++ zs)))
def rPop : V → List V → Hp → VK → Prop := fun x vs H Q => ∃ l xs y, x = .ref l ∧ vs = [] ∧ H l = some (.lst xs) ∧ xs[xs.length - 1]? = some y ∧ Q y (upd H l (.lst xs.dropLast))
def rPopAt : V → List V → Hp → VK → Prop := fun x vs H Q => ∃ l xs i k y, x = .ref l ∧ vs = [.int i] ∧ H l = some (.lst xs) ∧ -(2 ^ 63) ≤ i ∧ i < 2 ^ 63 ∧ seqIndex? i xs.length = some k ∧ xs[k]? = some y ∧ Q y (upd H l (.lst (xs.eraseIdx k)))
def rReverse : V → List V → Hp → VK → Prop := fun x vs H Q => ∃ l xs, x = .ref l ∧ vs = [] ∧ H l = some (.lst xs) ∧ Q .non (upd H l (.lst xs.reverse))
def rClear : V → List V → Hp → VK → Prop := fun x vs H Q => ∃ l xs, x = .ref l ∧ vs = [] ∧ H l = some (.lst xs) ∧ Q .non (upd H l (.lst []))
def rCat : R2 := fun x y H Q => ∃ l b xs zs, x = .ref l ∧ y = .ref b ∧ H l = some (.lst xs) ∧ H b = some (.lst zs) ∧ xs.length + zs.length ≤ sizeLine ∧ ∀ p, H p = none → Q (.ref p) (upd H p (.lst (xs ++ zs)))
theorem op_cat : OpR X (binaryOp .Add) rCat := by
  intro pins s σ H x y v u Q I rx ry h
  obtain ⟨l, b, xs, zs, rfl, rfl, hH, hB, hz, q⟩ := h
  cases rx
  cases ry
  obtain ⟨z, its, n, r, hl, e⟩ := I.lstM hH
  obtain ⟨z2, its2, n2, r2, hl2, e2⟩ := I.lstM hB
  refine PySem.P.add_list e e2 ?_ (by rw [List.size_toArray, List.size_toArray]; omega)
  have ea : its.toArray ++ its2.toArray = (its ++ its2).toArray := by simp
  rw [ea]
  exact ⟨.ref _, _, I.lnew (t' := s.toks) (r.append r2) (by rw [List.length_append]; omega), rfl, q _ I.fresh⟩
def rRep : R2 := fun x y H Q => ∃ l k xs, x = .ref l ∧ y = .int k ∧ H l = some (.lst xs) ∧ -(2 ^ 63) ≤ k ∧ k < 2 ^ 63 ∧ xs.length * k.toNat ≤ sizeLine ∧
  ∀ p, H p = none → Q (.ref p) (upd H p (.lst (List.replicate k.toNat xs).flatten))
theorem len_rep {α : Type} (xs : List α) (k : Nat) : (List.replicate k xs).flatten.length = k * xs.length := by
  induction k with
  | zero => simp
  | succ k ih => rw [List.replicate_succ, List.flatten_cons, List.length_append, ih, Nat.succ_mul, Nat.add_comm]
theorem op_rep : OpR X (binaryOp .Mult) rRep := by
  intro pins s σ H x y v u Q I rx ry h
  obtain ⟨l, k, xs, rfl, rfl, hH, h1, h2, hz, q⟩ := h
  cases rx
  obtain ⟨t, rfl⟩ := ry
  obtain ⟨z, its, n, r, hl, e⟩ := I.lstM hH
  have hlen : its.toArray.size * k.toNat ≤ sizeLine := by rw [List.size_toArray, ← hl]; exact hz
  have hcap : ¬ its.toArray.size * k.toNat > (2 ^ 63 - 1) / 8 := by
    have : (sizeLine : Nat) ≤ (2 ^ 63 - 1) / 8 := by decide
    omega
  have hfit : ¬ (!Builtin.List.listFitsIndex k) = true := by
    rw [fitsIndex_both h1 h2]
    exact Bool.false_ne_true
  have hlong : ¬ Builtin.List.listTooLong (its.toArray.size * k.toNat) = true := by
    rw [notLongL hlen]
    exact Bool.false_ne_true
  have hnew : List.foldl (fun x1 x2 => x1 ++ x2) #[] (List.replicate (if its.toArray.isEmpty = true then 0 else k.toNat) its.toArray) = (List.replicate k.toNat its).flatten.toArray := by
    have f0 : ∀ m : Nat, List.foldl (fun x1 x2 => x1 ++ x2) #[] (List.replicate m its.toArray) = (List.replicate m its).flatten.toArray := fun m => by
      have := foldl_rep its m []
      rw [List.nil_append] at this
      exact this
    rw [f0]
    cases its with
    | nil => simp
    | cons a r' => rw [if_neg (by simp)]
  refine wpAny_binaryOp_repeat_ref (T := "list") (U := "int") (by decide) ⟨_, e, rfl⟩ (fun s' => typeIs_int s' k t) noFill_list_mul F.fills_int_mul F.slot_int_rmul repeat_list F.slot_int_index.lookup
    (call_meets F.slot_int_rmul (typeIs_int s k t) F.entry_int_rmul (F.args_int_rmul_2 _ _) (int___rmul___int_list k t l its.toArray n)
      ⟨e, rfl, ⟨_, e, rfl⟩, call_meets F.slot_list_mul ⟨_, e, rfl⟩ F.entry_list_mul (F.args_list_mul_2 _ _) (AutoListH.list___mul___list_int_3 l its.toArray n k t hfit hcap hlong) ⟨e, ?_⟩⟩)
  rw [hnew]
  exact ⟨.ref _, _, I.lnew (t' := s.toks) (r.rep k.toNat) (by rw [len_rep, Nat.mul_comm]; exact hz), rfl, q _ I.fresh⟩
end
section
variable {prog : Program} {w : World} {A : Around} {E : Value → Shared → Prop} {s : Shared}
set_option maxRecDepth 100000 in
end
section
variable {X : Cx}
end
end L2
namespace L2
open PySem PySem.Spec PyProof.Rows
theorem Vals.strs : ∀ {xs : List Str} {us : List Value}, Vals (xs.map V.str) us → StrsAre us xs
  | [], us, h => by
    rw [List.map_nil] at h
    cases h
    exact StrsAre.nil
  | x :: xs, us, h => by
    rw [List.map_cons] at h
    cases h with
    | cons r t =>
      obtain ⟨k, rfl⟩ := r
      exact StrsAre.cons x k (Vals.strs t)
section
variable {prog : Program} {w : World} {A : Around} {E : Value → Shared → Prop} {s : Shared} {l : Addr} {its : List Value} {ns : List Int} {Q : Value → Shared → Prop}
end
section
variable {X : Cx}
def rSum (K : PySem.W.Frag) : List V → Hp → VK → Prop := fun vs H Q => ∃ (a : Addr) (ns : List Int), vs = [V.ref a] ∧ SqL K H a (ns.map V.int) ∧ Q (.int ns.sum) H
def rMax (K : PySem.W.Frag) : List V → Hp → VK → Prop := fun vs H Q => ∃ (a : Addr) (ns : List Int), vs = [V.ref a] ∧ SqL K H a (ns.map V.int) ∧ 0 < ns.length ∧ ∀ m, m ∈ ns → (∀ y, y ∈ ns → y ≤ m) → Q (.int m) H
def rMin (K : PySem.W.Frag) : List V → Hp → VK → Prop := fun vs H Q => ∃ (a : Addr) (ns : List Int), vs = [V.ref a] ∧ SqL K H a (ns.map V.int) ∧ 0 < ns.length ∧ ∀ m, m ∈ ns → (∀ y, y ∈ ns → m ≤ y) → Q (.int m) H
def rSorted (K : PySem.W.Frag) : List V → Hp → VK → Prop := fun vs H Q => ∃ (a : Addr) (ns : List Int), vs = [V.ref a] ∧ SqL K H a (ns.map V.int) ∧ ns.length < 64 ∧
  ∀ (ns' : List Int) (p : Addr), ns'.Perm ns → ns'.Pairwise (· ≤ ·) → H p = none → Q (.ref p) (upd H p (.lst (ns'.map V.int)))
def rSortedS (K : PySem.W.Frag) : List V → Hp → VK → Prop := fun vs H Q => ∃ (a : Addr) (xs : List Str), vs = [V.ref a] ∧ SqL K H a (xs.map V.str) ∧ xs.length < 64 ∧
  ∀ (ys : List Str) (p : Addr), ys.Perm xs → sortedS ys = true → H p = none → Q (.ref p) (upd H p (.lst (ys.map V.str)))
def rSort : V → List V → Hp → VK → Prop := fun x xs H Q => ∃ (a : Addr) (ns : List Int), x = V.ref a ∧ xs = [] ∧ H a = some (.lst (ns.map V.int)) ∧ ns.length < 64 ∧
  ∀ ns' : List Int, ns'.Perm ns → ns'.Pairwise (· ≤ ·) → Q .non (upd H a (.lst (ns'.map V.int)))
end
section
variable {X : Cx}
def rIndex (K : PySem.W.Frag) : V → List V → Hp → VK → Prop := fun x xs H Q => ∃ (a : Addr) (ys : List V) (y : V) (j : Nat) (z : V), x = V.ref a ∧ xs = [y] ∧ SqL K H a ys ∧ flatV y = true ∧ ys.all flatV = true ∧ ys[j]? = some z ∧ eqV z y = true ∧
  (∀ (m : Nat) (z' : V), m < j → ys[m]? = some z' → eqV z' y = false) ∧ Q (.int (j : Nat)) H
end
section
variable {X : Cx}
end
section
variable {X : Cx}
def rAny (K : PySem.W.Frag) : List V → Hp → VK → Prop := fun vs H Q => ∃ (a : Addr) (bs : List Bool), vs = [V.ref a] ∧ SqL K H a (bs.map V.bl) ∧ Q (.bl (bs.any id)) H
def rAll (K : PySem.W.Frag) : List V → Hp → VK → Prop := fun vs H Q => ∃ (a : Addr) (bs : List Bool), vs = [V.ref a] ∧ SqL K H a (bs.map V.bl) ∧ Q (.bl (bs.all id)) H
end
mutual
inductive Dp (K : PySem.W.Frag) (H : Hp) : V → PyData → Prop
  | non : Dp K H .non .none
  | bl (b : Bool) : Dp K H (.bl b) (.bool b)
  | int (i : Int) : Dp K H (.int i) (.int i)
  | str (x : Str) : Dp K H (.str x) (.str x)
  | lst {a : Addr} {xs : List V} {ds : List PyData} : SqL K H a xs → DpAll K H xs ds → Dp K H (.ref a) (.list ds)
  | tup {a : Addr} {xs : List V} {ds : List PyData} : SqT K H a xs → DpAll K H xs ds → Dp K H (.ref a) (.tuple ds)
inductive DpAll (K : PySem.W.Frag) (H : Hp) : List V → List PyData → Prop
  | nil : DpAll K H [] []
  | cons {v : V} {vs : List V} {d : PyData} {ds : List PyData} : Dp K H v d → DpAll K H vs ds → DpAll K H (v :: vs) (d :: ds)
end
section
variable {X : Cx} {pins : List (Addr × Obj)} {σ : St} {H : Hp} {s : Shared}
mutual
theorem Dp.reads (I : Inv X pins σ H s) : ∀ (d : PyData) (v : V) (u : Value), Dp X.K H v d → RelV v u → ∃ as, Reads s.heap u d as
  | .none, _, _, h, r => by
    cases h
    cases r
    exact ⟨_, Reads.none⟩
  | .bool b, _, _, h, r => by
    cases h
    cases r
    exact ⟨_, Reads.bool b⟩
  | .int i, _, _, h, r => by
    cases h
    obtain ⟨t, rfl⟩ := r
    exact ⟨_, Reads.int i t⟩
  | .str x, _, _, h, r => by
    cases h
    obtain ⟨t, rfl⟩ := r
    exact ⟨_, Reads.str x t⟩
  | .list ds, _, _, h, r => by
    cases h with
    | lst hs ha =>
      cases r
      obtain ⟨its, rv, ⟨o, n, ho, hc, _, hd⟩, _⟩ := I.list hs
      obtain ⟨as, hr⟩ := Dp.readsAll I ds _ its ha rv
      exact ⟨_, Reads.list ho hc hd hr⟩
  | .tuple ds, _, _, h, r => by
    cases h with
    | tup hs ha =>
      cases r
      obtain ⟨its, rv, ⟨o, ho, hc, n, hd⟩, _⟩ := I.tuple hs
      obtain ⟨as, hr⟩ := Dp.readsAll I ds _ its ha rv
      exact ⟨_, Reads.tuple ho hc hd hr⟩
  | .dict _, _, _, h, _ => by cases h
theorem Dp.readsAll (I : Inv X pins σ H s) : ∀ (ds : List PyData) (vs : List V) (us : List Value), DpAll X.K H vs ds → Vals vs us → ∃ as, ReadsAll s.heap us ds as
  | [], _, _, h, r => by
    cases h
    cases r
    exact ⟨_, ReadsAll.nil⟩
  | d :: ds, _, _, h, r => by
    cases h with
    | cons h1 h2 =>
      cases r with
      | cons r1 r2 =>
        obtain ⟨as, q1⟩ := Dp.reads I d _ _ h1 r1
        obtain ⟨bs, q2⟩ := Dp.readsAll I ds _ _ h2 r2
        exact ⟨_, ReadsAll.cons q1 q2⟩
end
end
section
variable {X : Cx}
def rEqD (K : PySem.W.Frag) : R2 := fun x y H Q => ∃ d e, Dp K H x d ∧ Dp K H y e ∧ SeqAt.shaped d = true ∧ SeqAt.shaped e = true ∧ Q (.bl (PyData.eqv d e)) H
def rNeD (K : PySem.W.Frag) : R2 := fun x y H Q => ∃ d e, Dp K H x d ∧ Dp K H y e ∧ SeqAt.shaped d = true ∧ SeqAt.shaped e = true ∧ Q (.bl (!PyData.eqv d e)) H
theorem op_eqD (hu : X.A.units + 64 < cLine) : OpR X (compareOp .Eq) (rEqD X.K) := by
  intro pins s σ H x y v u Q I rx ry h
  obtain ⟨d, e, hd, he, sd, se, q⟩ := h
  obtain ⟨as, r1⟩ := Dp.reads I d x v hd rx
  obtain ⟨bs, r2⟩ := Dp.reads I e y u he ry
  exact SeqAt.compareEq_shaped r1 r2 sd se hu ⟨.bl _, H, I, rfl, q⟩
theorem op_neD (hu : X.A.units + 64 < cLine) : OpR X (compareOp .NotEq) (rNeD X.K) := by
  intro pins s σ H x y v u Q I rx ry h
  obtain ⟨d, e, hd, he, sd, se, q⟩ := h
  obtain ⟨as, r1⟩ := Dp.reads I d x v hd rx
  obtain ⟨bs, r2⟩ := Dp.reads I e y u he ry
  exact SeqAt.compareNe_shaped r1 r2 sd se hu ⟨.bl _, H, I, rfl, q⟩
end
end L2
namespace L2
open PySem PySem.Spec PyProof.Rows
abbrev CellAt (h : Heap) (c : Addr) (v : Option Value) : Prop := h.IsCell c v
def relS (scope sc : Scope) : Scope :=
  { scope with names := scope.names.map fun (n, k) => if (k == .free && sc.kind == .function && sc.names.lookup n == some .cell) then (n, .cell) else (n, k) }
def cloFrom (cells : List (Str × Addr)) : List (Str × NameKind) → List (Str × Addr) → List (Str × Addr)
  | [], acc => acc
  | (n, k) :: r, acc => if k == .free then cloFrom cells r ((n, (cells.lookup n).getD 0) :: acc) else cloFrom cells r acc
theorem closure_loop (env : Env) (f : Str × NameKind → List (Str × Addr) → Sem (ForInStep (List (Str × Addr))))
    (hf : ∀ n k c, f (n, k) c = if k == .free then (do let a ← cellOf env n; pure (.yield ((n, a) :: c))) else pure (.yield c)) :
    ∀ (names : List (Str × NameKind)) (acc : List (Str × Addr)), (∀ y ∈ names, y.2 = .free → ∃ c, env.cells.lookup y.1 = some c) → forIn names acc f = pure (cloFrom env.cells names acc)
  | [], acc, _ => by rw [List.forIn_nil]; rfl
  | (n, k) :: r, acc, h => by
    rw [List.forIn_cons, hf]
    have ih := fun acc => closure_loop env f hf r acc fun y hy => h y (List.mem_cons_of_mem _ hy)
    unfold cloFrom
    by_cases hk : (k == NameKind.free) = true
    · rw [if_pos hk, if_pos hk]
      obtain ⟨c, hc⟩ := h (n, k) List.mem_cons_self (by simpa using hk)
      have e : cellOf env n = pure c := by unfold cellOf; rw [hc]
      rw [e]
      have e2 : (env.cells.lookup n).getD 0 = c := by rw [hc]; rfl
      rw [e2]
      exact ih _
    · rw [if_neg hk, if_neg hk]
      exact ih _
theorem closure_ok {scope : Scope} {env : Env} (h : ∀ y ∈ scope.names, y.2 = .free → ∃ c, env.cells.lookup y.1 = some c) : closureFor scope env = pure (cloFrom env.cells scope.names []) := by
  simp only [closureFor]
  rw [closure_loop env _ (fun n k c => rfl) scope.names [] h]
  rfl
theorem mem_lookup {α : Type} : ∀ {l : List (Str × α)} {n : Str} {c : α}, (n, c) ∈ l → ∃ c', l.lookup n = some c'
  | (k, v) :: r, n, c, h => by
    rw [List.lookup_cons]
    cases hb : n == k with
    | true => exact ⟨_, rfl⟩
    | false =>
      rcases List.mem_cons.mp h with e | h
      · cases e; simp at hb
      · exact mem_lookup h
theorem cloFrom_mem {cells : List (Str × Addr)} : ∀ {names : List (Str × NameKind)} {acc : List (Str × Addr)} {n : Str} {c : Addr}, (n, c) ∈ cloFrom cells names acc → (n, c) ∈ acc ∨ ((n, .free) ∈ names ∧ c = (cells.lookup n).getD 0)
  | [], _, _, _, h => .inl h
  | (m, k) :: r, acc, n, c, h => by
    unfold cloFrom at h
    split at h
    · rename_i hk
      have hk : k = .free := by simpa using hk
      rcases cloFrom_mem h with h | ⟨h1, h2⟩
      · rcases List.mem_cons.mp h with e | h
        · cases e; exact .inr ⟨hk ▸ List.mem_cons_self, rfl⟩
        · exact .inl h
      · exact .inr ⟨List.mem_cons_of_mem _ h1, h2⟩
    · rcases cloFrom_mem h with h | ⟨h1, h2⟩
      · exact .inl h
      · exact .inr ⟨List.mem_cons_of_mem _ h1, h2⟩
theorem cloFrom_acc {cells : List (Str × Addr)} : ∀ {names : List (Str × NameKind)} {acc : List (Str × Addr)} {p : Str × Addr}, p ∈ acc → p ∈ cloFrom cells names acc
  | [], _, _, h => h
  | (m, k) :: r, acc, p, h => by
    unfold cloFrom
    split
    · exact cloFrom_acc (List.mem_cons_of_mem _ h)
    · exact cloFrom_acc h
theorem cloFrom_has {cells : List (Str × Addr)} : ∀ {names : List (Str × NameKind)} {acc : List (Str × Addr)} {n : Str}, (n, .free) ∈ names → (n, (cells.lookup n).getD 0) ∈ cloFrom cells names acc
  | (m, k) :: r, acc, n, h => by
    unfold cloFrom
    rcases List.mem_cons.mp h with e | h
    · cases e
      exact cloFrom_acc List.mem_cons_self
    · split
      · exact cloFrom_has h
      · exact cloFrom_has h
theorem cells_mem : ∀ {names : List (Str × NameKind)} {h : Heap} {acc : List (Str × Addr)} {x : Str} {c : Addr}, (x, c) ∈ cellsFrom h.objs.size names acc →
    (x, c) ∈ acc ∨ ((x, .cell) ∈ names ∧ h.objs.size ≤ c ∧ CellAt (pushCells h names) c none)
  | [], _, _, _, _, h => .inl h
  | (n, k) :: r, h, acc, x, c, hm => by
    unfold cellsFrom at hm
    unfold pushCells
    split at hm
    · rename_i hk
      rw [if_pos hk]
      have hk : k = .cell := by simpa using hk
      rw [← Heap.size_push h { cls := .type "cell", data := .cell none }] at hm
      rcases cells_mem hm with hm | ⟨h1, h2, h3⟩
      · rcases List.mem_cons.mp hm with e | hm
        · cases e
          exact .inr ⟨hk ▸ List.mem_cons_self, Nat.le_refl _, _, pushCells_keeps r _ _ _ (Heap.get?_push_size _ rfl), rfl⟩
        · exact .inl hm
      · rw [Heap.size_push] at h2
        exact .inr ⟨List.mem_cons_of_mem _ h1, Nat.le_of_succ_le h2, h3⟩
    · rename_i hk
      rw [if_neg hk]
      rcases cells_mem hm with hm | ⟨h1, h2, h3⟩
      · exact .inl hm
      · exact .inr ⟨List.mem_cons_of_mem _ h1, h2, h3⟩
theorem cells_acc : ∀ {names : List (Str × NameKind)} {n : Nat} {acc : List (Str × Addr)} {p : Str × Addr}, p ∈ acc → p ∈ cellsFrom n names acc
  | [], _, _, _, h => h
  | (m, k) :: r, n, acc, p, h => by
    unfold cellsFrom
    split
    · exact cells_acc (List.mem_cons_of_mem _ h)
    · exact cells_acc h
theorem cells_has : ∀ {names : List (Str × NameKind)} {n : Nat} {acc : List (Str × Addr)} {x : Str}, (x, .cell) ∈ names → ∃ c, (x, c) ∈ cellsFrom n names acc
  | (m, k) :: r, n, acc, x, h => by
    unfold cellsFrom
    rcases List.mem_cons.mp h with e | h
    · cases e
      exact ⟨n, cells_acc List.mem_cons_self⟩
    · split
      · exact cells_has h
      · exact cells_has h
theorem cells_inj : ∀ {names : List (Str × NameKind)} {h : Heap} {acc : List (Str × Addr)} {x y : Str} {c : Addr}, (∀ p ∈ acc, p.2 < h.objs.size) → (∀ x y c, (x, c) ∈ acc → (y, c) ∈ acc → x = y) →
    (x, c) ∈ cellsFrom h.objs.size names acc → (y, c) ∈ cellsFrom h.objs.size names acc → x = y
  | [], _, _, _, _, _, _, hi, h1, h2 => hi _ _ _ h1 h2
  | (n, k) :: r, h, acc, x, y, c, hl, hi, h1, h2 => by
    unfold cellsFrom at h1 h2
    split at h1
    · rename_i hk
      rw [if_pos hk] at h2
      rw [← Heap.size_push h { cls := .type "cell", data := .cell none }] at h1 h2
      refine cells_inj (h := h.push _) (fun p hp => ?_) (fun x y c a b => ?_) h1 h2
      · rw [Heap.size_push]
        rcases List.mem_cons.mp hp with rfl | hp
        · exact Nat.lt_succ_self _
        · exact Nat.lt_succ_of_lt (hl p hp)
      · rcases List.mem_cons.mp a with e | a <;> rcases List.mem_cons.mp b with e' | b
        · cases e; cases e'; rfl
        · cases e; exact absurd (hl _ b) (Nat.lt_irrefl _)
        · cases e'; exact absurd (hl _ a) (Nat.lt_irrefl _)
        · exact hi _ _ _ a b
    · rename_i hk
      rw [if_neg hk] at h2
      exact cells_inj hl hi h1 h2
theorem newEnv_comp {M : Model} {A : Around} {E : Value → Shared → Prop} {s : Shared} {scope : Scope} {globals : Addr} {closure : List (Str × Addr)} {qual : Str} {func : Option Addr} {code : Value} {around : Env} {builtins : Addr} {Q : Env → Shared → Prop}
    (h : Q (newEnv scope s.heap.objs.size globals (cellsFrom (s.heap.objs.size + 1) scope.names closure) qual func code (some around) builtins)
      { s with heap := pushCells (s.heap.push { cls := .type "dict", data := .dict #[] }) scope.names }) :
    wpAny M A (newFunctionEnv scope globals closure [] qual func code (some around) builtins) Q E s := by
  simp only [newFunctionEnv, Option.isSome_some, if_true]
  refine wpAny_bind (wpAny_alloc ?_)
  refine wpAny_bind (wpAny_layCells _ (fun n k c => rfl) scope.names closure _ _ ?_)
  rw [show ({ s with heap := s.heap.push { cls := .type "dict", data := .dict #[] } } : Shared).heap.objs.size = s.heap.objs.size + 1 from Heap.size_push ..]
  rw [List.forIn_nil]
  exact wpAny_bind (wpAny_pure (wpAny_pure h))
theorem lookup_relS {sc : Scope} : ∀ {names : List (Str × NameKind)} {x : Str} {k : NameKind},
    (names.map fun (n, k) => if (k == NameKind.free && sc.kind == .function && sc.names.lookup n == some .cell) then (n, NameKind.cell) else (n, k)).lookup x = some k →
    ∃ k', names.lookup x = some k' ∧ (k = k' ∨ (k' = .free ∧ k = .cell))
  | [], _, _, h => by simp at h
  | (n, k₀) :: r, x, k, h => by
    have ih := @lookup_relS sc r x k
    have h' : List.lookup x ((if (k₀ == NameKind.free && sc.kind == .function && sc.names.lookup n == some .cell) = true then (n, NameKind.cell) else (n, k₀)) :: (r.map _)) = some k := h
    cases hx : x == n with
    | true =>
      simp only [List.lookup_cons, hx]
      by_cases hc : (k₀ == NameKind.free && sc.kind == .function && sc.names.lookup n == some .cell) = true
      · rw [if_pos hc] at h'
        simp only [List.lookup_cons, hx] at h'
        cases h'
        simp only [Bool.and_eq_true, beq_iff_eq] at hc
        exact ⟨k₀, rfl, .inr ⟨hc.1.1, rfl⟩⟩
      · rw [if_neg hc] at h'
        simp only [List.lookup_cons, hx] at h'
        cases h'
        exact ⟨_, rfl, .inl rfl⟩
    | false =>
      simp only [List.lookup_cons, hx]
      by_cases hc : (k₀ == NameKind.free && sc.kind == .function && sc.names.lookup n == some .cell) = true
      · rw [if_pos hc] at h'
        simp only [List.lookup_cons, hx] at h'
        exact ih h'
      · rw [if_neg hc] at h'
        simp only [List.lookup_cons, hx] at h'
        exact ih h'
structure BlkOk (N : List Str) (sc scope : Scope) (own : List (Str × Nat)) : Prop where
  kind : scope.kind = .function
  uniq : ∀ y ∈ scope.names, scope.names.lookup y.1 = some y.2
  ix : ∀ p ∈ own, N[p.2]? = some p.1
  free : ∀ y ∈ scope.names, y.2 = .free → sc.names.lookup y.1 = some .cell ∨ sc.names.lookup y.1 = some .free
  own : ∀ y ∈ scope.names, y.2 = .local ∨ y.2 = .cell → y.1 ∈ own.map (·.1) ∨ y.1 ∉ N
def wipe (σ : St) : List Nat → St
  | [] => σ
  | v :: vs => (wipe σ vs).set v none
theorem wipe_length (σ : St) : ∀ vs : List Nat, (wipe σ vs).length = σ.length
  | [] => rfl
  | v :: vs => by unfold wipe; rw [List.length_set, wipe_length σ vs]
theorem wipe_some {σ : St} {i : Nat} {x : V} : ∀ {vs : List Nat}, (wipe σ vs)[i]? = some (some x) → σ[i]? = some (some x) ∧ i ∉ vs
  | [], h => ⟨h, by simp⟩
  | v :: vs, h => by
    unfold wipe at h
    by_cases hi : v = i
    · subst hi
      by_cases hv : v < (wipe σ vs).length
      · rw [List.getElem?_set_self hv] at h; cases h
      · rw [List.getElem?_eq_none (by simpa using hv)] at h; cases h
    · rw [List.getElem?_set_ne hi] at h
      obtain ⟨h1, h2⟩ := wipe_some h
      exact ⟨h1, by simp only [List.mem_cons, not_or]; exact ⟨fun e => hi e.symm, h2⟩⟩
abbrev Cx.blk (X : Cx) (s : Shared) (H : Hp) (scope : Scope) (cenv : Env) (fp : List Addr) : Cx := { X with s_0 := s, H_0 := H, env := cenv, outer := X.stack, ex := fp, fn := fun x => scope.names.lookup x == some .cell, pn := [], xe := fun _ _ => False }
section
variable {X : Cx} {pins : List (Addr × Obj)} {σ : St} {H : Hp} {s : Shared}
theorem block_start {scope : Scope} {own : List (Str × Nat)} {fp : List Addr} (I : Inv X pins σ H s) (ok : BlkOk X.N X.env.scope scope own) (hN : X.N.Nodup) (hfp : ∀ b ∈ fp, FpOk X pins H b ∧ b < s.heap.objs.size) :
    Inv (X.blk s H scope (compEnvC scope (cellsFrom (s.heap.objs.size + 1) scope.names (cloFrom X.env.cells scope.names [])) s.heap.objs.size X.env) fp) [] (wipe σ (own.map (·.2))) H { s with heap := pushCells (s.heap.push { cls := .type "dict", data := .dict #[] }) scope.names } := by
  have hfree : ∀ y ∈ scope.names, y.2 = .free → ∃ c, X.env.cells.lookup y.1 = some c := fun y hy e => by
    rcases ok.free y hy e with k | k
    · exact I.ok.has _ (.inl k)
    · exact I.ok.has _ (.inr k)
  generalize hcenv : compEnvC scope (cellsFrom (s.heap.objs.size + 1) scope.names (cloFrom X.env.cells scope.names [])) s.heap.objs.size X.env = cenv
  have kp : ∀ b o, s.heap.get? b = some o → (pushCells (s.heap.push { cls := .type "dict", data := .dict #[] }) scope.names).get? b = some o := fun b o e => pushCells_keeps _ _ _ _ (Heap.get?_push_of_some _ e)
  have hL : cenv.locals = s.heap.objs.size := by rw [← hcenv]; rfl
  have hcl : cenv.cells = cellsFrom (s.heap.objs.size + 1) scope.names (cloFrom X.env.cells scope.names []) := by rw [← hcenv]; rfl
  have hsc : cenv.scope = relS scope X.env.scope := by rw [← hcenv]; rfl
  rw [← Heap.size_push s.heap { cls := .type "dict", data := .dict #[] }] at hcl
  have cm : ∀ {y c}, (y, c) ∈ cloFrom X.env.cells scope.names [] → X.env.cells.lookup y = some c ∧ c < s.heap.objs.size := fun {y c} hm => by
    rcases cloFrom_mem hm with hm | ⟨h1, rfl⟩
    · cases hm
    · obtain ⟨c, hc⟩ := hfree _ h1 rfl
      rw [hc]
      obtain ⟨w, z⟩ := I.cell _ _ hc
      exact ⟨rfl, z.lt⟩
  have mem : ∀ {y c}, cenv.cells.lookup y = some c → (X.env.cells.lookup y = some c ∧ c < s.heap.objs.size) ∨ (s.heap.objs.size + 1 ≤ c ∧ CellAt (pushCells (s.heap.push { cls := .type "dict", data := .dict #[] }) scope.names) c none) := fun {y c} e => by
    rw [hcl] at e
    rcases cells_mem (PySem.mem_of_lookup e) with hm | ⟨_, h2, h3⟩
    · exact .inl (cm hm)
    · rw [Heap.size_push] at h2; exact .inr ⟨h2, h3⟩
  have look : ∀ {y}, scope.names.lookup y = some .free → ∃ c, cenv.cells.lookup y = some c ∧ X.env.cells.lookup y = some c := fun {y} hl => by
    have hy : (y, NameKind.free) ∈ scope.names := PySem.mem_of_lookup hl
    obtain ⟨c', e'⟩ := mem_lookup (cells_acc (names := scope.names) (n := (s.heap.push { cls := .type "dict", data := .dict #[] }).objs.size) (cloFrom_has (cells := X.env.cells) (acc := []) hy))
    rw [← hcl] at e'
    refine ⟨c', e', ?_⟩
    rw [hcl] at e'
    rcases cells_mem (PySem.mem_of_lookup e') with hm | ⟨h1, _, _⟩
    · exact (cm hm).1
    · have := ok.uniq _ h1
      rw [hl] at this; cases this
  have okB : (X.blk s H scope cenv fp).Ok := by
    refine ⟨I.ok.mod, by show cenv.scope.kind = _; rw [hsc]; exact ok.kind, by show cenv.globals = _; rw [← hcenv]; exact I.ok.glob, by show cenv.builtins = _; rw [← hcenv]; exact I.ok.blt, by show s.heap.objs.size ≤ cenv.locals; rw [hL]; exact Nat.le_refl _,
      fun y z c e1 e2 => ?_, fun y hy => ?_, fun y c z e => ?_, I.ok.hd, I.ok.frames, .inl rfl, fun b hb => ⟨?_, fun y c e z => ?_⟩, I.bs, Nat.le_trans I.ok.bsz I.sz, fun b o e hb => ?_, fun b hb z => ?_, I.stack, I.stkFree⟩
    · have e1 : cenv.cells.lookup y = some c := e1
      have e2 : cenv.cells.lookup z = some c := e2
      rw [hcl] at e1 e2
      refine cells_inj (fun p hp => ?_) (fun y z c a b => I.ok.inj y z c (cm a).1 (cm b).1) (PySem.mem_of_lookup e1) (PySem.mem_of_lookup e2)
      rw [Heap.size_push]
      exact Nat.lt_succ_of_lt (cm (y := p.1) (c := p.2) hp).2
    · show ∃ c, cenv.cells.lookup y = some c
      have key : ∀ k, cenv.kindOf y = some k → (k = .cell ∨ k = .free) → ∃ c, cenv.cells.lookup y = some c := fun k hk hk' => by
        unfold Env.kindOf at hk
        rw [hsc] at hk
        obtain ⟨k', e, r⟩ := lookup_relS hk
        have : k' = .cell ∨ k' = .free := by
          rcases r with rfl | ⟨rfl, _⟩
          · exact hk'
          · exact .inr rfl
        rcases this with rfl | rfl
        · obtain ⟨c, hm⟩ := cells_has (n := (s.heap.push { cls := .type "dict", data := .dict #[] }).objs.size) (acc := cloFrom X.env.cells scope.names []) (PySem.mem_of_lookup e)
          obtain ⟨c', e'⟩ := mem_lookup hm
          exact ⟨c', by rw [hcl]; exact e'⟩
        · obtain ⟨c, h1, _⟩ := look e
          exact ⟨c, h1⟩
      rcases hy with hy | hy
      · exact key _ hy (.inl rfl)
      · exact key _ hy (.inr rfl)
    · have z : (scope.names.lookup y == some NameKind.cell) = true := z
      have z : scope.names.lookup y = some .cell := by simpa using z
      have e : cenv.cells.lookup y = some c := e
      rw [hcl] at e
      rcases cells_mem (PySem.mem_of_lookup e) with hm | ⟨_, h2, _⟩
      · rcases cloFrom_mem hm with hm | ⟨h1, _⟩
        · cases hm
        · have q := ok.uniq _ h1
          rw [z] at q; cases q
      · rw [Heap.size_push] at h2
        exact Nat.le_of_succ_le h2
    · show b ≠ cenv.locals
      rw [hL]; exact Nat.ne_of_lt (hfp b hb).2
    · have e : cenv.cells.lookup y = some c := e
      rcases mem e with ⟨h1, _⟩ | ⟨h1, _⟩
      · exact (hfp b hb).1.2.2.2.2.1 y c h1 z
      · have h2 : s.heap.objs.size + 1 ≤ b := by rw [← z]; exact h1
        exact absurd (Nat.lt_of_lt_of_le (hfp b hb).2 (Nat.le_of_succ_le h2)) (Nat.lt_irrefl _)
    · rcases (hfp b hb).1.2.2.2.1 with z | z
      · exact I.ok.noex b o e z
      · exact absurd (Nat.lt_of_lt_of_le (Heap.lt_size e) (Nat.le_trans I.ok.bsz z)) (Nat.lt_irrefl _)
    · rcases List.mem_cons.mp (I.stkSub b z) with z | z
      · exact (hfp b hb).1.2.1 z
      · exact (hfp b hb).1.2.2.1 z
  refine ⟨okB, rfl, I.bare, Un.kept kp, ⟨fun _ => none, ?_, fun i y av e1 e2 e3 => ?_⟩, fun y c e => ?_, ?_, fun y c e => ?_, fun p hp => ?_, I.hok.kept kp, by rw [wipe_length]; exact I.len⟩
  · show Heap.Ns _ cenv.locals _
    rw [hL]
    exact Heap.Ns.keeps (Heap.Ns.new ..) fun b o e => pushCells_keeps _ _ _ _ e
  · obtain ⟨e2, hne⟩ := wipe_some e2
    have hfr : scope.names.lookup y = some .free ∧ (cenv.kindOf y = some .cell ∨ cenv.kindOf y = some .free) := by
      have key : ∀ k, cenv.scope.names.lookup y = some k → k = .local ∨ k = .cell ∨ k = .free → scope.names.lookup y = some .free ∧ (cenv.kindOf y = some .cell ∨ cenv.kindOf y = some .free) := fun k hk hk' => by
        have hk0 := hk
        rw [hsc] at hk
        obtain ⟨k', e, r⟩ := lookup_relS hk
        have no : ¬ (k' = .local ∨ k' = .cell) := fun hh => by
          rcases ok.own _ (PySem.mem_of_lookup e) hh with e' | e'
          · obtain ⟨p, hp, hpy⟩ := List.mem_map.mp e'
            have e3 := ok.ix p hp
            have : p.1 = y := hpy
            rw [this] at e3
            exact hne (List.mem_map.mpr ⟨p, hp, nodup_ix hN e3 e1⟩)
          · exact e' (List.mem_of_getElem? e1)
        rcases r with rfl | ⟨rfl, rfl⟩
        · rcases hk' with rfl | rfl | rfl
          · exact absurd (.inl rfl) no
          · exact absurd (.inr rfl) no
          · exact ⟨e, .inr hk0⟩
        · exact ⟨e, .inl hk0⟩
      have e3 : Vis cenv.scope y := e3
      rcases e3 with e3 | e3 | e3
      · exact key _ e3 (.inl rfl)
      · exact key _ e3 (.inr (.inl rfl))
      · exact key _ e3 (.inr (.inr rfl))
    obtain ⟨m, hn, hl⟩ := I.loc
    have hvis : Vis X.env.scope y := (ok.free _ (PySem.mem_of_lookup hfr.1) rfl).elim (fun k => .inr (.inl k)) (fun k => .inr (.inr k))
    obtain ⟨w, r, q⟩ := hl i y av e1 e2 hvis
    refine ⟨w, r, .inr ⟨hfr.2, ?_⟩⟩
    obtain ⟨c, h1, h2⟩ := look hfr.1
    rcases q with ⟨k, _⟩ | ⟨_, c', e', z⟩
    · have k : X.env.scope.names.lookup y = some .local := k
      rcases ok.free _ (PySem.mem_of_lookup hfr.1) rfl with k' | k' <;> rw [show X.env.scope.names.lookup y = _ from k'] at k <;> cases k
    · rw [h2] at e'; cases e'
      exact ⟨c, h1, z.keeps kp⟩
  · have e : cenv.cells.lookup y = some c := e
    rcases mem e with ⟨h1, _⟩ | ⟨_, z⟩
    · obtain ⟨w, z⟩ := I.cell y c h1
      exact ⟨w, z.keeps kp⟩
    · exact ⟨_, z⟩
  · show H cenv.locals = none
    rw [hL]; exact I.hok.fresh (Nat.le_refl _)
  · have e : cenv.cells.lookup y = some c := e
    rcases mem e with ⟨h1, _⟩ | ⟨h1, _⟩
    · exact I.freeC y c h1
    · exact I.hok.fresh (Nat.le_of_succ_le h1)
  · exact absurd (show p ∈ ([] : List (Addr × Obj)) ++ [] from hp) (by simp)
theorem app_ok {E : Value → Shared → Prop} {D : Addr} {xs : List V} {y : V} {v : Value} {Q : Value → Shared → Prop} (I : Inv X pins σ H s) (hD : H D = some (.lst xs)) (hz : xs.length < sizeLine) (r : RelV y v)
    (h : ∀ s', Inv X pins σ (upd H D (.lst (xs ++ [y]))) s' → Q .none s') : wpAny (model X.prog X.w) X.A (call (.builtin "list.append") [.ref D, v]) Q E s := by
  obtain ⟨hz', its, n, ri, e⟩ := I.hok D _ hD
  have hl := ri.length
  refine append_at (hsz := by rw [List.size_toArray]; omega) e fun h' sb ho' => ?_
  refine h { s with heap := h' } (I.write (t' := s.toks) (by rw [hD]; trivial) (.inl rfl) (fun b u hb q => (sb.2 b hb).trans q) ⟨_, ho'⟩ ⟨by rw [List.length_append]; exact hz, its ++ [v], n + 1, ri.append (.cons r .nil), ?_⟩)
  rw [ho']
  simp
def PTs (X : Cx) (ifs : List Expr) (t : TT) : Prop :=
  ∀ (pins : List (Addr × Obj)) (s : Shared) (σ : St) (H : Hp) (Q : Bool → Hp → Prop), Inv X pins σ H s → t σ H Q →
    wpAny (model X.prog X.w) X.A (forIn ifs true fun c r => if r = true then do let ok ← isTrue c X.env (eval c X.env); pure (ForInStep.yield ok) else pure (ForInStep.yield r)) (TP X pins σ Q) X.xe s
def tYes : TT := fun _ H Q => Q true H
theorem pts_nil : PTs X [] tYes := fun _ _ _ H _ I h => wpAny_tests_nil ⟨H, I, h⟩
theorem pts_one {c : Expr} {t : TT} (h : PT X c t) : PTs X [c] t := fun pins s σ H Q I hw => wpAny_tests_one (h pins s σ H Q I hw)
end
theorem thnF {α : Type} {t : Sem α} {Q Q' : α → Shared → Prop} {M : Model} {A : Around} {E : Value → Shared → Prop} {s : Shared} (h : wpAny M A t Q (fun _ _ => False) s) (hQ : ∀ a s, Q a s → Q' a s) : wpAny M A t Q' E s := wpAny_mono h hQ fun _ _ z => False.elim z
theorem compLoop_any {prog : Program} {w : World} {A : Around} {R : Result → Shared → Prop} {s : Shared} {elt target iter : Expr} {ifs : List Expr} {scope : Scope} {pos : Pos} {it acc : Value} {env : Env} (I : Nat → Shared → Prop)
    (turn : ∀ n s, I n s → wpAny (model prog w) A (pyNext it) (fun r s₁ => match r with
      | none => R (.ok .next) s₁
      | some v => wpAny (model prog w) A (letOwnedTupleGo target it v) (fun _ s₁' => wpAny (model prog w) A (assign target env v) (fun _ s₂ =>
          wpAny (model prog w) A (forIn ifs true fun c r => if r = true then do let ok ← isTrue c env (eval c env); pure (ForInStep.yield ok) else pure (ForInStep.yield r)) (fun ok s₃ =>
            if ok = true then wpAny (model prog w) A (eval elt env) (fun x s₄ =>
              wpAny (model prog w) A (call (.builtin "list.append") [acc, x]) (fun _ s₅ => ∃ m, m < n ∧ I m s₅) (notedBy (model prog w) A env fun e s' => R (.error e) s') s₄) (notedBy (model prog w) A env fun e s' => R (.error e) s') s₃
            else ∃ m, m < n ∧ I m s₃) (notedBy (model prog w) A env fun e s' => R (.error e) s') s₂) (notedBy (model prog w) A env fun e s' => R (.error e) s') s₁') (notedBy (model prog w) A env fun e s' => R (.error e) s') s₁) (notedBy (model prog w) A env fun e s' => R (.error e) s') s)
    (n : Nat) (h : I n s) :
    codeAny (model prog w) A (.compLoop (.ListComp elt [⟨target, iter, ifs, 0⟩] scope pos) 0 it acc env) R s := by
  refine codeAny_loop rfl I (fun n s hI => ?_) n h
  show wpAny _ A ((compTurn (.ListComp elt [⟨target, iter, ifs, 0⟩] scope pos) 0 it acc env).onRaise (fun x => do noteFrame x env; theTreesLotGoes x)) _ _ s
  refine wpAny_noted ?_
  rw [compTurn_list]
  refine wpAny_bind (wpAny_standAt (wpAny_bind (wpAny_mono (turn n s hI) (fun r s₁ h₁ => ?_) fun _ _ h' => h')))
  cases r with
  | none => exact wpAny_pure h₁
  | some v =>
    refine wpAny_bind (wpAny_mono h₁ (fun _ s₁' h₁' => ?_) fun _ _ h' => h')
    refine wpAny_bind (wpAny_mono h₁' (fun _ s₂ h₂ => wpAny_bind (wpAny_mono h₂ (fun ok s₃ h₃ => ?_) fun _ _ h' => h')) fun _ _ h' => h')
    cases ok with
    | false => exact wpAny_pure ⟨rfl, h₃⟩
    | true =>
      exact wpAny_bind (wpAny_bind (wpAny_mono h₃ (fun x s₄ h₄ => wpAny_bind (wpAny_mono h₄ (fun _ s₅ h₅ => wpAny_pure (wpAny_pure ⟨rfl, h₅⟩)) fun _ _ h' => h')) fun _ _ h' => h'))
section
variable {X : Cx}
def tLc (wi : TI) (g : TG) (tt : TT) (te : TE) (vs : List Nat) : TE := fun σ H Q => wi σ H fun J H1 => ∀ D, H1 D = none → ∃ W : Nat → Nat → Hp → Prop, (∃ m, W 0 m (upd H1 D (.lst []))) ∧ ∀ i m H, W i m H →
  (J.stop i H ∧ Q (.ref D) H) ∨ (J.go i H ∧ ∃ Nx : Hp → Prop, (∀ H', Nx H' → ∃ m', m' < m ∧ W (i + 1) m' H') ∧ ∀ x H', J.yld i H x H' → g x (wipe σ vs) H' fun σ2 H2 => wipe σ2 vs = wipe σ vs ∧ tt σ2 H2 fun b H3 =>
    if b = true then te σ2 H3 fun y H4 => ∃ acc, H4 D = some (.lst acc) ∧ acc.length < sizeLine ∧ Nx (upd H4 D (.lst (acc ++ [y]))) else Nx H3)
theorem lc_core {pins : List (Addr × Obj)} {s : Shared} {σ : St} {H : Hp} {Q : VK} {elt tg iter : Expr} {ifs : List Expr} {scope : Scope} {own : List (Str × Nat)} {pos pos' : Pos} {wi : TI} {g : TG} {tt : TT} {te : TE} {use : Option (Value → Sem Unit)} {Qf : Value → Shared → Prop}
    (hc : X.calm = true) (hN : X.N.Nodup) (I : Inv X pins σ H s) (hi : PI X tg iter wi) (ok : BlkOk X.N X.env.scope scope own)
    (hg : ∀ (s : Shared) (H : Hp) (C : Addr) (cl : List (Str × Addr)) (fp : List Addr), PG (X.blk s H scope (compEnvC scope cl C X.env) fp) tg g) (ht : ∀ (s : Shared) (H : Hp) (C : Addr) (cl : List (Str × Addr)) (fp : List Addr), PTs (X.blk s H scope (compEnvC scope cl C X.env) fp) ifs tt)
    (he : ∀ (s : Shared) (H : Hp) (C : Addr) (cl : List (Str × Addr)) (fp : List Addr), PE (X.blk s H scope (compEnvC scope cl C X.env) fp) elt te) (hs : ∀ x, foldedSetIterable iter X.env x = pure x)
    (h : tLc wi g tt te (own.map (·.2)) σ H Q)
    (hRR : ∀ D C s' m H', Inv X pins σ H' s' → Q (.ref D) H' → s'.heap.Ns C m → FpOk X pins H' C → compPost (model X.prog X.w) X.A X.xe use Qf (.ref D) C (.ok .next) s') :
    wpAny (model X.prog X.w) X.A (comprehension (.ListComp elt [⟨tg, iter, ifs, 0⟩] scope pos) scope X.env pos' (newList []) false (eval iter X.env) use) Qf X.xe s := by
  have hfree : ∀ y ∈ scope.names, y.2 = .free → ∃ c, X.env.cells.lookup y.1 = some c := fun y hy e => by
    rcases ok.free y hy e with k | k
    · exact I.ok.has _ (.inl k)
    · exact I.ok.has _ (.inr k)
  refine wpAny_comprehension_free (use := use) rfl hs (closure_ok hfree) ok.kind (fun y hy e => by rw [ok.uniq y hy, e])
    (thn (hi pins s σ H _ I h) fun xv s1 hx => thn hx fun itv s2 h2 => ?_)
  obtain ⟨it, fp, tn, J, H2, e, I2, T, st2, f2, q⟩ := h2
  subst e
  refine wpAny_newObj_type (newEnv_comp ?_) (by show 0 ≤ sizeLine; decide)
  generalize hD : s2.heap.objs.size = D
  have hDn : H2 D = none := I2.hok.fresh (Nat.le_of_eq hD)
  obtain ⟨W, ⟨m0, w0⟩, turn⟩ := q D hDn
  generalize hs3 : ({ s2 with heap := s2.heap.push { cls := .type "list", data := .seq ([] : List Value).toArray } } : Shared) = s3
  have I3 : Inv X pins σ (upd H2 D (.lst [])) s3 := by
    rw [← hs3]
    refine I2.laid (t' := s2.toks) (fun b o e => Heap.get?_push_of_some _ e) (Nat.le_of_eq hD) ⟨Nat.zero_le _, [], 0, .nil, ?_⟩
    rw [← hD]
    exact Heap.get?_push_size _ rfl
  have h3 : s3.heap = s2.heap.push { cls := .type "list", data := .seq ([] : List Value).toArray } := by rw [← hs3]
  have sz : ∀ b ∈ fp, b < s2.heap.objs.size := fun b hb => by
    obtain ⟨o, e, _⟩ := T.obj _ _ st2 b hb
    exact Heap.lt_size e
  have f3 : ∀ b ∈ fp, FpOk X pins (upd H2 D (.lst [])) b ∧ b < s3.heap.objs.size := fun b hb => by
    have hlt := sz b hb
    refine ⟨⟨?_, (f2 b hb).2⟩, by rw [h3, Heap.size_push]; exact Nat.lt_succ_of_lt hlt⟩
    rw [upd_ne (by rw [← hD]; exact Nat.ne_of_lt hlt)]
    exact (f2 b hb).1
  have st3 : tn 0 s3.heap := T.keep _ _ _ st2 fun b _ o e => by rw [h3]; exact Heap.get?_push_of_some _ e
  have I4 := block_start I3 ok hN f3
  have pg := hg s3 (upd H2 D (.lst [])) s3.heap.objs.size (cellsFrom (s3.heap.objs.size + 1) scope.names (cloFrom X.env.cells scope.names [])) fp
  have pt := ht s3 (upd H2 D (.lst [])) s3.heap.objs.size (cellsFrom (s3.heap.objs.size + 1) scope.names (cloFrom X.env.cells scope.names [])) fp
  have pe := he s3 (upd H2 D (.lst [])) s3.heap.objs.size (cellsFrom (s3.heap.objs.size + 1) scope.names (cloFrom X.env.cells scope.names [])) fp
  show codeAny _ _ (.compStart (.ListComp elt [⟨tg, iter, ifs, 0⟩] scope pos) 0 (.ref it) (.ref D) (compEnvC scope (cellsFrom (s3.heap.objs.size + 1) scope.names (cloFrom X.env.cells scope.names [])) s3.heap.objs.size X.env)) (compPost (model X.prog X.w) X.A X.xe use Qf (.ref D) s3.heap.objs.size) { s3 with heap := pushCells (s3.heap.push { cls := .type "dict", data := .dict #[] }) scope.names }
  have nfp : ∀ b ∈ fp, (upd H2 D (.lst [])) b = none := fun b hb => (f3 b hb).1.1
  generalize hce : compEnvC scope (cellsFrom (s3.heap.objs.size + 1) scope.names (cloFrom X.env.cells scope.names [])) s3.heap.objs.size X.env = ce at I4 pg pt pe ⊢
  have cL : ce.locals = s3.heap.objs.size := by subst hce; rfl
  generalize hH3 : upd H2 D (.lst []) = H3 at I3 I4 pg pt pe w0 nfp f3
  generalize hs4 : ({ s3 with heap := pushCells (s3.heap.push { cls := .type "dict", data := .dict #[] }) scope.names } : Shared) = s4 at I4 ⊢
  have st4 : tn 0 s4.heap := T.keep _ _ _ st3 fun b _ o e => by rw [← hs4]; exact pushCells_keeps _ _ _ _ (Heap.get?_push_of_some _ e)
  have stat : ∀ {σ' : St} {H' : Hp} {s' : Shared}, Inv (X.blk s3 H3 scope ce fp) [] σ' H' s' → (∀ b ∈ fp, H' b = none) → ∀ b ∈ fp, FpOk (X.blk s3 H3 scope ce fp) [] H' b := fun {σ' H' s'} I' hn b hb =>
    ⟨hn b hb, (I'.ok.exf b hb).1, I'.ok.exfs b hb, .inl hb, fun x c e => (I'.ok.exf b hb).2 x c e, fun p hp => absurd (show p ∈ ([] : List (Addr × Obj)) ++ [] from hp) (by simp)⟩
  have loop : codeAny (model X.prog X.w) X.A (.compLoop (.ListComp elt [⟨tg, iter, ifs, 0⟩] scope pos) 0 (.ref it) (.ref D) ce) (compPost (model X.prog X.w) X.A X.xe use Qf (.ref D) s3.heap.objs.size) s4 := by
    refine compLoop_any (fun n s' => ∃ i H', Inv (X.blk s3 H3 scope ce fp) [] (wipe σ (own.map (·.2))) H' s' ∧ tn i s'.heap ∧ (∀ b ∈ fp, H' b = none) ∧ W i n H') ?_ m0 ⟨0, H3, I4, st4, nfp, w0⟩
    rintro n s5 ⟨i, H5, I5, st5, n5, w5⟩
    rcases turn i n H5 w5 with ⟨stop, qq⟩ | ⟨go, Nx, hNx, step⟩
    · have td := T.done (X.blk s3 H3 scope ce fp) rfl rfl rfl hc i [] s5 _ H5 (fun _ _ => False) I5 (stat I5 n5) st5 stop
      refine thnF td fun r s6 ⟨hr, I6⟩ => ?_
      subst hr
      have I7 : Inv X pins σ H5 s6 := I3.call' (ch := fp) I6.os I6.base I6.hok I6.bare fun b hb => ⟨(f3 b hb).1.2.2.2.1, (f3 b hb).1.2.1, (f3 b hb).1.2.2.2.2.1, (f3 b hb).1.2.2.2.2.2⟩
      have nC : H5 s3.heap.objs.size = none := by
        have z : H5 ce.locals = none := I6.free
        rw [cL] at z
        exact z
      obtain ⟨m, hn, _⟩ := I6.loc
      have hn : s6.heap.Ns ce.locals m := hn
      rw [cL] at hn
      exact hRR D s3.heap.objs.size s6 m H5 I7 qq hn (I3.fpOk (Nat.le_refl _) nC)
    · have ti := T.item (X.blk s3 H3 scope ce fp) rfl rfl rfl hc i [] s5 _ H5 (fun _ _ => False) I5 (stat I5 n5) st5 go
      refine thnF ti fun r s6 ⟨u, hr, h6⟩ => ?_
      subst hr
      refine thnF h6 fun _ s7 ⟨x, H7, I7, r7, y7, st7, n7⟩ => ?_
      have I7' := I7.pinned (stat I7 n7) (T.obj _ _ st7)
      refine thnF (pg _ s7 _ H7 x u _ I7' r7 (step x H7 y7)) fun _ s8 ⟨σ8, H8, I8, hw8, q8⟩ => ?_
      refine thnF (pt _ s8 σ8 H8 _ I8 q8) fun b s9 ⟨H9, I9, q9⟩ => ?_
      have fin : ∀ {s' : Shared} {H' : Hp}, Inv (X.blk s3 H3 scope ce fp) ([] ++ pinsAt fp s7.heap) σ8 H' s' → Nx H' → ∃ m, m < n ∧ ∃ i H', Inv (X.blk s3 H3 scope ce fp) [] (wipe σ (own.map (·.2))) H' s' ∧ tn i s'.heap ∧ (∀ b ∈ fp, H' b = none) ∧ W i m H' := fun {s' H'} I' nx => by
        obtain ⟨m', hm, w'⟩ := hNx H' nx
        have pin' : ∀ b ∈ fp, ∀ o, s7.heap.get? b = some o → s'.heap.get? b = some o ∧ H' b = none := fun b hb o e =>
          let z := I'.pin (b, o) (List.mem_append_right _ (List.mem_append_right _ (mem_pinsAt hb e)))
          ⟨z.1, z.2.1⟩
        have hl : (wipe σ (own.map (·.2))).length = σ8.length := by rw [← hw8, wipe_length]
        refine ⟨m', hm, i + 1, H', (I'.unpinned (pins := [])).weak hl (fun j v e => ?_), T.keep _ _ _ st7 fun b hb o e => (pin' b hb o e).1, fun b hb => ?_, w'⟩
        · rw [← hw8] at e
          exact (wipe_some e).1
        · obtain ⟨o, e, _⟩ := T.obj _ _ st7 b hb
          exact (pin' b hb o e).2
      cases b with
      | false =>
        simp only [Bool.false_eq_true, if_false] at q9 ⊢
        exact fin I9 q9
      | true =>
        simp only [if_true] at q9 ⊢
        refine thnF (pe _ s9 σ8 H9 _ I9 q9) fun z s10 ⟨yv, H10, I10, r10, acc, hD10, hz10, nx⟩ => ?_
        exact app_ok (X := X.blk s3 H3 scope ce fp) I10 hD10 hz10 r10 fun s11 I11 => fin I11 nx
  exact codeAny_compStart_list loop (T.self X.A 0 _ _ _ st4 loop)
theorem pe_lc {elt tg iter : Expr} {ifs : List Expr} {scope : Scope} {own : List (Str × Nat)} {pos : Pos} {wi : TI} {g : TG} {tt : TT} {te : TE} (hc : X.calm = true) (hN : X.N.Nodup) (hi : PI X tg iter wi) (ok : BlkOk X.N X.env.scope scope own)
    (hg : ∀ (s : Shared) (H : Hp) (C : Addr) (cl : List (Str × Addr)) (fp : List Addr), PG (X.blk s H scope (compEnvC scope cl C X.env) fp) tg g) (ht : ∀ (s : Shared) (H : Hp) (C : Addr) (cl : List (Str × Addr)) (fp : List Addr), PTs (X.blk s H scope (compEnvC scope cl C X.env) fp) ifs tt)
    (he : ∀ (s : Shared) (H : Hp) (C : Addr) (cl : List (Str × Addr)) (fp : List Addr), PE (X.blk s H scope (compEnvC scope cl C X.env) fp) elt te) (hs : ∀ x, foldedSetIterable iter X.env x = pure x := by intro _; rfl) :
    PE X (.ListComp elt [⟨tg, iter, ifs, 0⟩] scope pos) (tLc wi g tt te (own.map (·.2))) := by
  intro pins s σ H Q I h
  rw [eval_ListComp]
  refine lc_core hc hN I hi ok hg ht he hs h fun D C s' m H' I' q hn f => ⟨m, hn, fun h'' sb => ?_⟩
  obtain ⟨f0, f1, f2, f3, f4, f5⟩ := f
  exact ⟨.ref D, H', I'.turned (t' := s'.toks) (fun b o hb e => (sb.2 b hb).trans e) f0 f1 f3 f4 f5, rfl, q⟩
theorem ps_setLc {i : Nat} {y : Str} {py : Pos} {elt tg iter : Expr} {ifs : List Expr} {scope : Scope} {own : List (Str × Nat)} {pos spos : Pos} {wi : TI} {g : TG} {tt : TT} {te : TE} (hc : X.calm = true) (hN : X.N.Nodup) (hy : X.N[i]? = some y) (hyl : X.env.scope.names.lookup y = some .local)
    (hsw : swapsWith (.ListComp elt [⟨tg, iter, ifs, 0⟩] scope pos) (some (.Name y py)) spos.line X.env = pure true) (hi : PI X tg iter wi) (ok : BlkOk X.N X.env.scope scope own)
    (hg : ∀ (s : Shared) (H : Hp) (C : Addr) (cl : List (Str × Addr)) (fp : List Addr), PG (X.blk s H scope (compEnvC scope cl C X.env) fp) tg g) (ht : ∀ (s : Shared) (H : Hp) (C : Addr) (cl : List (Str × Addr)) (fp : List Addr), PTs (X.blk s H scope (compEnvC scope cl C X.env) fp) ifs tt)
    (he : ∀ (s : Shared) (H : Hp) (C : Addr) (cl : List (Str × Addr)) (fp : List Addr), PE (X.blk s H scope (compEnvC scope cl C X.env) fp) elt te) (hs : ∀ x, foldedSetIterable iter X.env x = pure x := by intro _; rfl) :
    PS X (.Assign [.Name y py] (.ListComp elt [⟨tg, iter, ifs, 0⟩] scope pos) spos) (tAsg (tLc wi g tt te (own.map (·.2))) (gName i)) := by
  intro pins s σ H D I h
  rw [exec_Assign_Name_used _ _ _ _ hsw]
  refine wpAny_bind (wpAny_standAt (wpAny_bind ?_))
  show wpAny _ X.A (do let _ ← comprehension (.ListComp elt [⟨tg, iter, ifs, 0⟩] scope pos) scope X.env (firstIterPos [⟨tg, iter, ifs, 0⟩] pos) (newList []) false (eval iter X.env) (some (assign (.Name y py) X.env))) _ _ s
  have h : tLc wi g tt te (own.map (·.2)) σ H (fun x H1 => gName i x σ H1 D.nx) := h
  refine wpAny_bind (thn (lc_core (Qf := fun _ s' => SP X pins D .next s') hc hN I hi ok hg ht he hs h fun L C s' m H' I' q hn f => ?_) fun _ s' hq => wpAny_pure (wpAny_pure hq))
  show wpAny _ _ (assign (.Name y py) X.env (.ref L)) _ _ _
  refine wpAny_assign_Name (store_ok2 (v := V.ref L) I' hN hy (.inl hyl) rfl (fun s2 I2 ⟨a, sb, ha⟩ => ?_) (.inr hyl))
  obtain ⟨f0, f1, f2, f3, f4, f5⟩ := f
  have haC : C ≠ a := by
    rcases ha with z | z
    · rw [z]; exact f1
    · exact fun e => f4 y a z e.symm
  refine ⟨m, hn.sameBut sb haC, fun h3 sb3 => ?_⟩
  exact ⟨_, H', I2.turned (t' := s2.toks) (fun b o hb e => (sb3.2 b hb).trans e) f0 f1 f3 f4 f5, q⟩
theorem sw_true {elt : Expr} {gs : List Comprehension} {scope : Scope} {pos py : Pos} {y : Str} {l : Nat} {env : Env} (hk : env.scope.kind = .function) (hy : env.scope.names.lookup y = some .local) (hl : (py.line == pos.line) = true)
    (ha : (scope.names.any fun (n, k) => n == y && (k == .local || k == .cell)) = false) : swapsWith (.ListComp elt gs scope pos) (some (.Name y py)) l env = pure true := by
  have ky : env.kindOf y = some .local := hy
  have hb : env.blockKind = .function := by unfold Env.blockKind; rw [hk]; rfl
  unfold swapsWith
  simp only [hb, ky, ha, Expr.pos, hl]
  rfl
end
theorem lc_range {lo : Int} {n : Nat} {g : TG} {tt : TT} {te : TE} {vs : List Nat} {σ : St} {H1 : Hp} {D : Addr} {Qd : Hp → Prop} (Pv : Nat → Hp → Prop) (h0 : Pv 0 (upd H1 D (.lst [])))
    (hs : ∀ i H, i < n → Pv i H → g (.int (lo + i)) (wipe σ vs) H fun σ2 H2 => wipe σ2 vs = wipe σ vs ∧ tt σ2 H2 fun b H3 =>
      if b = true then te σ2 H3 fun y H4 => ∃ acc, H4 D = some (.lst acc) ∧ acc.length < sizeLine ∧ Pv (i + 1) (upd H4 D (.lst (acc ++ [y]))) else Pv (i + 1) H3) (hd : ∀ H, Pv n H → Qd H) :
    ∃ W : Nat → Nat → Hp → Prop, (∃ m, W 0 m (upd H1 D (.lst []))) ∧ ∀ i m H, W i m H →
      ((Itr lo n).stop i H ∧ Qd H) ∨ ((Itr lo n).go i H ∧ ∃ Nx : Hp → Prop, (∀ H', Nx H' → ∃ m', m' < m ∧ W (i + 1) m' H') ∧ ∀ x H', (Itr lo n).yld i H x H' → g x (wipe σ vs) H' fun σ2 H2 => wipe σ2 vs = wipe σ vs ∧ tt σ2 H2 fun b H3 =>
        if b = true then te σ2 H3 fun y H4 => ∃ acc, H4 D = some (.lst acc) ∧ acc.length < sizeLine ∧ Nx (upd H4 D (.lst (acc ++ [y]))) else Nx H3) := by
  refine ⟨fun i m H => m = n - i ∧ i ≤ n ∧ Pv i H, ⟨n, by simp, Nat.zero_le _, h0⟩, ?_⟩
  rintro i m H ⟨rfl, hi, p⟩
  by_cases hlt : i < n
  · refine .inr ⟨hlt, Pv (i + 1), fun H' p' => ⟨n - (i + 1), by omega, rfl, hlt, p'⟩, fun x H' y => ?_⟩
    obtain ⟨e, y⟩ := y
    subst e y
    exact hs i _ hlt p
  · have e : i = n := by omega
    subst e
    exact .inl ⟨Nat.le_refl _, hd H p⟩
theorem lc_list {K : PySem.W.Frag} {a : Addr} {xs : List V} {g : TG} {tt : TT} {te : TE} {vs : List Nat} {σ : St} {H1 : Hp} {D : Addr} {Qd : Hp → Prop} (Pv : Nat → Hp → Prop) (h0 : Pv 0 (upd H1 D (.lst []))) (hl : ∀ i H, i ≤ xs.length → Pv i H → SqL K H a xs)
    (hs : ∀ i x H, xs[i]? = some x → Pv i H → g x (wipe σ vs) H fun σ2 H2 => wipe σ2 vs = wipe σ vs ∧ tt σ2 H2 fun b H3 =>
      if b = true then te σ2 H3 fun y H4 => ∃ acc, H4 D = some (.lst acc) ∧ acc.length < sizeLine ∧ Pv (i + 1) (upd H4 D (.lst (acc ++ [y]))) else Pv (i + 1) H3) (hd : ∀ H, Pv xs.length H → Qd H) :
    ∃ W : Nat → Nat → Hp → Prop, (∃ m, W 0 m (upd H1 D (.lst []))) ∧ ∀ i m H, W i m H →
      ((Itl K a).stop i H ∧ Qd H) ∨ ((Itl K a).go i H ∧ ∃ Nx : Hp → Prop, (∀ H', Nx H' → ∃ m', m' < m ∧ W (i + 1) m' H') ∧ ∀ x H', (Itl K a).yld i H x H' → g x (wipe σ vs) H' fun σ2 H2 => wipe σ2 vs = wipe σ vs ∧ tt σ2 H2 fun b H3 =>
        if b = true then te σ2 H3 fun y H4 => ∃ acc, H4 D = some (.lst acc) ∧ acc.length < sizeLine ∧ Nx (upd H4 D (.lst (acc ++ [y]))) else Nx H3) := by
  refine ⟨fun i m H => m = xs.length - i ∧ i ≤ xs.length ∧ Pv i H, ⟨xs.length, by simp, Nat.zero_le _, h0⟩, ?_⟩
  rintro i m H ⟨rfl, hi, p⟩
  have q := hl i H hi p
  by_cases hlt : i < xs.length
  · refine .inr ⟨⟨xs, xs[i], q, by simp [hlt]⟩, Pv (i + 1), fun H' p' => ⟨xs.length - (i + 1), by omega, rfl, hlt, p'⟩, fun x H' y => ?_⟩
    obtain ⟨e, y⟩ := y
    subst e
    exact hs i x _ (y xs q) p
  · have e : i = xs.length := by omega
    subst e
    exact .inl ⟨⟨xs, q, Nat.le_refl _⟩, hd H p⟩
def blkC (N : List Str) (sc scope : Scope) (own : List (Str × Nat)) : Bool :=
  (match scope.kind with | .function => true | _ => false) && (scope.names.all fun y => decide (scope.names.lookup y.1 = some y.2)) && (own.all fun p => decide (N[p.2]? = some p.1)) &&
    (scope.names.all fun y => match y.2 with
      | .free => (match sc.names.lookup y.1 with | some .cell => true | some .free => true | _ => false)
      | .local => decide (y.1 ∈ own.map (·.1)) || decide (y.1 ∉ N)
      | .cell => decide (y.1 ∈ own.map (·.1)) || decide (y.1 ∉ N)
      | _ => true)
theorem blkOk_by {N : List Str} {sc scope : Scope} {own : List (Str × Nat)} (h : blkC N sc scope own = true) : BlkOk N sc scope own := by
  unfold blkC at h
  simp only [Bool.and_eq_true, List.all_eq_true, decide_eq_true_eq] at h
  obtain ⟨⟨⟨h1, h2⟩, h3⟩, h4⟩ := h
  refine ⟨?_, h2, h3, fun y hy e => ?_, fun y hy e => ?_⟩
  · split at h1
    · assumption
    · cases h1
  · have q := h4 y hy
    simp only [e] at q
    split at q <;> first | exact .inl (by assumption) | exact .inr (by assumption) | cases q
  · have q := h4 y hy
    rcases e with e | e <;> (simp only [e, Bool.or_eq_true, decide_eq_true_eq] at q; exact q)
end L2
namespace L2
open PySem PySem.Spec PyProof.Rows
section
variable {prog : Program} {w : World} {A : Around} {R : Result → Shared → Prop} {s : Shared} {elt t0 i0 t1 i1 : Expr} {ifs0 ifs1 : List Expr} {scope : Scope} {pos : Pos} {it acc : Value} {env : Env}
end
section
variable {X : Cx}
def tLc2 (wi : TI) (g : TG) (tt : TT) (wi1 : TI) (g1 : TG) (tt1 : TT) (te : TE) (vs vs1 : List Nat) : TE := fun σ H Q => wi σ H fun J H1 => ∀ D, H1 D = none → ∃ W : Nat → Nat → Hp → Prop, (∃ m, W 0 m (upd H1 D (.lst []))) ∧ ∀ i m H, W i m H →
  (J.stop i H ∧ Q (.ref D) H) ∨ (J.go i H ∧ ∃ Nx : Hp → Prop, (∀ H', Nx H' → ∃ m', m' < m ∧ W (i + 1) m' H') ∧ ∀ x H', J.yld i H x H' → g x (wipe σ vs) H' fun σ2 H2 => wipe σ2 vs = wipe σ vs ∧ tt σ2 H2 fun b H3 =>
    if b = true then wi1 σ2 H3 fun J1 H4 => ∃ W1 : Nat → Nat → Hp → Prop, (∃ m, W1 0 m H4) ∧ ∀ j k H, W1 j k H →
      (J1.stop j H ∧ Nx H) ∨ (J1.go j H ∧ ∃ Nx1 : Hp → Prop, (∀ H', Nx1 H' → ∃ k', k' < k ∧ W1 (j + 1) k' H') ∧ ∀ x H', J1.yld j H x H' → g1 x (wipe σ2 vs1) H' fun σ3 H5 => wipe σ3 vs1 = wipe σ2 vs1 ∧ tt1 σ3 H5 fun b H6 =>
        if b = true then te σ3 H6 fun y H7 => ∃ acc, H7 D = some (.lst acc) ∧ acc.length < sizeLine ∧ Nx1 (upd H7 D (.lst (acc ++ [y]))) else Nx1 H6)
    else Nx H3)
end
end L2
namespace L2
open PySem PySem.Spec PyProof.Rows
section
variable {κ : Type} [DecidableEq κ]
def valV (kvs : List (κ × V)) (k : κ) : Option V := (kvs.find? fun kv => decide (kv.1 = k)).map (·.2)
def putK (kvs : List (κ × V)) (k : κ) (v : V) : List (κ × V) :=
  if (kvs.any fun kv => decide (kv.1 = k)) = true then kvs.map (fun kv => if kv.1 = k then (kv.1, v) else kv) else kvs ++ [(k, v)]
def dropK (kvs : List (κ × V)) (k : κ) : List (κ × V) := kvs.filter fun kv => decide (kv.1 ≠ k)
theorem valV_pos {p : κ × V} {r : List (κ × V)} {k : κ} (e : p.1 = k) : valV (p :: r) k = some p.2 := by simp [valV, List.find?_cons, e]
theorem valV_neg {p : κ × V} {r : List (κ × V)} {k : κ} (e : ¬ p.1 = k) : valV (p :: r) k = valV r k := by simp [valV, List.find?_cons, e]
theorem valV_any (k : κ) : ∀ kvs : List (κ × V), (kvs.any fun kv => decide (kv.1 = k)) = (valV kvs k).isSome
  | [] => rfl
  | p :: r => by
    rw [List.any_cons]
    by_cases e : p.1 = k
    · simp only [valV_pos e, decide_eq_true e, Bool.true_or, Option.isSome_some]
    · rw [valV_neg e, decide_eq_false e, Bool.false_or]; exact valV_any k r
theorem RelO.isSome_eq {o : Option V} {u : Option Value} (r : RelO o u) : o.isSome = u.isSome := by
  cases o with
  | none => cases u with
    | none => rfl
    | some _ => exact (show False from r).elim
  | some _ => cases u with
    | none => exact (show False from r).elim
    | some _ => rfl
theorem RelO.getD {o : Option V} {u : Option Value} {d : V} {d' : Value} (r : RelO o u) (rd : RelV d d') : RelV (o.getD d) (u.getD d') := by
  cases o with
  | none => cases u with
    | none => exact rd
    | some _ => exact (show False from r).elim
  | some _ => cases u with
    | none => exact (show False from r).elim
    | some _ => exact r
theorem KV.val {kvs : List (κ × V)} {vs : List (κ × Value)} (r : KV kvs vs) (k : κ) : RelO (valV kvs k) (valueAt vs k) := by
  unfold KV at r
  induction r with
  | nil => exact True.intro
  | @cons p q ps qs h t ih =>
    obtain ⟨h1, h2⟩ := h
    by_cases e : p.1 = k
    · have e' : q.1 = k := h1.symm.trans e
      have b : valueAt (q :: qs) k = some q.2 := by simp [valueAt, List.find?_cons, e']
      rw [valV_pos e, b]; exact h2
    · have e' : ¬ q.1 = k := fun z => e (h1.trans z)
      have b : valueAt (q :: qs) k = valueAt qs k := by simp [valueAt, List.find?_cons, e']
      rw [valV_neg e, b]; exact ih
theorem KV.any {kvs : List (κ × V)} {vs : List (κ × Value)} (r : KV kvs vs) (k : κ) : (kvs.any fun kv => decide (kv.1 = k)) = vs.any fun kv => decide (kv.1 = k) := by
  unfold KV at r
  induction r with
  | nil => rfl
  | cons h t ih => rw [List.any_cons, List.any_cons, ih, h.1]
theorem KV.repl {kvs : List (κ × V)} {vs : List (κ × Value)} (r : KV kvs vs) (k : κ) {y : V} {u : Value} (ry : RelV y u) :
    KV (kvs.map fun kv => if kv.1 = k then (kv.1, y) else kv) (vs.map fun kv => if kv.1 = k then (kv.1, u) else kv) := by
  unfold KV at r ⊢
  induction r with
  | nil => exact .nil
  | @cons p q ps qs h t ih =>
    rw [List.map_cons, List.map_cons]
    refine .cons ?_ ih
    obtain ⟨h1, h2⟩ := h
    by_cases e : p.1 = k
    · rw [if_pos e, if_pos (h1.symm.trans e)]; exact ⟨h1, ry⟩
    · rw [if_neg e, if_neg (fun z => e (h1.trans z))]; exact ⟨h1, h2⟩
theorem KV.put {kvs : List (κ × V)} {vs : List (κ × Value)} (r : KV kvs vs) (k : κ) {y : V} {u : Value} (ry : RelV y u) : KV (putK kvs k y) (stored vs k u) := by
  unfold putK stored
  rw [r.any k]
  by_cases e : (vs.any fun kv => decide (kv.1 = k)) = true
  · rw [if_pos e, if_pos e]; exact r.repl k ry
  · rw [if_neg e, if_neg e]; exact Paired.snoc r ⟨rfl, ry⟩
theorem KV.drop {kvs : List (κ × V)} {vs : List (κ × Value)} (r : KV kvs vs) (k : κ) : KV (dropK kvs k) (without vs k) := by
  unfold KV at r ⊢
  unfold dropK without
  induction r with
  | nil => exact .nil
  | @cons p q ps qs h t ih =>
    obtain ⟨h1, h2⟩ := h
    rw [List.filter_cons, List.filter_cons]
    by_cases e : p.1 = k
    · have a : ¬ decide (p.1 ≠ k) = true := by simp [e]
      have b : ¬ decide (q.1 ≠ k) = true := by simp [h1.symm.trans e]
      rw [if_neg a, if_neg b]; exact ih
    · have e' : ¬ q.1 = k := fun z => e (h1.trans z)
      have a : decide (p.1 ≠ k) = true := by simp [e]
      have b : decide (q.1 ≠ k) = true := by simp [e']
      rw [if_pos a, if_pos b]; exact .cons ⟨h1, h2⟩ ih
theorem KV.keys {kvs : List (κ × V)} {vs : List (κ × Value)} (r : KV kvs vs) : kvs.map (·.1) = vs.map (·.1) := by
  unfold KV at r
  induction r with
  | nil => rfl
  | cons h t ih => rw [List.map_cons, List.map_cons, ih, h.1]
theorem KV.length {kvs : List (κ × V)} {vs : List (κ × Value)} (r : KV kvs vs) : kvs.length = vs.length := Paired.length r
end
abbrev KT (H : Hp) : List (List Key × V) → List (List Key × Addr × Value) → Prop := Paired fun p q => p.1 = q.1 ∧ H q.2.1 = some (.tup (p.1.map kV)) ∧ RelV p.2 q.2.2
theorem KT.val {H : Hp} {kvs : List (List Key × V)} {xs : List (List Key × Addr × Value)} (r : KT H kvs xs) (k : List Key) : RelO (valV kvs k) ((atKey xs k).map (·.2)) := by
  induction r with
  | nil => exact True.intro
  | @cons p q ps qs h t ih =>
    obtain ⟨h1, _, h2⟩ := h
    by_cases e : p.1 = k
    · have e' : q.1 = k := h1.symm.trans e
      have b : atKey (q :: qs) k = some q.2 := by simp [atKey, List.find?_cons, e']
      rw [valV_pos e, b]; exact h2
    · have e' : ¬ q.1 = k := fun z => e (h1.trans z)
      have b : atKey (q :: qs) k = atKey qs k := by simp [atKey, List.find?_cons, e']
      rw [valV_neg e, b]; exact ih
theorem KT.repl {H : Hp} {kvs : List (List Key × V)} {xs : List (List Key × Addr × Value)} (r : KT H kvs xs) (k : List Key) {y : V} {u : Value} (ry : RelV y u) :
    KT H (kvs.map fun kv => if kv.1 = k then (kv.1, y) else kv) (xs.map (putAt k u)) := by
  induction r with
  | nil => exact .nil
  | @cons p q ps qs h t ih =>
    rw [List.map_cons, List.map_cons]
    refine .cons ?_ ih
    obtain ⟨h1, h2, h3⟩ := h
    unfold putAt
    by_cases e : p.1 = k
    · rw [if_pos e, if_pos (h1.symm.trans e)]; exact ⟨h1, h2, ry⟩
    · rw [if_neg e, if_neg (fun z => e (h1.trans z))]; exact ⟨h1, h2, h3⟩
theorem KT.put {H : Hp} {kvs : List (List Key × V)} {xs : List (List Key × Addr × Value)} (r : KT H kvs xs) (k : List Key) {b : Addr} {y : V} {u : Value} (hb : H b = some (.tup (k.map kV))) (ry : RelV y u) :
    KT H (putK kvs k y) (storedH xs k b u) := by
  have e : (kvs.any fun kv => decide (kv.1 = k)) = (atKey xs k).isSome := by
    rw [valV_any, (r.val k).isSome_eq, Option.isSome_map]
  unfold putK storedH
  rw [e]
  by_cases q : (atKey xs k).isSome = true
  · rw [if_pos q, if_pos q]; exact r.repl k ry
  · rw [if_neg q, if_neg q]; exact Paired.snoc r ⟨rfl, hb, ry⟩
theorem KT.keeps {H H' : Hp} {kvs : List (List Key × V)} {xs : List (List Key × Addr × Value)} (r : KT H kvs xs) (ht : ∀ b ys, H b = some (.tup ys) → H' b = some (.tup ys)) : KT H' kvs xs :=
  Paired.mapP r fun _ _ z => ⟨z.1, ht _ _ z.2.1, z.2.2⟩
section
variable {P : Program} {w : World} {H : Hp} {h : Heap} {a : Addr}
end
def DGet (H : Hp) (a : Addr) (y : V) (r : Option V) : Prop :=
  (∃ kvs k, Rd H a (.dK kvs) ∧ y = kV k ∧ r = valV kvs k) ∨ ∃ kvs k b, Rd H a (.dT kvs) ∧ y = .ref b ∧ H b = some (.tup (k.map kV)) ∧ r = valV kvs k
def DPut (H : Hp) (a : Addr) (y v : V) (H' : Hp) : Prop :=
  (∃ kvs k, H a = some (.dK kvs) ∧ y = kV k ∧ kvs.length < sizeLine ∧ H' = upd H a (.dK (putK kvs k v))) ∨
  ∃ kvs k b, H a = some (.dT kvs) ∧ y = .ref b ∧ H b = some (.tup (k.map kV)) ∧ kvs.length < sizeLine ∧ H' = upd H a (.dT (putK kvs k v))
theorem DGet.k {H : Hp} {a : Addr} {kvs : List (Key × V)} {k : Key} (e : H a = some (.dK kvs)) : DGet H a (kV k) (valV kvs k) := .inl ⟨kvs, k, .inl e, rfl, rfl⟩
theorem DGet.t {H : Hp} {a b : Addr} {kvs : List (List Key × V)} {k : List Key} (e : H a = some (.dT kvs)) (eb : H b = some (.tup (k.map kV))) : DGet H a (.ref b) (valV kvs k) := .inr ⟨kvs, k, b, .inl e, rfl, eb, rfl⟩
theorem DPut.k {H : Hp} {a : Addr} {kvs : List (Key × V)} {k : Key} {v : V} (e : H a = some (.dK kvs)) (hl : kvs.length < sizeLine) : DPut H a (kV k) v (upd H a (.dK (putK kvs k v))) := .inl ⟨kvs, k, e, rfl, hl, rfl⟩
theorem DPut.t {H : Hp} {a b : Addr} {kvs : List (List Key × V)} {k : List Key} {v : V} (e : H a = some (.dT kvs)) (eb : H b = some (.tup (k.map kV))) (hl : kvs.length < sizeLine) :
    DPut H a (.ref b) v (upd H a (.dT (putK kvs k v))) := .inr ⟨kvs, k, b, e, rfl, eb, hl, rfl⟩
section
variable {X : Cx} {pins : List (Addr × Obj)} {σ : St} {H : Hp} {s : Shared} {a : Addr} {y v : V} {u r : Value} {o : Option V} {A : Around} {E : Value → Shared → Prop}
end
section
variable {X : Cx} {pins : List (Addr × Obj)} {σ : St} {H : Hp} {s : Shared} {a : Addr} {kvs : List (Key × V)} {k : Key} {u : Value} {A : Around} {E : Value → Shared → Prop}
end
def NoSl (i : Expr) : Prop := ∀ ov iv, subscripted i false ov iv = operate [ov, iv] (getItem ov iv)
def tDGet (td ty : TE) : TE := fun σ H Q => td σ H fun x H1 => ty σ H1 fun y H2 => ∃ a v, x = .ref a ∧ DGet H2 a y (some v) ∧ Q v H2
def tDIn (ty td : TE) : TE := fun σ H Q => ty σ H fun y H1 => td σ H1 fun x H2 => ∃ a o, x = .ref a ∧ DGet H2 a y o ∧ Q (.bl o.isSome) H2
def tDNotIn (ty td : TE) : TE := fun σ H Q => ty σ H fun y H1 => td σ H1 fun x H2 => ∃ a o, x = .ref a ∧ DGet H2 a y o ∧ Q (.bl (!o.isSome)) H2
def sDPut (td ty tv : TE) : TS := fun D σ H => tv σ H fun v H1 => td σ H1 fun x H2 => ty σ H2 fun y H3 => ∃ a H4, x = .ref a ∧ DPut H3 a y v H4 ∧ D.nx σ H4
def sDAug (td ty tv : TE) (rd : V → V → Hp → VK → Prop) : TS := fun D σ H => td σ H fun x H1 => ty σ H1 fun y H2 => ∃ a v, x = .ref a ∧ DGet H2 a y (some v) ∧
  tv σ H2 fun y2 H3 => rd v y2 H3 fun z H4 => ∃ H5, DPut H4 a y z H5 ∧ D.nx σ H5
def sDDel (td ty : TE) : TS := fun D σ H => td σ H fun x H1 => ty σ H1 fun y H2 => ∃ a kvs k, x = .ref a ∧ H2 a = some (.dK kvs) ∧ y = kV k ∧ (valV kvs k).isSome = true ∧ D.nx σ (upd H2 a (.dK (dropK kvs k)))
section
variable {X : Cx} {o i e value : Expr} {pos pos' tpos : Pos} {td ty tv : TE}
end
def tDNewK : TE := fun _ H Q => ∀ p, H p = none → Q (.ref p) (upd H p (.dK []))
def tDNewT : TE := fun _ H Q => ∀ p, H p = none → Q (.ref p) (upd H p (.dT []))
section
variable {X : Cx} {pos : Pos}
end
def tPairs : List (TE × TE) → St → Hp → (List (V × V) → Hp → Prop) → Prop
  | [], _, H, Q => Q [] H
  | (tk, tv) :: r, σ, H, Q => tk σ H fun x H1 => tv σ H1 fun y H2 => tPairs r σ H2 fun ps H3 => Q ((x, y) :: ps) H3
abbrev VV : List (V × V) → List (Value × Value) → Prop := Paired fun p q => RelV p.1 q.1 ∧ RelV p.2 q.2
def PPs (X : Cx) (pos : Pos) (keys : List (Option Expr)) (values : List Expr) (trs : List (TE × TE)) : Prop :=
  ∀ (pins : List (Addr × Obj)) (s : Shared) (σ : St) (H : Hp) (Q : List (V × V) → Hp → Prop), Inv X pins σ H s → tPairs trs σ H Q →
    wpAny (model X.prog X.w) X.A (evalPairs (pairTrees keys values X.env pos)) (fun vs s' => ∃ ps H', Inv X pins σ H' s' ∧ VV ps vs ∧ Q ps H') X.xe s
def mergeK (kvs more : List (Key × V)) : List (Key × V) := more.foldl (fun acc kv => putK acc kv.1 kv.2) kvs
def tDisp (trs : List (TE × TE)) : TE := fun σ H Q => ∀ p, H p = none → tPairs trs σ (upd H p (.dK [])) fun ps H2 => H2 p = some (.dK []) ∧ ∃ kvs : List (Key × V), ps = kvs.map (fun kv => (kV kv.1, kv.2)) ∧ kvs.length ≤ 15 ∧ Q (.ref p) (upd H2 p (.dK (mergeK [] kvs)))
structure M1 (X : Cx) (o : Expr) (m : Str) (apos : Pos) (e : Expr) (cpos : Pos) : Prop where
  base : attributeBase o m X.env (eval o X.env) = eval o X.env
  few : ((backTo cpos (starEach [e] X.env)).all (fun x => !x.1) && (backToKw cpos (keywordEach [] X.env)).all (fun x => x.1.isSome)
    && decide (([e] : List Expr).length + ([] : List Keyword).length + (if ([] : List Keyword).isEmpty then 0 else 1) < 30)) = true
  line : (apos.endLine == cpos.line) = true
  trees : backTo cpos (starEach [e] X.env) = [(false, eval e X.env)]
structure M2 (X : Cx) (o : Expr) (m : Str) (apos : Pos) (e f : Expr) (cpos : Pos) : Prop where
  base : attributeBase o m X.env (eval o X.env) = eval o X.env
  few : ((backTo cpos (starEach [e, f] X.env)).all (fun x => !x.1) && (backToKw cpos (keywordEach [] X.env)).all (fun x => x.1.isSome)
    && decide (([e, f] : List Expr).length + ([] : List Keyword).length + (if ([] : List Keyword).isEmpty then 0 else 1) < 30)) = true
  line : (apos.endLine == cpos.line) = true
  trees : backTo cpos (starEach [e, f] X.env) = [(false, eval e X.env), (false, eval f X.env)]
def IsD (H : Hp) (a : Addr) : Prop := (∃ kvs, Rd H a (.dK kvs)) ∨ ∃ kvs, Rd H a (.dT kvs)
section
variable {X : Cx} {pins : List (Addr × Obj)} {σ : St} {H : Hp} {s : Shared} {a : Addr} {y d : V} {u r : Value} {o : Option V} {A : Around} {E : Value → Shared → Prop}
end
def tDGet1 (td ty : TE) : TE := fun σ H Q => td σ H fun x H1 => ∃ a, x = .ref a ∧ IsD H1 a ∧ ty σ H1 fun y H2 => ∃ o, DGet H2 a y o ∧ Q (o.getD .non) H2
def tDGet2 (td ty tx : TE) : TE := fun σ H Q => td σ H fun x H1 => ∃ a, x = .ref a ∧ IsD H1 a ∧ ty σ H1 fun y H2 => tx σ H2 fun z H3 => ∃ o, DGet H3 a y o ∧ Q (o.getD z) H3
def tDPop1 (td ty : TE) : TE := fun σ H Q => td σ H fun x H1 => ∃ a, x = .ref a ∧ IsD H1 a ∧ ty σ H1 fun y H2 => ∃ kvs k v, H2 a = some (.dK kvs) ∧ y = kV k ∧ valV kvs k = some v ∧ Q v (upd H2 a (.dK (dropK kvs k)))
def tDPop2 (td ty tx : TE) : TE := fun σ H Q => td σ H fun x H1 => ∃ a, x = .ref a ∧ IsD H1 a ∧ ty σ H1 fun y H2 => tx σ H2 fun z H3 => ∃ kvs k, H3 a = some (.dK kvs) ∧ y = kV k ∧
  (∀ v, valV kvs k = some v → Q v (upd H3 a (.dK (dropK kvs k)))) ∧ (valV kvs k = none → Q z H3)
section
variable {X : Cx} {o e f : Expr} {apos cpos : Pos} {td ty tx : TE}
end
section
variable {X : Cx} {pins : List (Addr × Obj)} {σ : St} {H : Hp} {s : Shared} {a : Addr} {kvs : List (Key × V)} {A : Around} {E : Value → Shared → Prop}
end
section
variable {X : Cx} {pins : List (Addr × Obj)} {σ : St} {H : Hp} {s : Shared} {a : Addr} {y : V} {u : Value} {A : Around} {E : Value → Shared → Prop}
end
end L2
namespace L2
open PySem PySem.Spec PyProof.Rows
section
variable {prog : Program} {w : World} {A : Around} {E : Value → Shared → Prop}
end
section
variable {X : Cx}
end
end L2
namespace L2
open PySem PySem.Spec PyProof.Rows
section
variable {X : Cx} {pins : List (Addr × Obj)} {σ : St} {H : Hp} {s : Shared} {h' : Heap}
theorem Inv.turnedNew {t' : Nat} {ch : List Addr} {T : Addr} {ob : HO} (I : Inv X pins σ H s) (k : ∀ b o, b ∉ ch → s.heap.get? b = some o → h'.get? b = some o) (hf : ∀ b ∈ ch, FpOk X pins H b) (hT : s.heap.objs.size ≤ T)
    (new : ObjOk X.prog X.w (upd H T ob) h' T ob) : Inv X pins σ (upd H T ob) { s with heap := h', toks := t' } := by
  have hn : H T = none := I.hok.fresh hT
  have nit : ∀ b u, H b = some u → b ∉ ch := fun b u e z => by
    have q := (hf b z).1
    rw [q] at e; cases e
  refine I.step (g' := s.gens) (d' := s.drawn) (ch := ch) (fun b hb => ⟨(hf b hb).2.2.2.1, (hf b hb).2.1, (hf b hb).2.2.2.2.1, (hf b hb).2.2.2.2.2⟩) (fun b o _ _ hc e _ => k b o hc e) (fun b o _ _ hc e _ => ⟨o.slots, k b o hc e⟩)
    (fun b o _ e n => ?_) (fun b o hc e => ⟨o, k b o hc e⟩) (fun b xs e => ?_) (fun b o u e => ?_) (fun b ps e => ⟨#[], ?_⟩) (fun m hm => ?_) (fun b u e => ?_) I.bare
  · rw [upd_ne (Nat.ne_of_lt (Nat.lt_of_lt_of_le (Heap.lt_size e) hT))]; exact n
  · rw [upd_ne (ne_of_none e hn)]; exact e
  · rw [upd_ne (ne_of_none e hn)]; exact e
  · rw [upd_ne (ne_of_none e hn), e]; simp
  · obtain ⟨o, es, ep, ho, r⟩ := hm
    exact ⟨o, es, ep, k _ o (fun z => (hf _ z).2.1 rfl) ho, r⟩
  · by_cases hb : b = T
    · subst hb
      rw [upd_same] at e
      cases e
      exact new
    · rw [upd_ne hb] at e
      refine (I.hok b u e).stay (fun c v hc q => k c v ?_ q) (fun c q => by rw [upd_ne (ne_of_none q hn)]; exact q) fun c xs q => by rw [upd_ne (ne_of_none q hn)]; exact q
      rcases hc with z | z
      · rw [z]; exact nit b u e
      · exact nit c _ z
end
def tLock (t : TS) : TS := fun D σ H => ∃ d u, H d = some u ∧ Mut (some u) ∧ ∀ od, t ⟨fun σ' H' => H' d = some (.frz od u) ∧ D.nx σ' (upd H' d u), fun v H' => H' d = some (.frz od u) ∧ D.rt v (upd H' d u), fun σ' H' => H' d = some (.frz od u) ∧ D.bk σ' (upd H' d u), fun σ' H' => H' d = some (.frz od u) ∧ D.ct σ' (upd H' d u)⟩ σ (upd H d (.frz od u))
def tLockE (t : TE) : TE := fun σ H Q => ∃ d u, H d = some u ∧ Mut (some u) ∧ ∀ od, t σ (upd H d (.frz od u)) fun v H' => H' d = some (.frz od u) ∧ Q v (upd H' d u)
section
variable {X : Cx}
end
def Itc (lo c : Int) (n : Nat) : It := ⟨fun i _ => i < n, fun i H x H' => H' = H ∧ x = .int (lo + (i : Nat) * c), fun i _ => n ≤ i⟩
def RgC (i j c : Int) (n : Nat) : Prop := c ≠ 0 ∧ c.natAbs < 1073741824 ∧ Builtin.Range.small i j c = true ∧ Builtin.Range.rangeSize i j c = n
theorem RgC.neg {i j : Int} (ha : -(2 ^ 62) ≤ i) (ha' : i < 2 ^ 62) (hb : -(2 ^ 62) ≤ j) (hb' : j < 2 ^ 62) : RgC i j (-1) (i - j).toNat :=
  ⟨by decide, by decide, PySem.W.small_down ha ha' hb hb', PySem.W.rangeSize_downNat i j⟩
def iRng3 (ta : TA) : TI := fun σ H R => ta σ H fun vs H1 => ∃ (i j c : Int) (n : Nat), vs = [.int i, .int j, .int c] ∧ RgC i j c n ∧ R (Itc i c n) H1
section
variable {X : Cx} {tg : Expr}
end
def Itv (K : PySem.W.Frag) (a : Addr) (n : Nat) : It :=
  ⟨fun i H => i < n ∧ ∃ (xs : List V) (x : V), SqL K H a xs ∧ xs[n - 1 - i]? = some x, fun i H x H' => H' = H ∧ ∀ xs, SqL K H a xs → xs[n - 1 - i]? = some x, fun i _ => n ≤ i⟩
def iRev (K : PySem.W.Frag) (ta : TA) : TI := fun σ H R => ta σ H fun vs H1 => ∃ (a : Addr) (xs : List V), vs = [.ref a] ∧ SqL K H1 a xs ∧ R (Itv K a xs.length) H1
section
variable {X : Cx} {tg : Expr}
end
def Its (x : Str) : It := ⟨fun i _ => i < x.cps.size, fun i H v H' => H' = H ∧ ∃ c, x.cps[i]? = some c ∧ v = .str ⟨#[c]⟩, fun i _ => x.cps.size ≤ i⟩
def iStr (te : TE) : TI := fun σ H R => te σ H fun v H1 => ∃ x, v = .str x ∧ R (Its x) H1
section
variable {prog : Program} {w : World} {A : Around} {E : Value → Shared → Prop} {s : Shared}
end
section
variable {X : Cx} {pins : List (Addr × Obj)} {σ : St} {H : Hp} {s : Shared} {d : Addr} {o : Obj}
end
def Itk (d : Addr) (o : Obj) (kvs : List (Key × V)) : It :=
  ⟨fun i H => H d = some (.frz o (.dK kvs)) ∧ i < kvs.length, fun i H x H' => H' = H ∧ ∃ k v, kvs[i]? = some (k, v) ∧ x = kV k, fun i H => H d = some (.frz o (.dK kvs)) ∧ kvs.length ≤ i⟩
def Itkt (d : Addr) (o : Obj) (kvs : List (List Key × V)) : It :=
  ⟨fun i H => H d = some (.frz o (.dT kvs)) ∧ i < kvs.length, fun i H x H' => H' = H ∧ ∃ (k : List Key) (v : V) (q : Addr), kvs[i]? = some (k, v) ∧ x = .ref q ∧ H q = some (.tup (k.map kV)), fun i H => H d = some (.frz o (.dT kvs)) ∧ kvs.length ≤ i⟩
def Itd (d : Addr) (o : Obj) (kvs : List (Key × V)) : It :=
  ⟨fun i H => H d = some (.frz o (.dK kvs)) ∧ i < kvs.length, fun i H x H' => H' = H ∧ ∃ k, kvs[i]? = some (k, x), fun i H => H d = some (.frz o (.dK kvs)) ∧ kvs.length ≤ i⟩
def Iti (d : Addr) (o : Obj) (kvs : List (Key × V)) : It :=
  ⟨fun i H => H d = some (.frz o (.dK kvs)) ∧ i < kvs.length, fun i H x H' => ∃ T k v, kvs[i]? = some (k, v) ∧ x = .ref T ∧ H T = none ∧ H' = upd H T (.tup [kV k, v]), fun i H => H d = some (.frz o (.dK kvs)) ∧ kvs.length ≤ i⟩
section
variable {P : Program} {w : World} {K : PySem.W.Frag} {tg : Expr} {d : Addr} {o : Obj} {es : Array DictEntry} {ep : Nat}
end
def iKeys (td : TE) : TI := fun σ H R => td σ H fun x H1 => ∃ d o, x = .ref d ∧ ((∃ kvs, H1 d = some (.frz o (.dK kvs)) ∧ R (Itk d o kvs) H1) ∨ ∃ kvs, H1 d = some (.frz o (.dT kvs)) ∧ R (Itkt d o kvs) H1)
def iVals (td : TE) : TI := fun σ H R => td σ H fun x H1 => ∃ d o kvs, x = .ref d ∧ H1 d = some (.frz o (.dK kvs)) ∧ R (Itd d o kvs) H1
def iItems (td : TE) : TI := fun σ H R => td σ H fun x H1 => ∃ d o kvs, x = .ref d ∧ H1 d = some (.frz o (.dK kvs)) ∧ R (Iti d o kvs) H1
def iKeysM (td : TE) : TI := fun σ H R => td σ H fun x H1 => ∃ d o kvs, x = .ref d ∧ H1 d = some (.frz o (.dK kvs)) ∧ R (Itk d o kvs) H1
section
variable {X : Cx} {tg e : Expr} {td : TE} {apos cpos : Pos}
end
def Ite (K : PySem.W.Frag) (a : Addr) : It :=
  ⟨fun i H => ∃ (xs : List V) (x : V), SqL K H a xs ∧ xs[i]? = some x, fun i H v H' => ∃ T x, v = .ref T ∧ H T = none ∧ H' = upd H T (.tup [.int (i : Nat), x]) ∧ ∀ xs, SqL K H a xs → xs[i]? = some x, fun i H => ∃ xs : List V, SqL K H a xs ∧ xs.length ≤ i⟩
def iEnum (K : PySem.W.Frag) (ta : TA) : TI := fun σ H R => ta σ H fun vs H1 => ∃ a xs, vs = [.ref a] ∧ SqL K H1 a xs ∧ R (Ite K a) H1
def Itz (K : PySem.W.Frag) (a b : Addr) : It :=
  ⟨fun i H => ∃ (xs ys : List V) (x y : V), SqL K H a xs ∧ SqL K H b ys ∧ xs[i]? = some x ∧ ys[i]? = some y,
    fun i H v H' => ∃ T x y, v = .ref T ∧ H T = none ∧ H' = upd H T (.tup [x, y]) ∧ (∀ xs, SqL K H a xs → xs[i]? = some x) ∧ ∀ ys, SqL K H b ys → ys[i]? = some y,
    fun i H => ∃ xs ys : List V, SqL K H a xs ∧ SqL K H b ys ∧ (xs.length ≤ i ∨ ys.length ≤ i)⟩
def iZip (K : PySem.W.Frag) (ta : TA) : TI := fun σ H R => ta σ H fun vs H1 => ∃ a b xs ys, vs = [.ref a, .ref b] ∧ SqL K H1 a xs ∧ SqL K H1 b ys ∧ R (Itz K a b) H1
end L2
section 
namespace Bits
open PySem PyProof.Rows
end Bits
end 
section 
namespace TL
open PySem PySem.Builtin PySem.Builtin.Str PySem.StrLaws
abbrev tl (x : Str) : List Nat := x.cps.toList
def pre (S l : List Nat) : Bool := l.take S.length == S
def spl (S : List Nat) : Nat → List Nat → List Nat → List (List Nat)
  | _, acc, [] => [acc]
  | 0, acc, c :: r => if pre S (c :: r) = true then acc :: spl S (S.length - 1) [] r else spl S 0 (acc ++ [c]) r
  | k + 1, acc, _ :: r => spl S k acc r
def par (S : List Nat) : List Nat → List Nat → Option (List Nat × List Nat)
  | _, [] => none
  | acc, c :: r => if pre S (c :: r) = true then some (acc, (c :: r).drop S.length) else par S (acc ++ [c]) r
def joinL (S : List Nat) : List (List Nat) → List Nat
  | [] => []
  | [p] => p
  | p :: q :: r => p ++ (S ++ joinL S (q :: r))
def numL (n : Nat) : List Nat := (Nat.toDigits 10 n).map Char.toNat
def wstep (st : List (List Nat) × List Nat) (c : Nat) : List (List Nat) × List Nat :=
  if Unicode.isSpace c = true then (if st.2 = [] then st else (st.1 ++ [st.2], [])) else (st.1, st.2 ++ [c])
def wfin (st : List (List Nat) × List Nat) : List (List Nat) := if st.2 = [] then st.1 else st.1 ++ [st.2]
end TL
end 
namespace L2
open PySem PySem.Spec PyProof.Rows
def rNewStrs (ys : List Str) : Hp → VK → Prop := fun H Q => ∀ p, H p = none → Q (.ref p) (upd H p (.lst (ys.map V.str)))
section
variable {X : Cx} {pins : List (Addr × Obj)} {σ : St} {H : Hp} {s : Shared} {Q : VK}
end
section
variable {X : Cx}
end
section
variable {X : Cx} {o e : Expr} {to te : TE}
def tM0 (r : V → List V → Hp → VK → Prop) (to : TE) : TE := fun σ H Q => to σ H fun x H1 => (∃ a, x = .str a) ∧ r x [] H1 Q
def tM1 (r : V → List V → Hp → VK → Prop) (to te : TE) : TE := fun σ H Q => to σ H fun x H1 => (∃ a, x = .str a) ∧ te σ H1 fun y H2 => r x [y] H2 Q
end
end L2
namespace L2
open PySem PySem.Spec PyProof.Rows
section
variable {X : Cx}
end
def clipS (n d : Nat) : Option Int → Int
  | none => (d : Int)
  | some i => max 0 (min (if i < 0 then i + (n : Int) else i) (n : Int))
def cutS (z : Str) (lo hi : Option Int) : Str :=
  ⟨((z.cps.toList.drop (HT.sIx z.length 0 lo)).take (HT.sIx z.length z.length hi - HT.sIx z.length 0 lo)).toArray⟩
def rSlS : V → Option Int → Option Int → Hp → VK → Prop := fun x lo hi H Q => ∃ z, x = .str z ∧ z.length ≤ sizeLine ∧ Q (.str (cutS z lo hi)) H
end L2
namespace Att
open PySem PySem.W PySem.Calls PyProof.Rows
theorem ints_of_wellAll {P : Params} {h : Heap} : ∀ (ns : List Int) (vs : List Value), WellAll P h vs (ns.map WData.int) → IntsAre vs ns := by
  intro ns
  induction ns with
  | nil =>
    intro vs w
    rw [List.map_nil] at w
    cases w
    exact .nil
  | cons n ns ih =>
    intro vs w
    rw [List.map_cons] at w
    cases w with
    | cons a b =>
      cases a
      exact .cons _ _ (ih _ b)
theorem script_of {l : OpenLaw} {n : Nat} (hn : l.most = some n) {P : Params} {h : Heap} {args : List WData} {vals : List Value}
    (hpre : l.row.toRowW.claim.pre args = true) (hwl : WellAll P h vals args) :
    ∃ a vs ns, vals = [Value.ref a] ∧ args = [WData.list (ns.map WData.int)] ∧ h.get? a = some { cls := .type "list", data := .seq vs.toArray } ∧ IntsAre vs ns ∧ ns.length ≤ n := by
  have hsh : WShape.hasAll [] args [.list .int] = true := (pre_splitW hpre).1
  have hc : l.pre.holds [] { args := args } = true := (pre_splitW hpre).2
  obtain ⟨d, r, rfl, h1, h2⟩ := hasAllW_cons hsh
  obtain rfl := hasAllW_nil h2
  obtain ⟨xs, rfl, h3⟩ := hasW_list h1
  obtain ⟨ns, rfl⟩ := items_int h3
  have hlen : ns.length ≤ n := by
    unfold OpenLaw.pre at hc
    have h4 : (WTm.not (.lt (.lit (.int (n : Int))) (.len (.arg 0)))).holds [] { args := [.list (ns.map .int)] } = true := by
      have h4 := (holds_andW hc).1
      rw [hn] at h4
      exact h4
    have h5 := condW_of h4 (w_not (w_lt w_lit (w_len_list (w_arg rfl))))
    rw [List.length_map] at h5
    refine Nat.le_of_not_lt fun q => ?_
    have q' : (n : Int) < ((ns.length : Nat) : Int) := by omega
    first
      | (rw [decide_eq_true q'] at h5; exact absurd h5 (by decide))
      | (simp at h5; omega)
  cases hwl with
  | cons w1 w2 =>
    cases w2
    cases w1 with
    | list ho hall => exact ⟨_, _, ns, rfl, rfl, ho, ints_of_wellAll ns _ hall, hlen⟩
theorem post_true (l : OpenLaw) (args : List WData) : l.row.toRowW.claim.post args (.bool true) args = true :=
  postW_of (r := l.row.toRowW) (X := (true == true))
    (show WShape.has [] (.bool true) .bool = true by first | rfl | decide | simp [WShape.has, WShape.arms, WShape.armsAll])
    (show (WTm.eq .res (.lit (.bool true))).value [] { args := args, res := some (.bool true), after := args } = some (.bool (true == true)) from w_eq_bool (w_res rfl) w_lit) rfl
theorem attach_call {l : OpenLaw} {n : Nat} {q : Program} {loose : List Str} {XP : (Str → Option Value) → Heap → Prop} {YP : World → Heap → Prop} {d : DefRec}
    (hn : l.most = some n) (hdf : d.params.defaults = [])
    (call : ∀ (w : World) (s₀ s₁ : Shared) (mg mb : Str → Option Value) (fa : Addr) (o : Obj) (pm cd doc : Value) (a : Addr) (vs : List Value) (ns : List Int),
      Ground q loose [] XP w s₀ mg mb s₁.heap → YP w s₁.heap →
      s₁.heap.get? fa = some o → o.data = .func (docDef d.name d.params d.body d.scope pm cd doc) → s₁.heap.CodeRec cd d.name → mg d.name = some (.ref fa) →
      s₁.heap.get? a = some { cls := .type "list", data := .seq vs.toArray } → IntsAre vs ns → ns.length ≤ n → s₁.gens = #[] →
      codeAny (model l.prog w) callerA (.call (.ref fa) ⟨[.ref a], []⟩) (fun r s' => r = .ok (.ret (.bool true)) ∧ OldK s₁.heap s'.heap ∧ s'.os = s₁.os ∧ AllBare s'.gens) s₁) :
    WalkO q loose XP YP l.row.toRowW d [] (fun f vs => PySem.call f vs) := by
  intro w s₀ s₁ mg mb G Y fa o pm cd doc dV kV ho hd hcd hD hmg hg args vals as hpre hlay hrd hwl hlo
  obtain rfl : dV = .none := Dflts.none hD hdf
  obtain rfl : kV = .none := Dflts.noKw hD
  obtain ⟨a, vs, ns, rfl, rfl, hobj, hints, hlen⟩ := script_of hn hpre hwl
  refine enter_call (codeAny_mono (call w s₀ s₁ mg mb fa o pm cd doc a vs ns G Y ho (fd_plain hd) hcd hmg hobj hints hlen hg) fun r s' hq => ?_)
  obtain ⟨rfl, h2, h3, h4⟩ := hq
  exact ⟨.inl ⟨.bool true, .bool true, [], rfl, fun _ => rfl, .bool true, post_true l _, fun _ => ⟨List.Pairwise.nil, fun _ hm => (nomatch hm)⟩⟩, h2, h3, h4⟩
section
variable {prog : Program} {w : World} {A : Around} {E : Value → Shared → Prop} {s : Shared} {K : Frag}
def noObjs (h : Heap) : Heap := { h with objs := #[] }
def ledger (h : Heap) (L d : Addr) : List (Addr × Obj) := (List.range h.objs.size).filterMap fun a => if a = L ∨ a = d then none else (h.get? a).map fun o => (a, o)
end
end Att
namespace L2
open PySem PySem.Spec PyProof.Rows
theorem vals_ints : ∀ {vs : List Value} {ns : List Int}, IntsAre vs ns → Vals (ns.map V.int) vs
  | _, _, .nil => .nil
  | _, _, .cons n t h => .cons ⟨t, rfl⟩ (vals_ints h)
def Only (H : Hp) : Prop := ∀ b, H b = none ∨ ∃ o xs, H b = some (.frz o (.lst xs))
theorem law_call {P : Program} {w : World} {K : PySem.W.Frag} {mg mb : Str → Option Value} {CX : CXT} {k : Nat} {fa a : Addr} {fd : FuncData} {x : Str} {sp : Sp} {s₁ : Shared} {vs : List Value} {ns : List Int}
    (KX : K.In s₁.heap) (hns : s₁.heap.Ns mainGlobals mg) (hb : s₁.heap.Ns builtinsNs mb) (hbb : ∀ x : Str, x ≠ "__name__" → mb x = bootBuiltins x) (hlim : s₁.heap.NoLimit) (hg : s₁.gens = #[])
    (ha : s₁.heap.get? a = some { cls := .type "list", data := .seq vs.toArray }) (hi : IntsAre vs ns) (hl : ns.length ≤ sizeLine) (hr : Room k callerA)
    (F : ∀ base : Heap, K.In base → base.Ns mainGlobals mg → FnOk P w K mg base CX k fa fd [x] sp) (hbind : ∀ (s : Shared) (u : Value), BindsTo s fd ⟨[u], []⟩ [(x, u)])
    (hsp : ∀ H : Hp, Only H → SqL K H a (ns.map V.int) → sp [.ref a] H (fun v _ => v = .bl true) fun _ _ _ => False)
    (hCX : ∀ H e s', CX [] H s₁ (fun _ _ _ => False) e s' → False) :
    codeAny (model P w) callerA (.call (.ref fa) ⟨[.ref a], []⟩) (fun r s' => r = .ok (.ret (.bool true)) ∧ OldK s₁.heap s'.heap ∧ s'.os = s₁.os ∧ AllBare s'.gens) s₁ := by
  have rv := vals_ints hi
  have lenV := hi.length
  have core : ∀ H : Hp, Only H → SqL K H a (ns.map V.int) → HOk P w H s₁.heap → (∀ b, H b ≠ none → b = a) → (H a ≠ none → K.lookup a = none) →
      codeAny (model P w) callerA (.call (.ref fa) ⟨[.ref a], []⟩) (fun r s' => r = .ok (.ret (.bool true)) ∧ OldK s₁.heap s'.heap ∧ s'.os = s₁.os ∧ AllBare s'.gens) s₁ := by
    intro H hO hS hok hA hK
    have base_of : ∀ {b : Addr} {o : Obj}, s₁.heap.get? b = some o → H b = none → (hidT s₁.heap H).get? b = some o := fun e n => hidT_get e n
    have noA : ∀ {b : Addr} {o : Obj} {es : Array DictEntry} {ep : Nat}, s₁.heap.get? b = some o → o.data = .dict es ep → H b = none := fun {b o es ep} e d => by
      cases q : H b with
      | none => rfl
      | some u =>
        have e' : b = a := hA b (by rw [q]; simp)
        subst e'
        rw [ha] at e; cases e
        have d' : Data.seq vs.toArray _ = Data.dict es ep := d
        cases d'
    have nsK : ∀ {b : Addr} {m : Str → Option Value}, s₁.heap.Ns b m → (hidT s₁.heap H).Ns b m := fun {b m} ⟨o, es, ep, e, d, r⟩ => ⟨o, es, ep, base_of e (noA e d), d, r⟩
    have hKb : K.In (hidT s₁.heap H) := fun b o e => base_of (KX b o e) (by
      cases q : H b with
      | none => rfl
      | some u =>
        have e' : b = a := hA b (by rw [q]; simp)
        subst e'
        rw [hK (by rw [q]; simp)] at e; cases e)
    have hM : Mod K mg (hidT s₁.heap H) := ⟨hKb, nsK hns, ⟨mb, nsK hb, hbb⟩, let ⟨mc, h1, h2⟩ := hlim; ⟨mc, nsK h1, h2⟩⟩
    have e0 : Env0 P w K mg (hidT s₁.heap H) callerA [] s₁ H := ⟨rfl, hM, fun b o e => of_hidT e, Nat.le_of_eq (hidT_size _ _), trivial, fun b hb => absurd (show b ∈ ([] : List Addr) from hb) (by simp), hok, .of_eq hg⟩
    refine codeAny_mono ((F _ hKb (nsK hns)).run callerA [] s₁ H ⟨[.ref a], []⟩ [.ref a] [.ref a] _ _ hr e0 (hbind s₁ (.ref a)) (.cons rfl .nil) (hsp H hO hS)) fun r s' h => ?_
    cases r with
    | error e => exact (hCX H e s' h).elim
    | ok fl =>
      cases fl with
      | next => exact False.elim h
      | brk => exact False.elim h
      | cont => exact False.elim h
      | ret u =>
        obtain ⟨v, H', os, bare, un, hok', r', q⟩ := h
        have q' : v = .bl true := q
        subst q'
        obtain rfl : u = Value.bool true := r'
        refine ⟨rfl, OldK.of_keep fun b o e => ?_, os, bare⟩
        cases q : H b with
        | none => exact un.keep b o e q (by intro z; exact absurd (show b ∈ ([] : List Addr) from z) (by simp)) (by simp)
        | some u =>
          rcases hO b with z | ⟨ob, xs, z⟩
          · rw [q] at z; cases z
          · have z2 := un.frzs b ob _ z
            obtain ⟨e1, _⟩ := hok b _ z
            obtain ⟨e2, _⟩ := hok' b _ z2
            rw [e] at e1; cases e1
            exact e2
  cases hk : K.lookup a with
  | some o =>
    have e := KX a o hk
    rw [ha] at e
    cases e
    refine core (fun _ => none) (fun _ => .inl rfl) (.inr ⟨_, vs.toArray, _, hk, rfl, rfl, rfl, by rw [List.size_toArray, lenV]; exact hl, by simpa using rv⟩) (fun b u z => by have z' : (none : Option HO) = some u := z; cases z') (fun b z => absurd rfl z) fun z => absurd rfl z
  | none =>
    refine core (fun b => if b = a then some (.frz { cls := .type "list", data := .seq vs.toArray } (.lst (ns.map V.int))) else none) (fun b => ?_) (.inl (.inr ⟨{ cls := .type "list", data := .seq vs.toArray }, if_pos rfl⟩)) (fun b u z => ?_) (fun b z => ?_) fun _ => hk
    · by_cases hb : b = a
      · exact .inr ⟨_, _, if_pos hb⟩
      · exact .inl (if_neg hb)
    · by_cases hb : b = a
      · have z' := (if_pos hb).symm.trans z
        cases z'
        subst hb
        exact ⟨ha, by rw [List.length_map]; exact hl, vs, _, rv, ha⟩
      · have z' := (if_neg hb).symm.trans z
        cases z'
    · by_cases hb : b = a
      · exact hb
      · exact absurd (if_neg hb) z
end L2
namespace L2
open PySem PySem.Spec PyProof.Rows
abbrev KOf {K : PySem.W.Frag} {h : Heap} (_ : K.In h) : PySem.W.Frag := K
theorem walk_of {l : PySem.W.OpenLaw} {n k : Nat} {q : Program} {loose : List Str} {XP : (Str → Option Value) → Heap → Prop} {YP : World → Heap → Prop} {d : DefRec} {K : Params → PySem.W.Frag} {CX : World → CXT} {sp : World → Sp} {x : Str}
    (hn : l.most = some n) (hn2 : n ≤ sizeLine) (hdf : d.params.defaults = []) (hr : Room k callerA)
    (hY : ∀ (w : World) (h : Heap), YP w h → (K w.params).In h)
    (F : ∀ (w : World) (mg : Str → Option Value) (fa : Addr) (h : Heap), (K w.params).In h → h.Ns mainGlobals mg → mg d.name = some (.ref fa) →
      ∃ fd : FuncData, (∀ (s : Shared) (u : Value), BindsTo s fd ⟨[u], []⟩ [(x, u)]) ∧
        ∀ base : Heap, (K w.params).In base → base.Ns mainGlobals mg → FnOk l.prog w (K w.params) mg base (CX w) k fa fd [x] (sp w))
    (hsp : ∀ (w : World) (H : Hp) (a : Addr) (ns : List Int), ns.length ≤ n → Only H → SqL (K w.params) H a (ns.map V.int) → sp w [.ref a] H (fun v _ => v = .bl true) fun _ _ _ => False)
    (hCX : ∀ (w : World) (H : Hp) (s : Shared) (e : Value) (s' : Shared), CX w [] H s (fun _ _ _ => False) e s' → False) :
    PySem.W.WalkO q loose XP YP l.row.toRowW d [] (fun f vs => PySem.call f vs) := by
  refine Att.attach_call hn hdf fun w s₀ s₁ mg mb fa o pm cd doc a vs ns G Y ho hd hcd hmg hobj hints hlen hg => ?_
  have KX := hY w _ Y
  obtain ⟨fd, hb, hF⟩ := F w mg fa _ KX G.T.g hmg
  exact law_call KX G.T.g G.T.b G.T.builtins G.T.nolimit hg hobj hints (Nat.le_trans hlen hn2) hr hF hb (fun H hO hS => hsp w H a ns hlen hO hS) fun H e s' => hCX w H s₁ e s'
end L2
namespace L2
open PySem PySem.Spec PyProof.Rows
def inClass (s : Stmt) (j : Nat) : Stmt := match s with
  | .ClassDef _ _ _ body _ _ _ _ _ _ _ => body.getD j (.Pass ⟨0, 0, 0, 0⟩)
  | _ => .Pass ⟨0, 0, 0, 0⟩
def defArgs (s : Stmt) : Arguments := match s with
  | .FunctionDef _ a _ _ _ _ _ _ _ _ => a
  | _ => { posonlyargs := [], args := [], vararg := none, kwonlyargs := [], kw_defaults := [], kwarg := none, defaults := [] }
def defBody (s : Stmt) : List Stmt := match s with
  | .FunctionDef _ _ b _ _ _ _ _ _ _ => b
  | _ => []
def defScope (s : Stmt) : Scope := match s with
  | .FunctionDef _ _ _ _ _ _ sc _ _ _ => sc
  | _ => { kind := .function, names := [], isGenerator := false, isCoroutine := false }
abbrev CX0 : CXT := fun _ _ _ _ _ _ => False
abbrev E0 : XK := fun _ _ _ => False
theorem pass0 {X : Cx} : Passes CX0 X E0 := fun _ _ _ _ _ _ _ h => h.elim
structure Fun (K : PySem.W.Frag) (x qual : Str) (st : Stmt) (f : Addr) (fd : FuncData) : Prop where
  ex : ∃ (oc : Value) (od : Option Addr) (kV doc pm : Value) (an : Option Addr) (cdv ct : Value) (osl : Array (Option Value)),
    fd = PySem.W.fnOf x qual (defArgs st) (defBody st) (defScope st) .none kV doc pm an cdv ct ∧ K.lookup f = some ⟨oc, od, .func fd, osl⟩ ∧ PySem.W.codeIn K cdv qual = true
  kp : PySem.W.keepIn K (.ref f) = true
section
variable {P : Program} {w : World} {K : PySem.W.Frag} {mg : Str → Option Value} {base : Heap}
theorem Fun.ok {x qual : Str} {st : Stmt} {f : Addr} {fd : FuncData} {N ps : List Str} {k : Nat} {sp : Sp} (F : Fun K x qual st f fd) (S : FnScope N ps (defScope st)) (len : ∀ vs H Q E, sp vs H Q E → vs.length = ps.length)
    (hbody : ∀ (cdv : Value) (A : Around) (outer : List Env) (s : Shared) (H : Hp) (vs : List V) (Q : VK) (E : XK), Room k (A.deeper (envOfC qual (defScope st) s.heap.objs.size f cdv)) → sp vs H Q E →
      ∃ t, PSs (cxOf CX0 P w K mg base N qual (defScope st) f cdv A outer s H E).nox (defBody st) t ∧ t { nx := fun _ H' => Q .non H', rt := Q } (start N vs) H) : FnOk P w K mg base CX0 (k + 1) f fd ps sp := by
  obtain ⟨oc, od, kV, doc, pm, an, cdv, ct, osl, rfl, lk, hcd⟩ := F.ex
  refine fn_of lk hcd S len fun A outer s H vs Q E hr hsp => ?_
  obtain ⟨t, h, q⟩ := hbody cdv A outer s H vs Q E hr hsp
  exact ⟨t, h.nox, q⟩
theorem Fun.binds {x qual : Str} {st : Stmt} {f : Addr} {fd : FuncData} {ps : List Str} (F : Fun K x qual st f fd)
    (h : ∀ (kV doc pm : Value) (an : Option Addr) (cdv ct : Value) (us : List Value), us.length = ps.length → bindArgs (PySem.W.fnOf x qual (defArgs st) (defBody st) (defScope st) .none kV doc pm an cdv ct) ⟨us, []⟩ = pure (ps.zip us)) : Binds K fd ps [] := by
  obtain ⟨oc, od, kV, doc, pm, an, cdv, ct, osl, rfl, lk, hcd⟩ := F.ex
  exact .all (h kV doc pm an cdv ct)
theorem fun_mk {x qual : Str} {st : Stmt} {f : Addr} {oc : Value} {od an : Option Addr} {osl : Array (Option Value)} {kV doc pm cdv ct : Value} (l : K.lookup f = some ⟨oc, od, .func (PySem.W.fnOf x qual (defArgs st) (defBody st) (defScope st) .none kV doc pm an cdv ct), osl⟩)
    (c : PySem.W.codeIn K cdv qual = true) (k : PySem.W.keepIn K (.ref f) = true) : Fun K x qual st f (PySem.W.fnOf x qual (defArgs st) (defBody st) (defScope st) .none kV doc pm an cdv ct) := ⟨⟨oc, od, kV, doc, pm, an, cdv, ct, osl, rfl, l, c⟩, k⟩
end
theorem small1000 {n : Nat} (h : n ≤ 1000) : n < sizeLine := Nat.lt_of_le_of_lt h (by decide)
section
variable {X : Cx}
theorem pv (i : Nat) {x : Str} {pos : Pos} (hN : X.N[i]? = some x := by rfl) (hv : Vis X.env.scope x := by first | exact Or.inl rfl | exact Or.inr (Or.inl rfl) | exact Or.inr (Or.inr rfl)) (hd : (x == ("__debug__" : Str)) = false := by decide)
    (hcd : (x == ("__classdict__" : Str)) = false := by decide) : PE X (.Name x pos) (tVar i) := pe_var hN hv hd hcd
end
theorem iteF {A B : Prop} (h : B) : if false = true then A else B := by
  rw [if_neg Bool.false_ne_true]
  exact h
theorem iteT {A B : Prop} (h : A) : if true = true then A else B := by
  rw [if_pos rfl]
  exact h
theorem ite2 {c A B : Prop} [Decidable c] (h1 : c → A) (h2 : ¬ c → B) : if c then A else B := by
  by_cases h : c
  · rw [if_pos h]
    exact h1 h
  · rw [if_neg h]
    exact h2 h
def Same (H H' : Hp) : Prop := ∀ b o, H b = some o → H' b = some o
theorem Same.refl (H : Hp) : Same H H := fun _ _ h => h
theorem Same.trans {H H1 H2 : Hp} (a : Same H H1) (b : Same H1 H2) : Same H H2 := fun c o h => b c o (a c o h)
theorem Same.free {H H' : Hp} (e : Same H H') {l : Addr} (h : H' l = Option.none) : H l = Option.none := by
  cases q : H l with
  | none => rfl
  | some o =>
    rw [e l o q] at h
    cases h
theorem Same.seq {K : PySem.W.Frag} {H H' : Hp} {a : Addr} {xs : List V} (e : Same H H') (h : SqL K H a xs) : SqL K H' a xs := by
  rcases h with (h | ⟨o, h⟩) | h
  · exact .inl (.inl (e _ _ h))
  · exact .inl (.inr ⟨o, e _ _ h⟩)
  · exact .inr h
section
variable {κ : Type} [DecidableEq κ]
end
theorem at_of {xs : List V} {z : Int} {j : Nat} {v : V} (e : z = (j : Int)) (h : xs[j]? = some v) : atI xs z = some v := by
  rw [e]
  exact atI_nat h
theorem Same.made {H H1 : Hp} {x dx C : Addr} (nx : H x = Option.none) (nd : H dx = Option.none) (k : ∀ b o, (upd (upd H dx (.own x)) x (.ins C dx [])) b = some o → b ≠ x → H1 b = some o) : Same H H1 := fun b o e =>
  k b o (by rw [upd_ne (ne_of_none e nx), upd_ne (ne_of_none e nd)]; exact e) (ne_of_none e nx)
end L2
set_option Elab.async false
set_option linter.all false
set_option maxRecDepth 100000
set_option maxHeartbeats 4000000
namespace L2
open PySem PySem.Spec PyProof.Rows
section
variable {prog : Program} {w : World} {A : Around} {E : Value → Shared → Prop} {s : Shared}
theorem nextTup_item {it l : Addr} {i : Nat} {items : Array Value} {x : Value} {Q : Value → Shared → Prop} (hit : s.heap.IsTupleIter it l i) (hl : s.heap.IsTuple l items) (hx : items[i]? = some x)
    (hQ : ∀ h', h'.IsTupleIter it l (i + 1) → Heap.SameBut it s.heap h' → Q x { s with heap := h' }) : wpAny (model prog w) A (Builtin.SmallTypes.nextOf (.ref it)) Q E s := by
  obtain ⟨o, ho, hc, hd⟩ := id hit
  obtain ⟨ol, hol, _, nl, hdl⟩ := hl
  unfold Builtin.SmallTypes.nextOf
  refine wpAny_bind (wpAny_callSpecial?_slot (name := Str.ofString "__next__") hit.typeIs F.slot_tuple_iterator_next (wpAny_call_entry F.slot_tuple_iterator_next hit.typeIs F.entry_tuple_iterator_next ?_ (F.args_tuple_iterator_next_1 _)))
  show wpAny _ _ (field (.ref it) 0 >>= _) _ _ s
  refine wpAny_bind (wpAny_field ho hd (x := .ref l) rfl ?_)
  show wpAny _ _ (if (Value.ref l == Value.none) = true then _ else _) _ _ s
  rw [if_neg (show ¬ ((Value.ref l == Value.none) = true) from Bool.false_ne_true)]
  show wpAny _ _ (field (.ref it) 1 >>= _) _ _ s
  refine wpAny_bind (wpAny_field ho hd (x := .int i 0) rfl ?_)
  show wpAny _ _ (seqItems? (.ref l) >>= _) _ _ s
  refine wpAny_bind (wpAny_seqItems hol hdl ?_)
  simp only [Int.toNat_natCast, hx]
  refine wpAny_bind (wpAny_setField ho hd (by simp) (wpAny_pure ⟨x, rfl, wpAny_pure (hQ _ ?_ (Heap.SameBut.update ..))⟩))
  exact ⟨_, Heap.get?_update_self _ ho (Obj.isFreed_of_fields (Obj.data_mapFields hd _)), (Obj.cls_mapFields ..).trans hc, by rw [Obj.data_mapFields hd]; simp [rawInt]⟩
theorem nextTup_end {it l : Addr} {i : Nat} {items : Array Value} {Q : Value → Shared → Prop} (hh : A.handled = none) (hit : s.heap.IsTupleIter it l i) (hl : s.heap.IsTuple l items) (hx : items[i]? = none)
    (hE : ∀ h' e, Heap.ExtBut it s.heap h' → (∃ o, h'.get? e = some o ∧ o.cls = .type "StopIteration") → E (.ref e) { s with heap := h' }) : wpAny (model prog w) A (Builtin.SmallTypes.nextOf (.ref it)) Q E s := by
  obtain ⟨o, ho, hc, hd⟩ := id hit
  obtain ⟨ol, hol, _, nl, hdl⟩ := hl
  unfold Builtin.SmallTypes.nextOf
  refine wpAny_bind (wpAny_callSpecial?_slot (name := Str.ofString "__next__") hit.typeIs F.slot_tuple_iterator_next (wpAny_call_entry F.slot_tuple_iterator_next hit.typeIs F.entry_tuple_iterator_next ?_ (F.args_tuple_iterator_next_1 _)))
  show wpAny _ _ (field (.ref it) 0 >>= _) _ _ s
  refine wpAny_bind (wpAny_field ho hd (x := .ref l) rfl ?_)
  show wpAny _ _ (if (Value.ref l == Value.none) = true then _ else _) _ _ s
  rw [if_neg (show ¬ ((Value.ref l == Value.none) = true) from Bool.false_ne_true)]
  show wpAny _ _ (field (.ref it) 1 >>= _) _ _ s
  refine wpAny_bind (wpAny_field ho hd (x := .int i 0) rfl ?_)
  show wpAny _ _ (seqItems? (.ref l) >>= _) _ _ s
  refine wpAny_bind (wpAny_seqItems hol hdl ?_)
  simp only [Int.toNat_natCast, hx]
  refine wpAny_bind (wpAny_rule (wpAny_bind (wpAny_setField ho hd (by simp) ?_)))
  show wpAny _ _ (newExc (.type "StopIteration") [] >>= _) _ _ _
  refine wpAny_bind ?_
  simp only [newExc, newTuple]
  refine wpAny_bind (wpAny_newObj_type ?_ (by size_fits))
  refine wpAny_bind (m := firstArgMember _ _) (wpAny_of_eq (a := Value.none) (by first | rfl | (simp only [firstArgMember]; rfl)) ?_)
  refine wpAny_newObj_type ?_ (by size_fits)
  simp only [raiseNew]
  refine wpAny_bind (wpAny_handled ?_)
  first | rw [show A.in1.handled = none from hh] | rw [hh]
  refine wpAny_bind (wpAny_pure (wpAny_throw ?_))
  exact hE _ _ (((Heap.SameBut.update ..).extBut.push _).push _) ⟨_, Heap.get?_push_size _ rfl, rfl⟩
end
theorem drawsTup {prog : Program} {w : World} {A : Around} (hh : A.handled = none) (it l : Addr) (hne : l ≠ it) (items : Array Value) :
    Draws prog w A it [it, l] items.size (fun i v => items[i]? = some v) (fun i h => h.IsTupleIter it l i ∧ h.IsTuple l items) where
  live := fun _ _ st => let ⟨o, ho, _⟩ := st.1; ⟨o, ho⟩
  frame := fun _ _ _ st hk => ⟨let ⟨o, ho, r⟩ := st.1; ⟨o, hk it (by simp) o ho, r⟩, let ⟨o, ho, r⟩ := st.2; ⟨o, hk l (by simp) o ho, r⟩⟩
  item := fun i s Q E hi st hQ => by
    refine nextTup_item st.1 st.2 (x := items[i]) (by simp [hi]) fun h' hit' hs' => ?_
    exact hQ _ h' s.toks (by simp [hi]) ⟨hit', st.2.extBut hs'.extBut hne⟩ hs'
  done := fun s Q E st hE => nextTup_end hh st.1 st.2 (by simp) hE
theorem meetsEnumT (l : Addr) (items : Array Value) (n : Nat) (dct : Option Addr) (sl : Array (Option Value)) :
    Meets (Builtin.«enumerate.__new__» ⟨[.type "enumerate", .ref l], []⟩) (fun _ R s => s.heap.get? l = some { cls := .type "tuple", dict := dct, data := .seq items n, slots := sl } ∧
      R (.ok (.ret (.ref (s.heap.push { cls := .type "tuple_iterator", data := .fields #[.ref l, .int 0 0] }).objs.size)))
        { s with heap := (s.heap.push { cls := .type "tuple_iterator", data := .fields #[.ref l, .int 0 0] }).push { cls := .type "enumerate", data := .fields #[.none, .bool false, .ref s.heap.objs.size, rawInt 0, .none, .none] } }) :=
  .of_wp fun prog w A R s h => by
    obtain ⟨hp, g, d, tk, os⟩ := s; obtain ⟨hl, h⟩ := h
    have hsub := sub_enumerate
    have hL : Heap.IsTuple (Shared.heap ⟨hp, g, d, tk, os⟩) l items := ⟨_, hl, rfl, n, rfl⟩
    wp_walk using AutoSeq1.wpAny_loadPart' hl
    refine wpAny_stack_any fun st => wpAny_pure ?_
    split
    · rename_i c _ _ _ _ _
      cases (c == Value.type "enumerate")
      · wp_walk using AutoSeq1.wpAny_loadPart' hl, wpAny_pyIter_tuple hL
        exact ⟨_, rfl, h⟩
      · wp_walk using AutoSeq1.wpAny_loadPart' hl, wpAny_pyIter_tuple hL
        exact ⟨_, rfl, h⟩
    · wp_walk using AutoSeq1.wpAny_loadPart' hl, wpAny_pyIter_tuple hL
      exact ⟨_, rfl, h⟩
section
variable {prog : Program} {w : World} {A : Around} {E : Value → Shared → Prop} {s : Shared}
theorem callEnumT {l : Addr} {items : Array Value} {Q : Value → Shared → Prop} (hL : s.heap.IsTuple l items)
    (h : ∀ h', IsEnum h' (s.heap.objs.size + 1) s.heap.objs.size 0 .none → h'.IsTupleIter s.heap.objs.size l 0 → h'.objs.size = s.heap.objs.size + 2 →
      (∀ b o, s.heap.get? b = some o → h'.get? b = some o) → Q (.ref (s.heap.objs.size + 1)) { s with heap := h' }) :
    wpAny (model prog w) A (call (.type "enumerate") [.ref l]) Q E s := by
  obtain ⟨⟨c, dct, dt, sl⟩, hl, hc, n, hd⟩ := hL
  replace hc : c = .type "tuple" := hc
  replace hd : dt = .seq items n := hd
  subst hc hd
  refine callType_new F.called_enumerate (by decide) (F.typeCall_enumerate_1 _) (F.newCall_enumerate_1 _) (fun obj => F.args_object_init_2 obj _) F.entry_enumerate_new (meetsEnumT l items n dct sl) ⟨hl, ?_⟩
  have hz : (s.heap.push { cls := .type "tuple_iterator", data := .fields #[.ref l, .int 0 0] }).objs.size = s.heap.objs.size + 1 := Heap.size_push ..
  show _ ∧ _
  rw [hz]
  have he : IsEnum ((s.heap.push { cls := .type "tuple_iterator", data := .fields #[.ref l, .int 0 0] }).push
      { cls := .type "enumerate", data := .fields #[.none, .bool false, .ref s.heap.objs.size, rawInt 0, .none, .none] }) (s.heap.objs.size + 1) s.heap.objs.size 0 .none := by
    have := Heap.get?_push_size (s.heap.push { cls := .type "tuple_iterator", data := .fields #[.ref l, .int 0 0] })
      (o := { cls := .type "enumerate", data := .fields #[.none, .bool false, .ref s.heap.objs.size, rawInt 0, .none, .none] }) rfl
    rw [hz] at this; exact this
  refine ⟨⟨_, he, rfl⟩, h _ he ⟨_, Heap.get?_push_of_some _ (Heap.get?_push_size _ rfl), rfl, rfl⟩ (by rw [Heap.size_push, hz]) fun b o x => Heap.get?_push_of_some _ (Heap.get?_push_of_some _ x)⟩
end
def IteT (K : PySem.W.Frag) (a : Addr) : It :=
  ⟨fun i H => ∃ (xs : List V) (x : V), SqT K H a xs ∧ xs[i]? = some x, fun i H v H' => ∃ T x, v = .ref T ∧ H T = none ∧ H' = upd H T (.tup [.int (i : Nat), x]) ∧ ∀ xs, SqT K H a xs → xs[i]? = some x, fun i H => ∃ xs : List V, SqT K H a xs ∧ xs.length = i⟩
theorem turn_enumT {P : Program} {w : World} {K : PySem.W.Frag} {elts : List Expr} {kk : Nat} {tpos : Pos} (a e it : Addr) :
    Turn P w K (.Tuple elts kk tpos) (IteT K a) [e, it] e (fun i h => (∃ old, IsEnum h e it ((i : Nat) : Int) old) ∧ h.IsTupleIter it a i ∧ e ≠ it) where
  mem := by simp
  obj := fun i h st b hb => by
    obtain ⟨⟨old, he⟩, ⟨o, ho, hc, hd⟩, _⟩ := st
    have e' : b = e ∨ b = it := by simpa using hb
    rcases e' with z | z
    · rw [z]; exact ⟨_, he, fun v q => nomatch q⟩
    · rw [z]; exact ⟨o, ho, fun v q => by rw [hd] at q; cases q⟩
  keep := fun i h h' st k => let ⟨⟨old, he⟩, ⟨o, ho, r⟩, hne⟩ := st; ⟨⟨old, k e (by simp) _ he⟩, ⟨o, k it (by simp) o ho, r⟩, hne⟩
  item := by
    intro X hP hw hK hc i pins s σ H E I hf st hg
    subst hP hw hK
    obtain ⟨⟨old, he⟩, hit, hne⟩ := st
    obtain ⟨xs, x, hq, hx⟩ := hg
    obtain ⟨its, rv, p, hz⟩ := I.tuple hq
    obtain ⟨u, hu, ru⟩ := rv.get hx
    have p' : s.heap.IsTuple a its.toArray := p
    have hel : e < s.heap.objs.size := Heap.lt_size he
    have hil : it < s.heap.objs.size := by obtain ⟨_, q, _⟩ := hit; exact Heap.lt_size q
    have hai : a ≠ it := by
      rintro rfl
      obtain ⟨o1, q1, c1, _⟩ := p'
      obtain ⟨o2, q2, c2, _⟩ := hit
      rw [q1] at q2; cases q2; rw [c1] at c2; injection c2 with z; exact absurd z (by decide)
    have hea : e ≠ a := by
      rintro rfl
      obtain ⟨o1, q1, c1, _⟩ := p'
      rw [he] at q1; cases q1; injection c1 with z; exact absurd z (by decide)
    have hlt : i < its.toArray.size := by
      have := (List.getElem?_eq_some_iff.mp hu).1
      simpa using this
    refine wpAny_pyNext_enum_itemD (drawsTup (A := X.A.in1) (I.ok.hd hc) it a hai its.toArray) he ⟨hit, p'⟩ hlt hne (by simp [hne, hea]) fun u' h' tk hP ho hst' hT hsz hk => ?_
    have hit' := hst'.1
    have eu : u' = u := by
      have q : its.toArray[i]? = some u' := hP
      have q2 : its.toArray[i]? = some u := by simpa using hu
      rw [q2] at q; exact (Option.some.inj q).symm
    subst eu
    refine ⟨_, rfl, wpAny_letOwnedTupleGo_enum (s := { s with heap := h', toks := tk + 1 }) ho fun h'' he' sb => ?_⟩
    have hT2 : h''.get? s.heap.objs.size = some { cls := .type "tuple", data := .seq #[.int i tk, u'] } := (sb.2 _ (Nat.ne_of_gt hel)).trans hT
    have new : ObjOk X.prog X.w (upd H s.heap.objs.size (.tup [.int (i : Nat), x])) h'' s.heap.objs.size (.tup [.int (i : Nat), x]) :=
      ⟨by show 2 ≤ sizeLine; decide, [.int i tk, u'], .cons ⟨_, rfl⟩ (.cons ru .nil), ⟨_, hT2, rfl, rfl, _, rfl⟩⟩
    have I1 : Inv X pins σ (upd H s.heap.objs.size (.tup [.int (i : Nat), x])) { s with heap := h'', toks := tk + 1 } :=
      I.turnedNew (ch := [e, it]) (fun b ob hb q => (sb.2 b (fun z => hb (by simp [z]))).trans (hk b ob (fun z => hb (by simp [z])) (fun z => hb (by simp [z])) q)) hf (Nat.le_refl _) new
    refine ⟨.ref s.heap.objs.size, _, I1, rfl, ⟨_, x, rfl, I.hok.fresh (Nat.le_refl _), rfl, fun ys hy => by rw [I.tuple_inj hy hq]; exact hx⟩, ⟨⟨u', ?_⟩, ?_, hne⟩, fun b hb => ?_⟩
    · have e1 : ((i + 1 : Nat) : Int) = (i : Int) + 1 := by omega
      rw [e1]; exact he'
    · obtain ⟨o, ho, r⟩ := hit'
      exact ⟨o, (sb.2 it (Ne.symm hne)).trans ho, r⟩
    · have hb' : b < s.heap.objs.size := by
        have e' : b = e ∨ b = it := by simpa using hb
        rcases e' with z | z
        · rw [z]; exact hel
        · rw [z]; exact hil
      rw [upd_ne (Nat.ne_of_lt hb')]
      exact (hf b hb).1
  done := by
    intro X hP hw hK hc i pins s σ H E I hf st hg
    subst hP hw hK
    obtain ⟨⟨old, he⟩, hit, hne⟩ := st
    obtain ⟨xs, hq, hx⟩ := hg
    obtain ⟨its, rv, p, hz⟩ := I.tuple hq
    have p' : s.heap.IsTuple a its.toArray := p
    obtain ⟨f0, f1, f2, f3, f4, f5⟩ := hf it (by simp)
    have hl := rv.length
    have hai : a ≠ it := by
      rintro rfl
      obtain ⟨o1, q1, c1, _⟩ := p'
      obtain ⟨o2, q2, c2, _⟩ := hit
      rw [q1] at q2; cases q2; rw [c1] at c2; injection c2 with z; exact absurd z (by decide)
    have ei : i = its.toArray.size := by rw [List.size_toArray]; omega
    subst ei
    exact wpAny_pyNext_enum_endD (drawsTup (A := X.A.in1) (I.ok.hd hc) it a hai its.toArray) he ⟨hit, p'⟩ fun h' eb => ⟨rfl, I.turned (t' := s.toks) (fun b o hb q => eb b o hb q) f0 f1 f3 f4 f5⟩
  self := fun A i s Q E st h => let ⟨⟨_, he⟩, _⟩ := st; wpAny_pyIter_enum he h
def iEnumT (K : PySem.W.Frag) (ta : TA) : TI := fun σ H R => ta σ H fun vs H1 => ∃ a xs, vs = [.ref a] ∧ SqT K H1 a xs ∧ R (IteT K a) H1
theorem pi_enumT {X : Cx} {e : Expr} {ta : TA} {p pos tpos : Pos} {elts : List Expr} {kk : Nat} (hg : Gl X "enumerate") (hm : X.mg "enumerate" = none) (ha : PA X [e] ta) (hs : starEach [e] X.env = [(false, eval e X.env)] := by rfl) :
    PI X (.Tuple elts kk tpos) (.Call (.Name "enumerate" p) [e] [] pos) (iEnumT X.K ta) := by
  intro pins s σ H R I h
  refine Call_ (ld_blt I hg hm boot_enumerate (PyProof.Rows.callWith_type1 (thn (ha pos pins s σ H _ I h) fun us s1 ⟨vs, H1, I1, r1, q1⟩ => ?_) hs rfl))
  obtain ⟨a, xs, ex, hq, q⟩ := q1
  subst ex
  cases r1 with
  | cons r rr =>
    cases rr
    cases r
    obtain ⟨its, rv, p', hz⟩ := I1.tuple hq
    refine callEnumT (show s1.heap.IsTuple a its.toArray from p') fun h' he hit hsz hk => wpAny_pyIter_enum he ?_
    have I2 : Inv X pins σ H1 { s1 with heap := h' } := I1.kept (t' := s1.toks) hk
    refine ⟨s1.heap.objs.size + 1, [s1.heap.objs.size + 1, s1.heap.objs.size], _, _, H1, rfl, I2, turn_enumT a (s1.heap.objs.size + 1) s1.heap.objs.size, ⟨⟨.none, he⟩, hit, Nat.succ_ne_self _⟩, fun b hb => ?_, q⟩
    have e' : b = s1.heap.objs.size + 1 ∨ b = s1.heap.objs.size := by simpa using hb
    have hle : s1.heap.objs.size ≤ b := by
      rcases e' with z | z
      · rw [z]; exact Nat.le_add_right _ _
      · rw [z]; exact Nat.le_refl _
    exact I1.fpOk hle (I1.hok.fresh hle)
def rRepr (K : PySem.W.Frag) : List V → Hp → VK → Prop := fun vs H Q => ∃ a d, vs = [.ref a] ∧ Dp K H (.ref a) d ∧ d.showable = true ∧ d.hasDict = false ∧ d.depth ≤ 60 ∧ d.shown.length ≤ sizeLine ∧ Q (.str d.shown) H
theorem cr_repr {X : Cx} {k : Nat} (hr : Room k X.A) : CallR X (.builtin "repr") (rRepr X.K) := by
  intro pins s σ H vs us Q I r h
  obtain ⟨a, d, rfl, hd, hs, hnd, hdp, hz, q⟩ := h
  obtain ⟨u, rfl, ru⟩ := Vals.one r
  obtain ⟨as, rd⟩ := Dp.reads I d _ _ hd ru
  cases ru
  have hu := hr.un
  refine repr_of_reads' rd hs (fun z => by rw [hnd] at z; cases z) hr.gd (by omega) (fun _ _ e => e) (fun h' u tk hk => ?_) hz
  exact ⟨.str d.shown, H, I.kept hk, ⟨u, rfl⟩, q⟩
def rIsi (K : PySem.W.Frag) (T : String) (b : Bool) : List V → Hp → VK → Prop := fun vs H Q => ∃ x t, vs = [x, .ty T] ∧ TyOf K H x t ∧ PySem.W.kitOne K t (.type T) = some b ∧ Q (.bl b) H
theorem cr_isi {X : Cx} {T : String} {b : Bool} : CallR X (.builtin "isinstance") (rIsi X.K T b) := by
  intro pins s σ H vs us Q I r h
  obtain ⟨x, t, rfl, ty, e, q⟩ := h
  obtain ⟨u, v, rfl, ru, rv⟩ := Vals.two r
  cases (show v = Value.type T from rv)
  exact isinst_ok I ru ty e fun tk => ⟨.bl b, H, I.tok tk, rfl, q⟩
def rInsert : V → List V → Hp → VK → Prop := fun x vs H Q => ∃ l xs i y, x = .ref l ∧ vs = [.int i, y] ∧ H l = some (.lst xs) ∧ 0 ≤ i ∧ i.toNat ≤ xs.length ∧ xs.length < 1000 ∧ Q .non (upd H l (.lst (xs.take i.toNat ++ y :: xs.drop i.toNat)))
end L2
set_option Elab.async false
set_option linter.all false
set_option maxRecDepth 100000
set_option maxHeartbeats 4000000
namespace L2
open PySem PySem.Spec PyProof.Rows
section
variable {X : Cx} {pins : List (Addr × Obj)} {σ : St} {H : Hp} {s : Shared} {a : Addr} {y v : V} {u r : Value} {A : Around} {E : Value → Shared → Prop}
end
section
variable {X : Cx}
def tDc (wi : TI) (g : TG) (tt : TT) (tk tv : TE) (vs : List Nat) : TE := fun σ H Q => wi σ H fun J H1 => ∀ D, H1 D = none → ∃ W : Nat → Nat → Hp → Prop, (∃ m, W 0 m (upd H1 D (.dT []))) ∧ ∀ i m H, W i m H →
  (J.stop i H ∧ Q (.ref D) H) ∨ (J.go i H ∧ ∃ Nx : Hp → Prop, (∀ H', Nx H' → ∃ m', m' < m ∧ W (i + 1) m' H') ∧ ∀ x H', J.yld i H x H' → g x (wipe σ vs) H' fun σ2 H2 => wipe σ2 vs = wipe σ vs ∧ tt σ2 H2 fun b H3 =>
    if b = true then tk σ2 H3 fun kx H4 => tv σ2 H4 fun y H5 => ∃ H6, DPut H5 D kx y H6 ∧ Nx H6 else Nx H3)
end
end L2
set_option Elab.async false
set_option linter.all false
set_option maxRecDepth 100000
set_option maxHeartbeats 4000000
namespace Far
open PySem L2
def But (f : Addr) (H H' : Hp) : Prop := ∀ b o, H b = some o → b ≠ f → H' b = some o
theorem But.trans {f : Addr} {H H1 H2 : Hp} (a : But f H H1) (b : But f H1 H2) : But f H H2 := fun c o h n => b c o (a c o h n) n
theorem But.refl (f : Addr) (H : Hp) : But f H H := fun _ _ h _ => h
theorem But.of {f : Addr} {H H' : Hp} (s : Same H H') : But f H H' := fun b o h _ => s b o h
theorem But.put (f : Addr) (H : Hp) (o : HO) : But f H (upd H f o) := fun b u h n => by rw [upd_ne n]; exact h
theorem same_new {H : Hp} {p : Addr} (h : H p = none) (o : HO) : Same H (upd H p o) := fun b u q => by rw [upd_ne (ne_of_none q h)]; exact q
theorem But.free {f : Addr} {H H' : Hp} (e : But f H H') {l : Addr} (n : l ≠ f) (h : H' l = none) : H l = none := by
  cases q : H l with
  | none => rfl
  | some o => rw [e l o q n] at h; cases h
def Two (H : Hp) (f : Addr) : Prop := ∃ a b : Int, H f = some (.lst [.int a, .int b])
theorem Two.same {H H' : Hp} {f : Addr} (s : Same H H') (t : Two H f) : Two H' f := let ⟨a, b, h⟩ := t; ⟨a, b, s _ _ h⟩
theorem Two.ne {H : Hp} {f p : Addr} (t : Two H f) (h : H p = none) : f ≠ p := let ⟨_, _, e⟩ := t; ne_of_none e h
def KT (K : PySem.W.Frag) (H H' : Hp) : Prop := ∀ b xs, SqT K H b xs → SqT K H' b xs
theorem KT.refl {K : PySem.W.Frag} (H : Hp) : KT K H H := fun _ _ h => h
theorem KT.trans {K : PySem.W.Frag} {H H1 H2 : Hp} (a : KT K H H1) (b : KT K H1 H2) : KT K H H2 := fun c xs h => b c xs (a c xs h)
theorem KT.same {K : PySem.W.Frag} {H H' : Hp} (s : Same H H') : KT K H H' := fun b xs h => by
  rcases h with (h | ⟨o, h⟩) | h
  · exact .inl (.inl (s _ _ h))
  · exact .inl (.inr ⟨o, s _ _ h⟩)
  · exact .inr h
theorem KT.but {K : PySem.W.Frag} {f : Addr} {H H' : Hp} {ys : List V} (s : But f H H') (hf : H f = some (.lst ys)) : KT K H H' := fun b xs h => by
  rcases h with (h | ⟨o, h⟩) | h
  · exact .inl (.inl (s _ _ h (by rintro rfl; rw [hf] at h; cases h)))
  · exact .inl (.inr ⟨o, s _ _ h (by rintro rfl; rw [hf] at h; cases h)⟩)
  · exact .inr h
theorem KT.two {K : PySem.W.Frag} {f : Addr} {H H' : Hp} (s : But f H H') (t : Two H f) : KT K H H' := let ⟨_, _, e⟩ := t; KT.but s e
theorem pget {α β : Type} {F : α → β → Prop} : ∀ {xs : List α} {ys : List β} {i : Nat} {y : β}, Paired F xs ys → ys[i]? = some y → ∃ x, xs[i]? = some x ∧ F x y
  | _, _, _, _, .nil, e => by simp at e
  | _, _, 0, _, .cons r _, e => by simp at e; subst e; exact ⟨_, rfl, r⟩
  | _, _, i + 1, y, .cons _ t, e => by
    obtain ⟨u, h1, h2⟩ := pget (i := i) (y := y) t (by simpa using e)
    exact ⟨u, by simpa using h1, h2⟩
theorem pgetL {α β : Type} {F : α → β → Prop} : ∀ {xs : List α} {ys : List β} {i : Nat} {x : α}, Paired F xs ys → xs[i]? = some x → ∃ y, ys[i]? = some y ∧ F x y
  | _, _, _, _, .nil, e => by simp at e
  | _, _, 0, _, .cons r _, e => by simp at e; subst e; exact ⟨_, rfl, r⟩
  | _, _, i + 1, y, .cons _ t, e => by
    obtain ⟨u, h1, h2⟩ := pgetL (i := i) (x := y) t (by simpa using e)
    exact ⟨u, by simpa using h1, h2⟩
theorem pset {α β : Type} {F : α → β → Prop} {x : α} {y : β} (r : F x y) : ∀ {xs : List α} {ys : List β} (i : Nat), Paired F xs ys → Paired F (xs.set i x) (ys.set i y)
  | _, _, _, .nil => .nil
  | _, _, 0, .cons _ t => .cons r t
  | _, _, i + 1, .cons q t => .cons q (pset r i t)
theorem papp {α β : Type} {F : α → β → Prop} : ∀ {xs xs' : List α} {ys ys' : List β}, Paired F xs ys → Paired F xs' ys' → Paired F (xs ++ xs') (ys ++ ys')
  | _, _, _, _, .nil, s => s
  | _, _, _, _, .cons r t, s => .cons r (papp t s)
theorem ptake {α β : Type} {F : α → β → Prop} : ∀ {xs : List α} {ys : List β} (n : Nat), Paired F xs ys → Paired F (xs.take n) (ys.take n)
  | _, _, 0, _ => .nil
  | _, _, _ + 1, .nil => .nil
  | _, _, n + 1, .cons r t => .cons r (ptake n t)
theorem pdrop {α β : Type} {F : α → β → Prop} : ∀ {xs : List α} {ys : List β} (n : Nat), Paired F xs ys → Paired F (xs.drop n) (ys.drop n)
  | _, _, 0, r => r
  | _, _, _ + 1, .nil => .nil
  | _, _, n + 1, .cons _ t => pdrop n t
theorem plen {α β : Type} {F : α → β → Prop} {xs : List α} {ys : List β} (r : Paired F xs ys) : xs.length = ys.length := Paired.length r
inductive Stp where
  | doo | wai | snd (k : Nat)
def stpV : Stp → List V
  | .doo => [.str "do"]
  | .wai => [.str "wait"]
  | .snd k => [.str "send", .int (k : Nat)]
abbrev Job := List (Int × List Stp)
def kid : Stp → Option Nat
  | .snd k => some k
  | _ => none
def kids (l : List Stp) : List Nat := l.filterMap kid
def IsStp (K : PySem.W.Frag) (H : Hp) (v : V) (s : Stp) : Prop := ∃ a, v = .ref a ∧ SqT K H a (stpV s)
def IsSts (K : PySem.W.Frag) (H : Hp) (v : V) (l : List Stp) : Prop := ∃ a xs, v = .ref a ∧ SqT K H a xs ∧ Paired (IsStp K H) xs l
def IsWk (K : PySem.W.Frag) (H : Hp) (v : V) (w : Int × List Stp) : Prop := ∃ a x, v = .ref a ∧ SqT K H a [.int w.1, x] ∧ IsSts K H x w.2
def IsJob (K : PySem.W.Frag) (H : Hp) (v : V) (J : Job) : Prop := ∃ a xs, v = .ref a ∧ SqT K H a xs ∧ Paired (IsWk K H) xs J
theorem IsStp.kt {K : PySem.W.Frag} {H H' : Hp} (k : KT K H H') {v : V} {s : Stp} (h : IsStp K H v s) : IsStp K H' v s := let ⟨a, e, q⟩ := h; ⟨a, e, k _ _ q⟩
theorem pstp {K : PySem.W.Frag} {H H' : Hp} (k : KT K H H') {xs : List V} {l : List Stp} (r : Paired (IsStp K H) xs l) : Paired (IsStp K H') xs l := Paired.mapP r fun _ _ h => IsStp.kt k h
theorem IsSts.kt {K : PySem.W.Frag} {H H' : Hp} (k : KT K H H') {v : V} {s : List Stp} (h : IsSts K H v s) : IsSts K H' v s := let ⟨a, xs, e, q, r⟩ := h; ⟨a, xs, e, k _ _ q, pstp k r⟩
theorem IsWk.kt {K : PySem.W.Frag} {H H' : Hp} (k : KT K H H') {v : V} {s : Int × List Stp} (h : IsWk K H v s) : IsWk K H' v s := let ⟨a, x, e, q, r⟩ := h; ⟨a, x, e, k _ _ q, r.kt k⟩
theorem pwk {K : PySem.W.Frag} {H H' : Hp} (k : KT K H H') {xs : List V} {l : Job} (r : Paired (IsWk K H) xs l) : Paired (IsWk K H') xs l := Paired.mapP r fun _ _ h => IsWk.kt k h
theorem IsJob.kt {K : PySem.W.Frag} {H H' : Hp} (k : KT K H H') {v : V} {J : Job} (h : IsJob K H v J) : IsJob K H' v J := let ⟨a, xs, e, q, r⟩ := h; ⟨a, xs, e, k _ _ q, pwk k r⟩
structure JobOk (most : Nat) (J : Job) : Prop where
  pos : 1 ≤ J.length
  len : J.length ≤ most
  room : ∀ w ∈ J, 1 ≤ w.1 ∧ w.1 ≤ 9
  sts : ∀ w ∈ J, 1 ≤ w.2.length ∧ w.2.length ≤ 8
  up : ∀ i w, J[i]? = some w → ∀ k ∈ kids w.2, i < k ∧ k < J.length
  once : (J.flatMap fun w => kids w.2).Perm (List.range' 1 (J.length - 1))
theorem at_int {α : Type} {xs : List α} {i : Int} (h0 : 0 ≤ i) (h1 : i < xs.length) : ∃ v, xs[i.toNat]? = some v ∧ atI xs i = some v := by
  have hk : i.toNat < xs.length := by omega
  refine ⟨xs[i.toNat], List.getElem?_eq_getElem hk, ?_⟩
  have := atI_nat (List.getElem?_eq_getElem hk)
  rwa [Int.toNat_of_nonneg h0] at this
theorem ix_int {n : Nat} {i : Int} (h0 : 0 ≤ i) (h1 : i < n) : ixN n i = some i.toNat := by
  unfold ixN; rw [if_pos h0, if_pos h1]
end Far
set_option Elab.async false
set_option linter.all false
set_option maxRecDepth 100000
set_option maxHeartbeats 4000000
namespace Far
open PySem L2
def natV (k : Nat) : V := .int (k : Int)
structure MI (many i : Nat) (ch : List (List Nat)) : Prop where
  len : ch.length = many
  le8 : ∀ (j : Nat) (l : List Nat), ch[j]? = some l → l.length ≤ 8
  up : ∀ (j : Nat) (l : List Nat), ch[j]? = some l → ∀ k ∈ l, j < k ∧ k ≤ i
  fl : ch.flatten.Perm (List.range' 1 i)
theorem MI.start (many : Nat) : MI many 0 (List.replicate many []) where
  len := List.length_replicate
  le8 := fun j l h => by
    rw [List.getElem?_replicate] at h
    split at h
    · cases h; exact Nat.zero_le _
    · cases h
  up := fun j l h k hk => by
    rw [List.getElem?_replicate] at h
    split at h
    · cases h; cases hk
    · cases h
  fl := by
    have e : (List.replicate many ([] : List Nat)).flatten = [] := by
      induction many with
      | zero => rfl
      | succ n ih => rw [List.replicate_succ, List.flatten_cons, ih]; rfl
    rw [e]
    exact List.Perm.refl _
theorem flat_put {α : Type} {x : α} : ∀ {ch : List (List α)} {j : Nat} {l : List α}, ch[j]? = some l → (ch.set j (l ++ [x])).flatten.Perm (x :: ch.flatten)
  | [], _, _, h => by simp at h
  | a :: r, 0, l, h => by
    have e : a = l := by simpa using h
    subst e
    rw [List.set_cons_zero, List.flatten_cons, List.flatten_cons, List.append_assoc]
    exact List.perm_middle
  | a :: r, j + 1, l, h => by
    have ih := flat_put (x := x) (ch := r) (j := j) (l := l) (by simpa using h)
    rw [List.set_cons_succ, List.flatten_cons, List.flatten_cons]
    exact (ih.append_left a).trans List.perm_middle
theorem MI.put {many i j : Nat} {ch : List (List Nat)} {l : List Nat} (m : MI many i ch) (hj : ch[j]? = some l) (h8 : l.length < 8) (hji : j < i + 1) : MI many (i + 1) (ch.set j (l ++ [i + 1])) where
  len := by rw [List.length_set]; exact m.len
  le8 := fun a b h => by
    by_cases e : j = a
    · subst e
      rw [List.getElem?_set_self (List.getElem?_eq_some_iff.mp hj).1] at h
      cases h
      rw [List.length_append, List.length_singleton]; omega
    · rw [List.getElem?_set_ne e] at h
      exact m.le8 a b h
  up := fun a b h k hk => by
    by_cases e : j = a
    · subst e
      rw [List.getElem?_set_self (List.getElem?_eq_some_iff.mp hj).1] at h
      cases h
      rcases List.mem_append.mp hk with q | q
      · have := m.up j l hj k q; omega
      · have := List.mem_singleton.mp q; omega
    · rw [List.getElem?_set_ne e] at h
      have := m.up a b h k hk; omega
  fl := by
    refine (flat_put hj).trans ?_
    rw [List.range'_1_concat, Nat.add_comm 1 i]
    exact (m.fl.cons _).trans (List.perm_append_singleton _ _).symm
def KR (H0 H : Hp) (f a : Addr) (l : List Nat) : Prop := H a = some (.lst (l.map natV)) ∧ a ≠ f ∧ H0 a = none
structure Kids (H0 H : Hp) (f C : Addr) (cs : List Addr) (ch : List (List Nat)) : Prop where
  top : H C = some (.lst (cs.map V.ref))
  kid : Paired (KR H0 H f) cs ch
  nd : cs.Nodup
  nC : C ∉ cs
  fC : C ≠ f
  nw : H0 C = none
theorem Kids.but {H0 H H' : Hp} {f C : Addr} {cs : List Addr} {ch : List (List Nat)} (k : Kids H0 H f C cs ch) (b : But f H H') : Kids H0 H' f C cs ch :=
  ⟨b _ _ k.top k.fC, Paired.mapP k.kid fun a l h => ⟨b _ _ h.1 h.2.1, h.2⟩, k.nd, k.nC, k.fC, k.nw⟩
theorem kfar {H0 H : Hp} {f a0 : Addr} {o : HO} : ∀ {cs : List Addr} {ch : List (List Nat)}, a0 ∉ cs → Paired (KR H0 H f) cs ch → Paired (KR H0 (upd H a0 o) f) cs ch
  | _, _, _, .nil => .nil
  | _, _, h, .cons r t => .cons ⟨by rw [upd_ne fun e => h (by rw [e]; exact List.mem_cons_self)]; exact r.1, r.2⟩ (kfar (fun m => h (List.mem_cons_of_mem _ m)) t)
theorem kput {H0 H : Hp} {f a0 : Addr} {l' : List Nat} : ∀ {cs : List Addr} {ch : List (List Nat)} (j : Nat), cs.Nodup → cs[j]? = some a0 → Paired (KR H0 H f) cs ch → Paired (KR H0 (upd H a0 (.lst (l'.map natV))) f) cs (ch.set j l')
  | _, _, _, _, e, .nil => by simp at e
  | _, _, 0, nd, e, .cons r t => by
    have e' := Option.some.inj (show some _ = some a0 from e)
    subst e'
    exact .cons ⟨upd_same, r.2⟩ (kfar (List.nodup_cons.mp nd).1 t)
  | a :: _, _, j + 1, nd, e, .cons r t => by
    have hm : a0 ∈ _ := List.mem_of_getElem? (show _ = some a0 from (by simpa using e))
    have ne : a ≠ a0 := fun z => (List.nodup_cons.mp nd).1 (by rw [z]; exact hm)
    exact .cons ⟨by rw [upd_ne ne]; exact r.1, r.2⟩ (kput j (List.nodup_cons.mp nd).2 (by simpa using e) t)
theorem Kids.put {H0 H : Hp} {f C : Addr} {cs : List Addr} {ch : List (List Nat)} {j : Nat} {a0 : Addr} {l' : List Nat} (k : Kids H0 H f C cs ch) (hj : cs[j]? = some a0) : Kids H0 (upd H a0 (.lst (l'.map natV))) f C cs (ch.set j l') :=
  ⟨by rw [upd_ne fun e => k.nC (by rw [e]; exact List.mem_of_getElem? hj)]; exact k.top, kput j k.nd hj k.kid, k.nd, k.nC, k.fC, k.nw⟩
theorem Kids.get {H0 H : Hp} {f C : Addr} {cs : List Addr} {ch : List (List Nat)} {j : Nat} {l : List Nat} (k : Kids H0 H f C cs ch) (hj : ch[j]? = some l) : ∃ a, cs[j]? = some a ∧ KR H0 H f a l ∧ (cs.map V.ref)[j]? = some (.ref a) := by
  obtain ⟨a, e, r⟩ := pget k.kid hj
  exact ⟨a, e, r, by rw [List.getElem?_map, e]; rfl⟩
def WkOk (w : Int × List Stp) (l : List Nat) : Prop := (1 ≤ w.1 ∧ w.1 ≤ 9) ∧ (1 ≤ w.2.length ∧ w.2.length ≤ 8) ∧ (kids w.2).Perm l
end Far
set_option Elab.async false
set_option linter.all false
set_option maxRecDepth 100000
set_option maxHeartbeats 4000000
namespace Far
open PySem L2
def inSends (i : Nat) : Nat → List Stp → List (Nat × Nat × Nat)
  | _, [] => []
  | n, s :: r => ((kid s).toList.map fun k => (i, n, k)) ++ inSends i (n + 1) r
def jobSends : Nat → Job → List (Nat × Nat × Nat)
  | _, [] => []
  | i, w :: r => inSends i 0 w.2 ++ jobSends (i + 1) r
def putS (acc : List (Option (Nat × Nat))) (t : Nat × Nat × Nat) : List (Option (Nat × Nat)) := acc.set t.2.2 (some (t.1, t.2.1))
def putP (acc : List (Option Nat)) (t : Nat × Nat × Nat) : List (Option Nat) := acc.set t.2.2 (some t.1)
def senderL (J : Job) : List (Option (Nat × Nat)) := (jobSends 0 J).foldl putS (List.replicate J.length none)
def parL (J : Job) : List (Option Nat) := (jobSends 0 J).foldl putP (List.replicate J.length none)
def Ups (par : List (Option Nat)) : Prop := ∀ (i j : Nat), par[i]? = some (some j) → j < i
def belIs (tops : List Nat) (acc : List Nat) (i : Nat) (o : Option Nat) : Bool := tops.contains i || (match o with | some j => acc.contains j | none => false)
def belStep (tops : List Nat) (acc : List Nat) (i : Nat) (o : Option Nat) : List Nat := if belIs tops acc i o = true then acc ++ [i] else acc
def bel (tops : List Nat) : Nat → List (Option Nat) → List Nat → List Nat
  | _, [], acc => acc
  | i, o :: r, acc => bel tops (i + 1) r (belStep tops acc i o)
def upOf (par : List (Option Nat)) : Option Nat → Option Nat
  | none => none
  | some j => (par[j]?).getD none
def climb (par : List (Option Nat)) (top : Nat) : Nat → Option Nat → Bool
  | 0, o => decide (o = some top)
  | n + 1, o => if o = some top then true else climb par top n (upOf par o)
def isBel (par : List (Option Nat)) (top i : Nat) : Bool := climb par top par.length (some i)
end Far
set_option Elab.async false
set_option linter.all false
set_option maxRecDepth 100000
set_option maxHeartbeats 4000000
namespace Far
open PySem L2
mutual
def smallD : PyData → Bool
  | .none => true
  | .bool _ => true
  | .int i => decide (0 ≤ i) && decide (i < 1000000)
  | .str _ => false
  | .list xs => smallAll xs
  | .tuple xs => smallAll xs
  | .dict _ => false
def smallAll : List PyData → Bool
  | [] => true
  | x :: xs => smallD x && smallAll xs
end
def optV : Option Nat → V
  | none => .non
  | some k => natV k
def optD : Option Nat → PyData
  | none => .none
  | some k => .int (k : Int)
end Far
set_option Elab.async false
set_option linter.all false
set_option maxRecDepth 100000
set_option maxHeartbeats 4000000
namespace Far
open PySem L2
def KU (H H' : Hp) : Prop := ∀ b xs, H b = some (.tup xs) → H' b = some (.tup xs)
theorem KU.refl (H : Hp) : KU H H := fun _ _ h => h
theorem KU.trans {H H1 H2 : Hp} (a : KU H H1) (b : KU H1 H2) : KU H H2 := fun c xs h => b c xs (a c xs h)
theorem KU.same {H H' : Hp} (s : Same H H') : KU H H' := fun b xs h => s _ _ h
theorem KU.put {H : Hp} {D : Addr} {u : HO} (h : H D = some u) (nt : ∀ xs, u ≠ .tup xs) (o : HO) : KU H (upd H D o) := fun b xs q => by rw [upd_ne (ne_of q h (nt xs).symm)]; exact q
theorem KU.new {H : Hp} {D : Addr} (h : H D = none) (o : HO) : KU H (upd H D o) := KU.same (same_new h o)
theorem KU.but {f : Addr} {H H' : Hp} {ys : List V} (s : But f H H') (hf : H f = some (.lst ys)) : KU H H' := fun b xs h => s _ _ h (by rintro rfl; rw [hf] at h; cases h)
theorem KU.two {f : Addr} {H H' : Hp} (s : But f H H') (t : Two H f) : KU H H' := let ⟨_, _, e⟩ := t; KU.but s e
def IsPr (K : PySem.W.Frag) (H : Hp) (v : V) (t : Nat × Nat) : Prop := ∃ b, v = .ref b ∧ H b = some (.tup [natV t.1, natV t.2])
theorem IsPr.kt {K : PySem.W.Frag} {H H' : Hp} (k : KU H H') {v : V} {t : Nat × Nat} (h : IsPr K H v t) : IsPr K H' v t := let ⟨a, e, q⟩ := h; ⟨a, e, k _ _ q⟩
def leP (a b : Nat × Nat) : Prop := a.1 < b.1 ∨ (a.1 = b.1 ∧ a.2 ≤ b.2)
theorem pmaps {α β γ : Type} {R : β → γ → Prop} {f : α → β} {g : α → γ} : ∀ (l : List α), (∀ v ∈ l, R (f v) (g v)) → Paired R (l.map f) (l.map g)
  | [], _ => .nil
  | a :: r, h => .cons (h a List.mem_cons_self) (pmaps r fun v hv => h v (List.mem_cons_of_mem _ hv))
theorem pfun {α β : Type} {R : α → β → Prop} {g : α → β} (h : ∀ a b, R a b → g a = b) : ∀ {l : List α} {m : List β}, Paired R l m → l.map g = m
  | _, _, .nil => rfl
  | _, _, .cons r t => by rw [List.map_cons, h _ _ r, pfun h t]
abbrev noT : Nat → Bool := fun _ => false
def keyP (h : Heap) (v : Value) : Nat × Nat := match PyProof.Rows.G.tupKeyC h noT v with
  | some [Sum.inl a, Sum.inl b] => (a.toNat, b.toNat)
  | _ => (0, 0)
def rSortedP (K : PySem.W.Frag) : List V → Hp → VK → Prop := fun vs H Q => ∃ (a : Addr) (xs : List V) (prs : List (Nat × Nat)), vs = [.ref a] ∧ SqL K H a xs ∧ Paired (IsPr K H) xs prs ∧
  ∀ (ys : List V) (qs : List (Nat × Nat)) (p : Addr), qs.Perm prs → qs.Pairwise leP → Paired (IsPr K H) ys qs → H p = none → Q (.ref p) (upd H p (.lst ys))
section
variable {X : Cx} {pins : List (Addr × Obj)} {σ : St} {H : Hp} {s : Shared}
def Lie (K : PySem.W.Frag) (H : Hp) (h : Heap) : Prop := ∀ (b : Addr) (t : Nat × Nat), H b = some (.tup [natV t.1, natV t.2]) → ∃ (o : Obj) (t1 t2 : Tok) (n : Nat), h.get? b = some o ∧ o.cls = .type "tuple" ∧ o.data = .seq #[.int (t.1 : Int) t1, .int (t.2 : Int) t2] n
abbrev Good (K : PySem.W.Frag) (H : Hp) : Value → Nat × Nat → Prop := fun v t => ∃ b, v = Value.ref b ∧ H b = some (.tup [natV t.1, natV t.2])
theorem Lie.keep {K : PySem.W.Frag} {H : Hp} {h h' : Heap} (l : Lie K H h) (k : ∀ b o, h.get? b = some o → h'.get? b = some o) : Lie K H h' := fun b t q =>
  let ⟨o, t1, t2, n, ho, r⟩ := l b t q; ⟨o, t1, t2, n, k _ _ ho, r⟩
end
section
variable {K : PySem.W.Frag} {H : Hp} {h : Heap}
theorem Lie.key (l : Lie K H h) {b : Addr} {t : Nat × Nat} (q : H b = some (.tup [natV t.1, natV t.2])) : PyProof.Rows.G.tupKeyC h noT (.ref b) = some [Sum.inl (t.1 : Int), Sum.inl (t.2 : Int)] := by
  obtain ⟨o, t1, t2, n, ho, hc, hd⟩ := l b t q
  have e1 : PyProof.Rows.G.isTupObj h (.ref b) = true := by
    simp only [PyProof.Rows.G.isTupObj, ho, hc]
    decide
  unfold PyProof.Rows.G.tupKeyC
  rw [if_pos e1]
  simp only [PyProof.Rows.tupKey, ho, hd]
  rfl
theorem Lie.keyP (l : Lie K H h) {b : Addr} {t : Nat × Nat} (q : H b = some (.tup [natV t.1, natV t.2])) : keyP h (.ref b) = t := by
  unfold Far.keyP
  rw [l.key q]
  rfl
theorem Lie.tups (l : Lie K H h) : ∀ {vs : List Value} {prs : List (Nat × Nat)}, Paired (Good K H) vs prs → ∃ fs, PyProof.Rows.TupsOf h noT vs fs
  | _, _, .nil => ⟨[], .nil⟩
  | _, _, .cons r t => by
    obtain ⟨fs, hf⟩ := l.tups t
    obtain ⟨b, rfl, hq⟩ := r
    obtain ⟨o, t1, t2, n, ho, hc, hd⟩ := l b _ hq
    exact ⟨_ :: fs, .cons ⟨b, o, _, n, rfl, ho, hc, hd, rfl, fun _ => ⟨_, _, rfl⟩, fun z => nomatch z⟩ hf⟩
theorem good_mem {its : List Value} {prs : List (Nat × Nat)} (good : Paired (Good K H) its prs) : ∀ v ∈ its, ∃ (b : Addr) (t : Nat × Nat), v = Value.ref b ∧ H b = some (.tup [natV t.1, natV t.2]) := fun v hv => by
  obtain ⟨i, hi⟩ := List.getElem?_of_mem hv
  obtain ⟨t, _, b, e, hq⟩ := pgetL good hi
  exact ⟨b, t, e, hq⟩
theorem Lie.keys (l : Lie K H h) {its : List Value} {prs : List (Nat × Nat)} (good : Paired (Good K H) its prs) : ∀ v, v ∈ its → ∃ k, PyProof.Rows.G.tupKeyC h noT v = some k := fun v hv => by
  obtain ⟨b, t, rfl, hq⟩ := good_mem good v hv
  exact ⟨_, l.key hq⟩
theorem Lie.sorted (l : Lie K H h) {its : List Value} {prs : List (Nat × Nat)} {arr : Array PyProof.Rows.Keyed} (good : Paired (Good K H) its prs) (hperm : arr.Perm (PyProof.Rows.pairsOf its))
    (hsort : PyProof.Rows.SortedToK (PyProof.Rows.G.tupKindC h noT) arr (PyProof.Rows.pairsOf its).size) :
    ∃ (ys : List V) (qs : List (Nat × Nat)), Vals ys (arr.map (·.2)).toList ∧ ys.length = its.length ∧ qs.Perm prs ∧ qs.Pairwise leP ∧ Paired (IsPr K H) ys qs := by
  have mem := good_mem good
  have hpl : arr.toList.Perm (its.zip its) := by
    have := hperm.toList
    rw [PyProof.Rows.pairsOf_toList] at this
    exact this
  have hmem : ∀ p ∈ arr.toList, p.1 = p.2 ∧ p.1 ∈ its := fun p hp => PyProof.Rows.mem_zip_self (hpl.mem_iff.mp hp)
  have hout : (arr.map (·.2)).toList = arr.toList.map (·.2) := Array.toList_map ..
  have houtP : (arr.map (·.2)).toList.Perm its := by
    rw [hout]
    have h1 := hpl.map (·.2)
    rw [List.map_snd_zip (Nat.le_refl _)] at h1
    exact h1
  have hin : ∀ v ∈ (arr.map (·.2)).toList, v ∈ its := fun v hv => houtP.mem_iff.mp hv
  refine ⟨(arr.map (·.2)).toList.map fun v => (absV v).getD .non, (arr.map (·.2)).toList.map (Far.keyP h), ?_, ?_, ?_, ?_, ?_⟩
  · have := pmaps (R := RelV) (f := fun v => (absV v).getD .non) (g := fun v => v) (arr.map (·.2)).toList fun v hv => by
      obtain ⟨b, t, rfl, _⟩ := mem v (hin v hv)
      rfl
    rw [List.map_id'] at this
    exact this
  · rw [List.length_map, houtP.length_eq]
  · have e : its.map (Far.keyP h) = prs := pfun (fun v t hv => by
      obtain ⟨b, rfl, hq⟩ := hv
      exact l.keyP hq) good
    rw [← e]
    exact houtP.map _
  · rw [List.pairwise_iff_getElem]
    intro i j hi hj hij
    rw [List.length_map] at hi hj
    rw [List.getElem_map, List.getElem_map]
    have hi' : i < arr.size := by rw [hout, List.length_map, Array.length_toList] at hi; exact hi
    have hj' : j < arr.size := by rw [hout, List.length_map, Array.length_toList] at hj; exact hj
    have hsz : (PyProof.Rows.pairsOf its).size = arr.size := by
      rw [PyProof.Rows.pairsOf_size, ← houtP.length_eq, hout, List.length_map, Array.length_toList]
    have hk := hsort i j (Nat.le_of_lt hij) (by rw [hsz]; exact hj')
    have kk : ∀ (n : Nat) (hn : n < arr.size), ∃ t : Nat × Nat, PyProof.Rows.KK (PyProof.Rows.G.tupKindC h noT) arr n = [Sum.inl (t.1 : Int), Sum.inl (t.2 : Int)] ∧ Far.keyP h (arr[n]).2 = t := fun n hn => by
      have hm := hmem arr[n] (by simp)
      obtain ⟨b, t, e, hq⟩ := mem _ hm.2
      refine ⟨t, ?_, ?_⟩
      · unfold PyProof.Rows.KK
        rw [Array.getElem?_eq_getElem hn]
        show (PyProof.Rows.G.tupKeyC h noT (arr[n]).1).getD [] = _
        rw [e, l.key hq]
        rfl
      · rw [← hm.1, e]
        exact l.keyP hq
    obtain ⟨t1, e1, f1⟩ := kk i hi'
    obtain ⟨t2, e2, f2⟩ := kk j hj'
    rw [e1, e2] at hk
    have g1 : (arr.map (·.2)).toList[i] = (arr[i]).2 := by simp
    have g2 : (arr.map (·.2)).toList[j] = (arr[j]).2 := by simp
    rw [g1, g2, f1, f2]
    have hk' : PyProof.Rows.lexLt PyProof.Rows.itemOrd [Sum.inl (t2.1 : Int), Sum.inl (t2.2 : Int)] [Sum.inl (t1.1 : Int), Sum.inl (t1.2 : Int)] = false := hk
    obtain ⟨a1, a2⟩ := PyProof.Rows.lex_false.mp hk'
    have a1' : ¬ ((t2.1 : Int) < (t1.1 : Int)) := of_decide_eq_false a1
    unfold leP
    rcases a2 with a2 | a2
    · have a2' : (t1.1 : Int) < (t2.1 : Int) := of_decide_eq_true a2
      left; omega
    · obtain ⟨b1, _⟩ := PyProof.Rows.lex_false.mp a2
      have b1' : ¬ ((t2.2 : Int) < (t1.2 : Int)) := of_decide_eq_false b1
      by_cases c : t1.1 = t2.1
      · right; exact ⟨c, by omega⟩
      · left; omega
  · exact pmaps _ fun v hv => by
      obtain ⟨b, t, rfl, hq⟩ := mem v (hin v hv)
      refine ⟨b, rfl, ?_⟩
      rw [l.keyP hq]
      exact hq
end
section
variable {X : Cx}
end
section
variable {P : Program} {w : World} {H : Hp} {h h' : Heap} {a : Addr} {o : HO}
end
section
variable {prog : Program} {w : World} {A : Around} {E : Value → Shared → Prop} {s : Shared} {d : Addr} {o : Obj} {es : Array DictEntry} {ep : Nat}
end
def keyPr (t : Nat × Nat) : List Key := [Sum.inl (t.1 : Int), Sum.inl (t.2 : Int)]
def rSortedD : List V → Hp → VK → Prop := fun vs H Q => ∃ (a : Addr) (kvs : List ((Nat × Nat) × V)), vs = [.ref a] ∧ H a = some (.dT (kvs.map fun kv => (keyPr kv.1, kv.2))) ∧
  ∀ (K : PySem.W.Frag) (ys : List V) (qs : List (Nat × Nat)) (p : Addr), qs.Perm (kvs.map (·.1)) → qs.Pairwise leP → Paired (IsPr K H) ys qs → H p = none → Q (.ref p) (upd H p (.lst ys))
section
variable {X : Cx}
end
end Far
set_option Elab.async false
set_option linter.all false
set_option maxRecDepth 100000
set_option maxHeartbeats 4000000
namespace L2
open PySem PySem.Spec PyProof.Rows
section
variable {prog : Program} {w : World} {h h' : Heap} {k : List Key} {a b d : Addr} {xs : List (List Key × Addr × Value)}
end
section
variable {prog : Program} {w : World} {A : Around} {E : Value → Shared → Prop}
end
end L2
namespace Far
open PySem L2
open PySem.AutoSeq1 (wpAny_loadPart')
def idxF (items : Array Value) (x : Value) (i : Nat) (_b : Option PySem.Fin × Unit) : Sem (ForInStep (Option PySem.Fin × Unit)) :=
  match items[i]? with
  | some y => do
    let b ← eqBool y x
    if b = true then do
      let r ← retInt (i : Int)
      pure (ForInStep.done (some r, ()))
    else pure (ForInStep.yield (none, ()))
  | _ => pure (ForInStep.yield (none, ()))
def rTIndex (K : PySem.W.Frag) : V → List V → Hp → VK → Prop := fun x xs H Q => ∃ (a : Addr) (vs : List V) (ds : List PyData) (y : V) (d : PyData) (j : Nat) (dj : PyData), x = V.ref a ∧ xs = [y] ∧ SqT K H a vs ∧ DpAll K H vs ds ∧ Dp K H y d ∧ PyData.canLayAll0 ds = true ∧ SeqAt.shaped d = true ∧
  ds[j]? = some dj ∧ PyData.eqv dj d = true ∧ (∀ (m : Nat) (dm : PyData), m < j → ds[m]? = some dm → PyData.eqv dm d = false) ∧ Q (.int (j : Nat)) H
section
variable {X : Cx}
def rDictPT (K : PySem.W.Frag) : List V → Hp → VK → Prop := fun vs H Q => ∃ (a : Addr) (ps : List Addr) (kvs : List (List Key × V)), vs = [.ref a] ∧ SqL K H a (ps.map V.ref) ∧
  Paired (fun p kv => ∃ b, SqT K H p [.ref b, kv.2] ∧ H b = some (.tup (kv.1.map kV))) ps kvs ∧ ∀ p, H p = none → Q (.ref p) (upd H p (.dT (kvs.foldl (fun acc kv => putK acc kv.1 kv.2) [])))
def rNotInD (K : PySem.W.Frag) : R2 := fun x y H Q => ∃ d ds p, Dp K H x d ∧ y = .ref p ∧ Dp K H (.ref p) (.list ds) ∧ SeqAt.shaped d = true ∧ PyData.canLayAll0 ds = true ∧ Q (.bl (!ds.any fun e => PyData.eqv e d)) H
end
end Far
set_option Elab.async false
set_option linter.all false
set_option maxRecDepth 100000
set_option maxHeartbeats 4000000
namespace Far
open PySem
section
variable {prog : Program} {w : World} {A : Around} {R : Result → Shared → Prop} {it : Addr} {fp wr : List Addr} {n : Nat} {P : Nat → Value → Prop} {St : Nat → Heap → Prop} {kw : List (Str × Value)}
end
end Far
namespace L2
open PySem PySem.Spec PyProof.Rows
section
variable {prog : Program} {w : World} {A : Around} {E : Value → Shared → Prop} {s : Shared} {l : Addr} {its : List Value} {ns : List Int} {d : Value} {Q : Value → Shared → Prop}
end
def CallKR (X : Cx) (f : Value) (ks : List Str) (r : List V → List V → Hp → VK → Prop) : Prop :=
  ∀ (pins : List (Addr × Obj)) (s : Shared) (σ : St) (H : Hp) (xs zs : List V) (us ws : List Value) (Q : VK), Inv X pins σ H s → Vals xs us → Vals zs ws → r xs zs H Q → wpAny (model X.prog X.w) X.A (call f us (ks.zip ws)) (EP X pins σ Q) X.xe s
def tCBK (r : List V → List V → Hp → VK → Prop) (t tk : TA) : TE := fun σ H Q => t σ H fun vs H1 => tk σ H1 fun zs H2 => r vs zs H2 Q
section
variable {X : Cx} {x : Str} {p pos : Pos} {e : Expr} {es : List Expr} {kws : List Keyword} {t tk : TA} {id : String} {ks : List Str} {r : List V → List V → Hp → VK → Prop}
def rMaxD (K : PySem.W.Frag) : List V → List V → Hp → VK → Prop := fun vs zs H Q => ∃ (a : Addr) (ns : List Int) (d : V), vs = [V.ref a] ∧ zs = [d] ∧ SqL K H a (ns.map V.int) ∧ (ns = [] → Q d H) ∧ ∀ m, m ∈ ns → (∀ y, y ∈ ns → y ≤ m) → Q (.int m) H
end
end L2
set_option Elab.async false
set_option linter.all false
set_option maxRecDepth 100000
set_option maxHeartbeats 4000000
namespace Far
open PySem
section
variable {prog : Program} {w : World} {A : Around} {E : Value → Shared → Prop} {t : Shared}
def RawD (hp : Heap) (d : Addr) (ents : Array DictEntry) (ep : Nat) : Prop := ∃ o, hp.get? d = some o ∧ o.ExactDict ∧ o.data = .dict ents ep
theorem RawD.at {hp hp' : Heap} {d : Addr} {ents : Array DictEntry} {ep : Nat} (x : RawD hp d ents ep) (k : ∀ o, hp.get? d = some o → hp'.get? d = some o) : RawD hp' d ents ep :=
  let ⟨o, e, r⟩ := x; ⟨o, k o e, r⟩
end
end Far
namespace L2
open PySem PySem.Spec PyProof.Rows
def ViewO (v d : Addr) : HO := .ext fun h => h.IsValuesView v d
def tDVals (td : TE) : TE := fun σ H Q => td σ H fun x H1 => ∃ d kvs, x = .ref d ∧ H1 d = some (.dT kvs) ∧ ∀ v, H1 v = none → Q (.ref v) (upd H1 v (ViewO v d))
section
variable {X : Cx} {e : Expr} {td : TE} {apos cpos : Pos}
def rMaxV : List V → Hp → VK → Prop := fun vs H Q => ∃ (v d : Addr) (kvs : List (List Key × V)) (ns : List Int), vs = [V.ref v] ∧ H v = some (ViewO v d) ∧ H d = some (.dT kvs) ∧ kvs.map (·.2) = ns.map V.int ∧ 0 < ns.length ∧ ∀ m, m ∈ ns → (∀ y, y ∈ ns → y ≤ m) → Q (.int m) H
end
end L2
set_option Elab.async false
set_option linter.all false
set_option maxRecDepth 100000
set_option maxHeartbeats 4000000
namespace Far
open PySem
section
variable {prog : Program} {w : World} {A : Around} {E : Value → Shared → Prop} {t : Shared}
abbrev zq1 (h : Heap) (tu : Addr) : Heap := h.push { cls := .type "tuple_iterator", data := .fields #[.ref tu, .int 0 0] }
abbrev zq2 (h : Heap) (tu li : Addr) : Heap := (zq1 h tu).push { cls := .type "list_iterator", data := .fields #[.ref li, .int 0 0] }
abbrev zq3 (h : Heap) (tu li : Addr) : Heap := (zq2 h tu li).push { cls := .type "tuple", data := .seq #[.ref h.objs.size, .ref (zq1 h tu).objs.size] }
abbrev zq4 (h : Heap) (tu li : Addr) : Heap := (zq3 h tu li).push { cls := .type "tuple", data := .seq #[.none, .none] }
abbrev zq5 (h : Heap) (tu li : Addr) : Heap := (zq4 h tu li).push { cls := .type "zip", data := .fields #[.none, .bool false, .bool false, .ref (zq2 h tu li).objs.size, .ref (zq3 h tu li).objs.size] }
end
end Far
namespace L2
open PySem PySem.Spec PyProof.Rows
def ItzT (K : PySem.W.Frag) (a b : Addr) : It :=
  ⟨fun i H => ∃ (xs ys : List V) (x y : V), SqT K H a xs ∧ SqL K H b ys ∧ xs[i]? = some x ∧ ys[i]? = some y,
    fun i H v H' => ∃ T x y, v = .ref T ∧ H T = none ∧ H' = upd H T (.tup [x, y]) ∧ (∀ xs, SqT K H a xs → xs[i]? = some x) ∧ ∀ ys, SqL K H b ys → ys[i]? = some y,
    fun i H => ∃ xs : List V, SqT K H a xs ∧ xs.length ≤ i⟩
def iZipT (K : PySem.W.Frag) (ta : TA) : TI := fun σ H R => ta σ H fun vs H1 => ∃ a b xs ys, vs = [.ref a, .ref b] ∧ SqT K H1 a xs ∧ SqL K H1 b ys ∧ R (ItzT K a b) H1
end L2
set_option Elab.async false
set_option linter.all false
set_option maxRecDepth 100000
set_option maxHeartbeats 4000000
namespace HT
open PySem PySem.Spec PyProof.Rows
section
variable {prog : Program} {w : World} {A : Around} {E : Value → Shared → Prop} {s : Shared}
theorem getItem_tuple_all {t sl : Addr} {items : Array Value} {vl vu : Value} {lo hi : Option Int} {Q : Value → Shared → Prop} (ht : IsTup s.heap t items) (hs : s.heap.IsSliceOf sl vl vu .none) (pl : IsPart vl lo) (pu : IsPart vu hi)
    (hw : sIx items.size 0 lo = 0 ∧ sIx items.size items.size hi = items.size) (h : Q (.ref t) s) : wpAny (model prog w) A (getItem (.ref t) (.ref sl)) Q E s := by
  obtain ⟨os, hos, hcs, hds⟩ := id hs
  have hTs : s.TypeIs (.ref sl) "slice" := ⟨os, hos, hcs⟩
  unfold getItem
  try with_reducible refine wpAny_holding ?_
  first | refine wpAny_bind (wpAny_pure ?_) | skip
  refine wpAny_bind (wpAny_sequenceKey ht.typeIs (by decide) ?_)
  refine wpAny_bind (wpAny_callSpecial?_slot (name := Str.ofString "__getitem__") ht.typeIs PyProof.Rows.slot_tuple_getitem
    (wpAny_call_entry PyProof.Rows.slot_tuple_getitem ht.typeIs entry_tuple_getitem ?_ (args_tuple_getitem _ _)))
  show wpAny _ _ (Builtin.Tuple.tupleItemsOf (.ref t) >>= _) _ _ s
  refine wpAny_bind (tupleItemsOf_ ht ?_)
  refine wpAny_bind (wpAny_typeOf hTs ?_)
  rw [if_pos (by decide)]
  refine wpAny_bind (sliceApplied_gen hs pl pu ?_)
  have hyes : (((sIx items.size 0 lo : Nat) : Int) == 0 && (1 : Int) == 1 && (sIx items.size items.size hi - sIx items.size 0 lo) == items.size) = true := by
    rw [hw.1, hw.2]; simp
  show wpAny _ _ (if (((sIx items.size 0 lo : Nat) : Int) == 0 && (1 : Int) == 1 && (sIx items.size items.size hi - sIx items.size 0 lo) == items.size) = true then _ else _) _ _ s
  rw [if_pos hyes]
  unfold Builtin.Tuple.tupleIsExact
  refine wpAny_bind (wpAny_bind (wpAny_typeOf ht.typeIs (wpAny_pure ?_)))
  rw [if_pos (by decide)]
  refine wpAny_bind (wpAny_rule ?_)
  exact wpAny_pure ⟨_, rfl, wpAny_pure h⟩
end
end HT
namespace L2
open PySem PySem.Spec PyProof.Rows
section
variable {X : Cx}
def rSlW (K : PySem.W.Frag) : V → Option Int → Option Int → Hp → VK → Prop := fun x lo hi H Q => ∃ a xs, x = .ref a ∧ SqT K H a xs ∧ (cutV xs lo hi = xs → Q (.ref a) H) ∧ ∀ p, H p = none → Q (.ref p) (upd H p (.tup (cutV xs lo hi)))
theorem sl_tupW : SlR X (rSlW X.K) := by
  intro pins s σ H x v vl vu lo hi sl Q I rx hs pl pu h
  obtain ⟨a, xs, rfl, hx, q1, q2⟩ := h
  by_cases hw : HT.sIx xs.length 0 lo = 0 ∧ HT.sIx xs.length xs.length hi = xs.length
  · cases rx
    obtain ⟨its, r, ht, hz⟩ := I.tuple hx
    have hlen : its.toArray.size = xs.length := by rw [List.size_toArray]; exact r.length.symm
    refine ⟨"tuple", _, PyProof.Rows.slot_tuple_getitem.lookup, ht.typeIs, ?_⟩
    refine HT.getItem_tuple_all ht hs pl pu (by rw [hlen]; exact hw) ⟨.ref a, H, I, rfl, q1 ?_⟩
    unfold cutV
    rw [hw.1, hw.2, List.drop_zero, Nat.sub_zero, List.take_length]
  · exact sl_tup pins s σ H _ v vl vu lo hi sl Q I rx hs pl pu ⟨a, xs, rfl, hx, hw, q2⟩
def tOrT (K : PySem.W.Frag) (ta tb : TE) : TE := fun σ H Q => ta σ H fun x H1 => ∃ k, TruV K x H1 k ∧ if k = true then Q x H1 else tb σ H1 Q
def rInD (K : PySem.W.Frag) : R2 := fun x y H Q => ∃ d ds p, Dp K H x d ∧ y = .ref p ∧ Dp K H (.ref p) (.list ds) ∧ SeqAt.shaped d = true ∧ PyData.canLayAll0 ds = true ∧ Q (.bl (ds.any fun e => PyData.eqv e d)) H
def rIsE (K : PySem.W.Frag) (T : String) : List V → Hp → VK → Prop := fun vs H Q => ∃ x t b, vs = [x, .ty T] ∧ TyOf K H x t ∧ PySem.W.kitOne K t (.type T) = some b ∧ Q (.bl b) H
theorem cr_isE {T : String} : CallR X (.builtin "isinstance") (rIsE X.K T) := by
  intro pins s σ H vs us Q I r h
  obtain ⟨x, t, b, rfl, ty, e, q⟩ := h
  exact cr_isi (T := T) (b := b) pins s σ H _ us Q I r ⟨x, t, rfl, ty, e, q⟩
end
def tMid (t : TE) : TE := fun σ H Q => ∃ R : VK, t σ H R ∧ ∀ v H', R v H' → Q v H'
theorem pe_mid {X : Cx} {e : Expr} {t : TE} (h : PE X e t) : PE X e (tMid t) := by
  intro pins s σ H Q I hw
  obtain ⟨R, h1, h2⟩ := hw
  exact thn (h pins s σ H R I h1) fun v s1 ⟨x, H1, I1, r, q⟩ => ⟨x, H1, I1, r, h2 _ _ q⟩
end L2
namespace Far
open PySem L2
def WholeIs (K : PySem.W.Frag) (H : Hp) (v : V) (b : Bool) : Prop := ∃ t bi bb, TyOf K H v t ∧ PySem.W.kitOne K t (.type "int") = some bi ∧ (bi = true → PySem.W.kitOne K t (.type "bool") = some bb) ∧ b = (bi && !bb) ∧ (b = true → ∃ i, v = .int i)
theorem kit_same {K : PySem.W.Frag} (x : String) : PySem.W.kitOne K (.type x) (.type x) = some true := by
  unfold PySem.W.kitOne
  rw [if_pos (by simp)]
theorem kit_int_bool {K : PySem.W.Frag} : PySem.W.kitOne K (.type "int") (.type "bool") = some false := by
  unfold PySem.W.kitOne
  rw [if_neg (by decide +kernel)]
  unfold PySem.W.kitCls
  rfl
theorem whole_int {K : PySem.W.Frag} {H : Hp} (i : Int) : WholeIs K H (.int i) true := ⟨.type "int", true, false, .int i, kit_same _, fun _ => kit_int_bool, rfl, fun _ => ⟨i, rfl⟩⟩
end Far
set_option Elab.async false
set_option linter.all false
set_option maxRecDepth 100000
set_option maxHeartbeats 4000000
namespace Far
open PySem L2
theorem lk_ne {k k' : Str} {v : V} {l : List (Str × V)} {r : Option V} (h : (k == k') = false) (e : l.lookup k = r) : ((k', v) :: l).lookup k = r := by
  rw [List.lookup_cons, h]; exact e
theorem lk_eq {k : Str} {v : V} {l : List (Str × V)} : ((k, v) :: l).lookup k = some v := by
  rw [List.lookup_cons]; simp
theorem pf_ne {f k : Str} {v x : V} {l r : List (Str × V)} (h : ¬ k = f) (e : putF f v l = r) : putF f v ((k, x) :: l) = (k, x) :: r := by
  show (if k = f then _ else _) = _
  rw [if_neg h, e]
theorem pf_eq {f : Str} {v x : V} {l : List (Str × V)} : putF f v ((f, x) :: l) = (f, v) :: l := by
  show (if f = f then _ else _) = _
  rw [if_pos rfl]
structure Mkg (H0 Hk : Hp) (p : Addr) (o : HO) (al : List (Addr × HO)) : Prop where
  ob : Hk p = some o
  kp : ∀ b u, H0 b = some u → b ≠ p → Hk b = some u
  li : ∀ e ∈ al, Hk e.1 = some e.2
  fr : ∀ e ∈ al, H0 e.1 = none ∧ e.1 ≠ p
  nd : (al.map (·.1)).Nodup
section
variable {H0 Hk H2 : Hp} {p : Addr} {o o' : HO} {al : List (Addr × HO)}
theorem Mkg.start (h : H0 p = some o) : Mkg H0 H0 p o [] := ⟨h, fun _ _ h _ => h, fun _ z => (nomatch z), fun _ z => (nomatch z), List.nodup_nil⟩
theorem Mkg.same (m : Mkg H0 Hk p o al) (s : Same Hk H2) : Mkg H0 H2 p o al := ⟨s _ _ m.ob, fun b u h n => s _ _ (m.kp b u h n), fun e he => s _ _ (m.li e he), m.fr, m.nd⟩
theorem Mkg.free (m : Mkg H0 Hk p o al) {q : Addr} (h : Hk q = none) : H0 q = none ∧ q ≠ p := by
  have hp : q ≠ p := fun z => by rw [z, m.ob] at h; cases h
  refine ⟨?_, hp⟩
  cases e : H0 q with
  | none => rfl
  | some u => rw [m.kp q u e hp] at h; cases h
theorem Mkg.adds (m : Mkg H0 Hk p o al) (s : Same Hk H2) (nw : List (Addr × HO)) (nd : (nw.map (·.1)).Nodup) (h : ∀ e ∈ nw, H2 e.1 = some e.2 ∧ Hk e.1 = none) : Mkg H0 H2 p o (nw ++ al) := by
  refine ⟨s _ _ m.ob, fun b u h n => s _ _ (m.kp b u h n), fun e he => ?_, fun e he => ?_, ?_⟩
  · rcases List.mem_append.mp he with q | q
    · exact (h e q).1
    · exact s _ _ (m.li e q)
  · rcases List.mem_append.mp he with q | q
    · exact m.free (h e q).2
    · exact m.fr e q
  · rw [List.map_append]
    refine List.nodup_append.mpr ⟨nd, m.nd, ?_⟩
    rintro a ha b hb rfl
    obtain ⟨e, he, rfl⟩ := List.mem_map.mp ha
    obtain ⟨e2, he2, ee⟩ := List.mem_map.mp hb
    have h1 := (h e he).2
    have h2 := m.li e2 he2
    rw [ee, h1] at h2
    cases h2
theorem Mkg.new (m : Mkg H0 Hk p o al) {q : Addr} (h : Hk q = none) (u : HO) : Mkg H0 (upd Hk q u) p o ((q, u) :: al) :=
  m.adds (same_new h u) [(q, u)] (by simp) fun e he => by
    rw [List.mem_singleton.mp he]
    exact ⟨upd_same, h⟩
theorem Mkg.put (m : Mkg H0 Hk p o al) (o' : HO) : Mkg H0 (upd Hk p o') p o' al :=
  ⟨upd_same, fun b u h n => by rw [upd_ne n]; exact m.kp b u h n, fun e he => by rw [upd_ne (m.fr e he).2]; exact m.li e he, m.fr, m.nd⟩
theorem Mkg.kt {K : PySem.W.Frag} {C dx : Addr} {fs : List (Str × V)} (m : Mkg H0 Hk p o al) (h : H0 p = some (.ins C dx fs)) : KT K H0 Hk := fun b xs hb => by
  have ne : ∀ u, H0 b = some u → (∀ C d f, u ≠ .ins C d f) → b ≠ p := fun u e n z => by
    rw [z, h] at e
    exact n C dx fs (Option.some.inj e).symm
  rcases hb with (hb | ⟨ob, hb⟩) | hb
  · exact .inl (.inl (m.kp b _ hb (ne _ hb fun _ _ _ z => nomatch z)))
  · exact .inl (.inr ⟨ob, m.kp b _ hb (ne _ hb fun _ _ _ z => nomatch z)⟩)
  · exact .inr hb
end
theorem pf_app {f : Str} {v : V} : ∀ {l : List (Str × V)}, (l.all fun e => !decide (e.1 = f)) = true → putF f v l = l ++ [(f, v)]
  | [], _ => rfl
  | (k, y) :: r, h => by
    simp only [List.all_cons, Bool.and_eq_true, Bool.not_eq_true', decide_eq_false_iff_not] at h
    exact pf_ne h.1 (pf_app (by simpa using h.2))
theorem rep_flat {α : Type} (n : Nat) (a : α) : (List.replicate n [a]).flatten = List.replicate n a := by
  induction n with
  | zero => rfl
  | succ m ih => rw [List.replicate_succ, List.flatten_cons, ih]; rfl
theorem pf_keys {f : Str} {v : V} {l : List (Str × V)} (ks : List Str) (h : (ks.all fun k => !decide (k = f)) = true) (e : l.map (·.1) = ks) : putF f v l = l ++ [(f, v)] :=
  pf_app (by subst e; rw [List.all_map] at h; exact h)
theorem ixN_nat {n j : Nat} (h : j < n) : ixN n (j : Int) = some j := by
  unfold ixN
  rw [if_pos (by omega), if_pos (by omega)]
  rfl
theorem mapAt' {α β : Type} {f : α → β} {l : List α} {j : Nat} {y : β} (h : (l.map f)[j]? = some y) : ∃ x, l[j]? = some x ∧ y = f x := by
  rw [List.getElem?_map] at h
  cases e : l[j]? with
  | none => rw [e] at h; cases h
  | some x => rw [e] at h; exact ⟨x, rfl, (Option.some.inj h).symm⟩
theorem take_snoc {α : Type} {l : List α} {i : Nat} {y : α} (h : l[i]? = some y) : l.take (i + 1) = l.take i ++ [y] := by rw [List.take_succ, h]; rfl
theorem ps_mid {X : Cx} {st : Stmt} {t : TS} (h : PS X st t) : PS X st (fun D σ H => ∃ R : St → Hp → Prop, t { D with nx := R } σ H ∧ ∀ σ' H', R σ' H' → D.nx σ' H') := by
  intro pins s σ H D I hh
  obtain ⟨R, h1, h2⟩ := hh
  refine thn (h pins s σ H { D with nx := R } I h1) fun f s' q => ?_
  cases f with
  | next =>
    obtain ⟨σ', H', I', r⟩ := q
    exact ⟨σ', H', I', h2 _ _ r⟩
  | brk => exact q
  | cont => exact q
  | ret u => exact q
theorem isEmpty_map' {α β : Type} (f : α → β) (l : List α) : (l.map f).isEmpty = l.isEmpty := by cases l <;> rfl
theorem yes_ {σ : St} {H : Hp} {Q : Bool → Hp → Prop} (h : Q true H) : tYes σ H Q := h
def rLenK (K : PySem.W.Frag) : List V → Hp → VK → Prop := fun xs H Q => ∃ p ys, xs = [.ref p] ∧ (SqL K H p ys ∨ SqT K H p ys) ∧ Q (.int ys.length) H
def rListK (K : PySem.W.Frag) : List V → Hp → VK → Prop := fun xs H Q => ∃ p ys, xs = [.ref p] ∧ (SqL K H p ys ∨ SqT K H p ys) ∧ ∀ l, H l = none → Q (.ref l) (upd H l (.lst ys))
theorem for_enumT {K : PySem.W.Frag} {a : Addr} {xs : List V} {g : TG} {tb : TS} {D : Ends} {σ : St} {H : Hp} (Pv : Nat → St → Hp → Prop) (h0 : Pv 0 σ H) (hl : ∀ i σ H, i ≤ xs.length → Pv i σ H → SqT K H a xs)
    (hs : ∀ i x T σ H, xs[i]? = some x → Pv i σ H → H T = none → g (.ref T) σ (upd H T (.tup [.int (i : Nat), x])) fun σ2 H2 => tb { D with nx := Pv (i + 1), ct := Pv (i + 1), bk := D.nx } σ2 H2) (hd : ∀ σ H, Pv xs.length σ H → D.nx σ H) :
    ∃ W : Nat → Nat → St → Hp → Prop, (∃ m, W 0 m σ H) ∧ ∀ i m σ H, W i m σ H →
      ((IteT K a).stop i H ∧ D.nx σ H) ∨ ((IteT K a).go i H ∧ ∃ N : St → Hp → Prop, (∀ σ' H', N σ' H' → ∃ m', m' < m ∧ W (i + 1) m' σ' H') ∧ ∀ x H', (IteT K a).yld i H x H' → g x σ H' fun σ2 H2 => tb { D with nx := N, ct := N, bk := D.nx } σ2 H2) := by
  refine ⟨fun i m σ H => m = xs.length - i ∧ i ≤ xs.length ∧ Pv i σ H, ⟨xs.length, by simp, Nat.zero_le _, h0⟩, ?_⟩
  rintro i m σ H ⟨rfl, hi, p⟩
  have q := hl i σ H hi p
  by_cases hlt : i < xs.length
  · refine .inr ⟨⟨xs, xs[i], q, by simp [hlt]⟩, Pv (i + 1), fun σ' H' p' => ⟨xs.length - (i + 1), by omega, rfl, hlt, p'⟩, fun x H' y => ?_⟩
    obtain ⟨T, x', rfl, hT, rfl, y⟩ := y
    exact hs i x' T σ _ (y xs q) p hT
  · have e : i = xs.length := by omega
    subst e
    exact .inl ⟨⟨xs, q, rfl⟩, hd σ H p⟩
def Dig (d : Int) : Prop := 0 ≤ d ∧ d < 1000000000
def spMix : Sp := fun vs H Q _ => ∃ (c k : Int), vs = [.int c, .int k] ∧ 0 ≤ k ∧ k < 1000 ∧ ∀ v H', Same H H' → Dig v → Q (.int v) H'
def spDigits : Sp := fun vs H Q _ => ∃ (c : Int) (m : Nat), vs = [.int c, natV m] ∧ m ≤ 900 ∧ ∀ (p : Addr) (ds : List Int) (H' : Hp), H p = none → Same H H' → H' p = some (.lst (ds.map V.int)) → ds.length = m → (∀ d ∈ ds, Dig d) → Q (.ref p) H'
def spAt (K : PySem.W.Frag) : Sp := fun vs H Q _ => ∃ (s : Addr) (ns : List Int) (k : Int), vs = [.ref s, .int k] ∧ SqL K H s (ns.map V.int) ∧ 0 ≤ k ∧ k < 1000 ∧ ∀ v, Q (.int v) H
theorem emod_dig {a m : Int} (h0 : 0 < m) (h1 : m ≤ 1000000000) : Dig (a % m) := ⟨Int.emod_nonneg _ (by omega), by have := Int.emod_lt_of_pos a h0; omega⟩
theorem cut_from {xs : List V} {n : Nat} (h : n ≤ xs.length) : cutV xs (some (n : Int)) none = xs.drop n := by
  unfold cutV
  rw [HT.sIx_nat, Nat.min_eq_left h, show HT.sIx xs.length xs.length none = xs.length from rfl]
  rw [List.take_of_length_le (by rw [List.length_drop]; omega)]
theorem dig_at {ds : List Int} {j : Nat} (h : j < ds.length) (hb : ∀ d ∈ ds, Dig d) : ∃ d, (ds.map V.int)[j]? = some (.int d) ∧ Dig d :=
  ⟨ds[j], by rw [List.getElem?_map, List.getElem?_eq_getElem h]; rfl, hb _ (List.getElem_mem h)⟩
end Far
set_option Elab.async false
set_option linter.all false
set_option maxRecDepth 100000
set_option maxHeartbeats 4000000
namespace L2
open PySem PySem.Spec PyProof.Rows
theorem get_list {X : Cx} : PGet X (rIxL X.K) := by
  intro pins s σ H x y v u Q I rx ry h
  obtain ⟨p, xs, i, z, rfl, rfl, hq, he, q⟩ := h
  cases rx
  obtain ⟨t, rfl⟩ := ry
  obtain ⟨its, r, pl, hz⟩ := I.list hq
  obtain ⟨j, h1, h2, h3, h4, h5⟩ := atI_get he
  obtain ⟨w, ew, rw'⟩ := r.get h2
  have hl := r.length
  have hn := line63
  have fin : EP X pins σ Q w s := ⟨z, H, I, rw', q⟩
  by_cases h0 : 0 ≤ i
  · have hj : i.toNat = j := by
      rw [seqIndex_of h0 h5] at h1
      exact Option.some.inj h1
    exact wpAny_getItem_list pl.isList h0 (by omega) (by rw [hj]; simpa using ew) fin
  · have hj : (i + (its.toArray.size : Int)).toNat = j := by
      rw [seqIndex_neg (by omega) h4] at h1
      rw [List.size_toArray, ← hl]
      exact Option.some.inj h1
    exact wpAny_getItem_list_neg pl.isList (by omega) (by rw [List.size_toArray] <;> omega) (by omega) (by rw [hj]; simpa using ew) fin
end L2
namespace Far
open PySem L2
inductive Deed where
  | lay (x : Int) | take
def deedV : Deed → List V
  | .lay x => [.str "lay", .int x]
  | .take => [.str "take"]
abbrev Play := List Deed × List Nat
def nW (P : Play) : Nat := P.2.length + 1
def dueL (P : Play) : List Nat := P.1.length :: P.2
theorem dueL_len (P : Play) : (dueL P).length = nW P := rfl
def IsDeed (K : PySem.W.Frag) (H : Hp) (v : V) (d : Deed) : Prop := ∃ a, v = .ref a ∧ SqT K H a (deedV d)
def IsPlay (K : PySem.W.Frag) (H : Hp) (v : V) (P : Play) : Prop := ∃ a da ta ds, v = .ref a ∧ SqT K H a [.ref da, .ref ta] ∧ SqT K H da ds ∧ Paired (IsDeed K H) ds P.1 ∧ SqT K H ta (P.2.map natV)
theorem IsDeed.kt {K : PySem.W.Frag} {H H' : Hp} (k : KT K H H') {v : V} {d : Deed} (h : IsDeed K H v d) : IsDeed K H' v d := let ⟨a, e, q⟩ := h; ⟨a, e, k _ _ q⟩
theorem pdeed {K : PySem.W.Frag} {H H' : Hp} (k : KT K H H') {xs : List V} {l : List Deed} (r : Paired (IsDeed K H) xs l) : Paired (IsDeed K H') xs l := Paired.mapP r fun _ _ h => IsDeed.kt k h
theorem IsPlay.kt {K : PySem.W.Frag} {H H' : Hp} (k : KT K H H') {v : V} {P : Play} (h : IsPlay K H v P) : IsPlay K H' v P := let ⟨a, da, ta, ds, e, h1, h2, h3, h4⟩ := h; ⟨a, da, ta, ds, e, k _ _ h1, k _ _ h2, pdeed k h3, k _ _ h4⟩
inductive Got where
  | non | lost | got (i : Int)
  deriving DecidableEq
def gotV : Got → V
  | .non => .non
  | .lost => .str "lost"
  | .got i => .int i
def optI : Option Int → V
  | none => .non
  | some i => .int i
def gotO : Option Int → Got
  | none => .non
  | some i => .got i
theorem gotO_V (o : Option Int) : gotV (gotO o) = optI o := by cases o <;> rfl
structure Mv where
  past : Nat
  small : Nat
  fr : Option Int
  held : Option Int
  told : List Got
structure Bx where
  boxes : List Int
  near : Int
  far : Int
structure Wlk where
  mvs : List Mv
  b : Bx
def boxB (b : Bx) (i : Int) : Int := b.boxes.getD i.toNat 0
def fO (m : Mv) : Int := m.fr.getD 0
def endM (m : Mv) : Mv := ⟨m.past + 1, 0, none, none, m.told⟩
def comeM (m : Mv) (g : Got) : Mv := ⟨m.past + 1, 0, none, none, m.told ++ [g]⟩
def putB (b : Bx) (x : Int) : Bx := if b.near = (b.boxes.length : Int) then { b with boxes := b.boxes ++ [x] } else { b with boxes := b.boxes.set b.near.toNat x }
def layS (i : Int) (b : Bx) (m : Mv) : Bx × Mv := if m.small = 0 then (putB b i, { m with small := 1 }) else ({ b with near := b.near + 1 }, endM m)
def thirdS (b : Bx) (m : Mv) : Bx × Mv :=
  if b.near < fO m then ({ b with near := fO m }, comeM m .non)
  else if fO m < b.near then (b, comeM m (.got (boxB b b.near)))
  else (b, { m with small := 3, held := some (boxB b b.near) })
def fourthS (b : Bx) (m : Mv) : Bx × Mv := if b.far = fO m then ({ b with far := b.far + 1 }, { m with small := 4 }) else (b, { m with small := 4, held := none })
def takeS (r : Str) (b : Bx) (m : Mv) : Bx × Mv :=
  if m.small = 0 then ({ b with near := b.near - 1 }, { m with small := 1 })
  else if m.small = 1 then (b, { m with small := 2, fr := some b.far })
  else if m.small = 2 then thirdS b m
  else if m.small = 3 ∧ r ≠ "bare" then fourthS b m
  else ({ b with near := fO m + 1 }, comeM m (gotO m.held))
def tryS (r : Str) (b : Bx) (m : Mv) : Bx × Mv :=
  if m.small = 0 then (b, { m with small := 1, fr := some b.far })
  else if m.small = 1 then (if b.near ≤ fO m then (b, comeM m .non) else (b, { m with small := 2 }))
  else if m.small = 2 then (b, { m with small := 3, held := some (boxB b (fO m)) })
  else if r = "blind" ∨ b.far = fO m then ({ b with far := fO m + 1 }, comeM m (gotO m.held))
  else (b, comeM m .lost)
def ownS (P : Play) (r : Str) (b : Bx) (m : Mv) : Bx × Mv :=
  match P.1[m.past]? with
  | some (.lay x) => layS x b m
  | _ => takeS r b m
def moveS (P : Play) (r : Str) (h : Nat) (b : Bx) (m : Mv) : Bx × Mv := if 0 < h then tryS r b m else ownS P r b m
def Wlk.to (w : Wlk) (h : Nat) (g : Bx × Mv) : Wlk := ⟨w.mvs.set h g.2, g.1⟩
def mv0 : Mv := ⟨0, 0, none, none, []⟩
def mvAt (w : Wlk) (h : Nat) : Mv := w.mvs.getD h mv0
def moveW (P : Play) (r : Str) (w : Wlk) (h : Nat) : Wlk := w.to h (moveS P r h w.b (mvAt w h))
def walk0 (P : Play) : Wlk := ⟨List.replicate (nW P) mv0, ⟨[], 0, 0⟩⟩
def leftL (b : Bx) : List Int := (List.range (b.near - b.far).toNat).map fun k : Nat => boxB b (b.far + (k : Int))
def hasLeft (P : Play) (w : Wlk) (h : Nat) : Bool := decide ((mvAt w h).past < (dueL P).getD h 0)
def leftB (P : Play) (w : Wlk) : V → Bool
  | .int i => (decide (0 ≤ i) && decide (i < (nW P : Int))) && hasLeft P w i.toNat
  | _ => false
structure WA where
  p : Addr
  dx : Addr
  pv : V
  du : Addr
  pa : Addr
  sm : Addr
  fr : Addr
  he : Addr
  to : Addr
  bo : Addr
  rows : List Addr
def wflds (x : WA) (r : Str) (a b : Int) : List (Str × V) :=
  [("play", x.pv), ("rules", .str r), ("due_deeds", .ref x.du), ("past_deeds", .ref x.pa), ("small_done", .ref x.sm), ("far_read", .ref x.fr), ("held", .ref x.he), ("told", .ref x.to), ("boxes", .ref x.bo), ("near", .int a), ("far", .int b)]
section
variable (x : WA) (r : Str) (a b : Int)
theorem wl_play : (wflds x r a b).lookup ("play" : Str) = some x.pv := lk_eq
theorem wl_rules : (wflds x r a b).lookup ("rules" : Str) = some (.str r) := lk_ne (by decide +kernel) lk_eq
theorem wl_due : (wflds x r a b).lookup ("due_deeds" : Str) = some (.ref x.du) := lk_ne (by decide +kernel) (lk_ne (by decide +kernel) lk_eq)
theorem wl_past : (wflds x r a b).lookup ("past_deeds" : Str) = some (.ref x.pa) := lk_ne (by decide +kernel) (lk_ne (by decide +kernel) (lk_ne (by decide +kernel) lk_eq))
theorem wl_small : (wflds x r a b).lookup ("small_done" : Str) = some (.ref x.sm) := lk_ne (by decide +kernel) (lk_ne (by decide +kernel) (lk_ne (by decide +kernel) (lk_ne (by decide +kernel) lk_eq)))
theorem wl_fr : (wflds x r a b).lookup ("far_read" : Str) = some (.ref x.fr) := lk_ne (by decide +kernel) (lk_ne (by decide +kernel) (lk_ne (by decide +kernel) (lk_ne (by decide +kernel) (lk_ne (by decide +kernel) lk_eq))))
theorem wl_held : (wflds x r a b).lookup ("held" : Str) = some (.ref x.he) := lk_ne (by decide +kernel) (lk_ne (by decide +kernel) (lk_ne (by decide +kernel) (lk_ne (by decide +kernel) (lk_ne (by decide +kernel) (lk_ne (by decide +kernel) lk_eq)))))
theorem wl_told : (wflds x r a b).lookup ("told" : Str) = some (.ref x.to) := lk_ne (by decide +kernel) (lk_ne (by decide +kernel) (lk_ne (by decide +kernel) (lk_ne (by decide +kernel) (lk_ne (by decide +kernel) (lk_ne (by decide +kernel) (lk_ne (by decide +kernel) lk_eq))))))
theorem wl_boxes : (wflds x r a b).lookup ("boxes" : Str) = some (.ref x.bo) := lk_ne (by decide +kernel) (lk_ne (by decide +kernel) (lk_ne (by decide +kernel) (lk_ne (by decide +kernel) (lk_ne (by decide +kernel) (lk_ne (by decide +kernel) (lk_ne (by decide +kernel) (lk_ne (by decide +kernel) lk_eq)))))))
theorem wl_near : (wflds x r a b).lookup ("near" : Str) = some (.int a) := lk_ne (by decide +kernel) (lk_ne (by decide +kernel) (lk_ne (by decide +kernel) (lk_ne (by decide +kernel) (lk_ne (by decide +kernel) (lk_ne (by decide +kernel) (lk_ne (by decide +kernel) (lk_ne (by decide +kernel) (lk_ne (by decide +kernel) lk_eq))))))))
theorem wl_far : (wflds x r a b).lookup ("far" : Str) = some (.int b) := lk_ne (by decide +kernel) (lk_ne (by decide +kernel) (lk_ne (by decide +kernel) (lk_ne (by decide +kernel) (lk_ne (by decide +kernel) (lk_ne (by decide +kernel) (lk_ne (by decide +kernel) (lk_ne (by decide +kernel) (lk_ne (by decide +kernel) (lk_ne (by decide +kernel) lk_eq)))))))))
theorem wl_no {m : Str} (h : (["play", "rules", "due_deeds", "past_deeds", "small_done", "far_read", "held", "told", "boxes", "near", "far"] : List Str).all (fun k => !(m == k)) = true) : (wflds x r a b).lookup m = none := by
  simp only [List.all_cons, List.all_nil, Bool.and_true, Bool.and_eq_true, Bool.not_eq_true'] at h
  obtain ⟨h1, h2, h3, h4, h5, h6, h7, h8, h9, h10, h11⟩ := h
  exact lk_ne h1 (lk_ne h2 (lk_ne h3 (lk_ne h4 (lk_ne h5 (lk_ne h6 (lk_ne h7 (lk_ne h8 (lk_ne h9 (lk_ne h10 (lk_ne h11 rfl))))))))))
theorem wp_near (y : Int) : putF "near" (.int y) (wflds x r a b) = wflds x r y b := pf_ne (by decide +kernel) (pf_ne (by decide +kernel) (pf_ne (by decide +kernel) (pf_ne (by decide +kernel) (pf_ne (by decide +kernel) (pf_ne (by decide +kernel) (pf_ne (by decide +kernel) (pf_ne (by decide +kernel) (pf_ne (by decide +kernel) pf_eq))))))))
theorem wp_far (y : Int) : putF "far" (.int y) (wflds x r a b) = wflds x r a y := pf_ne (by decide +kernel) (pf_ne (by decide +kernel) (pf_ne (by decide +kernel) (pf_ne (by decide +kernel) (pf_ne (by decide +kernel) (pf_ne (by decide +kernel) (pf_ne (by decide +kernel) (pf_ne (by decide +kernel) (pf_ne (by decide +kernel) (pf_ne (by decide +kernel) pf_eq)))))))))
theorem wfew : (wflds x r a b).length < 1000 := by show 11 < 1000; decide
end
abbrev LsAt (H : Hp) (as : List Addr) (cs : List (List V)) : Prop := Paired (fun a l => H a = some (.lst l)) as cs
theorem ls_same {H H' : Hp} (s : Same H H') {as : List Addr} {cs : List (List V)} (h : LsAt H as cs) : LsAt H' as cs := Paired.mapP h fun _ _ e => s _ _ e
theorem ls_far {H : Hp} {a0 : Addr} {o : HO} : ∀ {as : List Addr} {cs : List (List V)}, a0 ∉ as → LsAt H as cs → LsAt (upd H a0 o) as cs
  | _, _, _, .nil => .nil
  | _, _, h, .cons r t => .cons (by rw [upd_ne fun e => h (by rw [e]; exact List.mem_cons_self)]; exact r) (ls_far (fun m => h (List.mem_cons_of_mem _ m)) t)
theorem ls_put {H : Hp} {a0 : Addr} {l' : List V} : ∀ {as : List Addr} {cs : List (List V)} (j : Nat), as.Nodup → as[j]? = some a0 → LsAt H as cs → LsAt (upd H a0 (.lst l')) as (cs.set j l')
  | _, _, _, _, e, .nil => by simp at e
  | _, _, 0, nd, e, .cons r t => by
    have e' := Option.some.inj (show some _ = some a0 from e)
    subst e'
    exact .cons upd_same (ls_far (List.nodup_cons.mp nd).1 t)
  | a :: _, _, j + 1, nd, e, .cons r t => by
    have hm : a0 ∈ _ := List.mem_of_getElem? (show _ = some a0 from (by simpa using e))
    have ne : a ≠ a0 := fun z => (List.nodup_cons.mp nd).1 (by rw [z]; exact hm)
    exact .cons (by rw [upd_ne ne]; exact r) (ls_put j (List.nodup_cons.mp nd).2 (by simpa using e) t)
theorem ls_mem {H : Hp} {a : Addr} : ∀ {as : List Addr} {cs : List (List V)}, a ∈ as → LsAt H as cs → ∃ l, H a = some (.lst l)
  | _, _, h, .nil => by cases h
  | _, _, h, .cons r t => by
    rcases List.mem_cons.mp h with e | e
    · subst e; exact ⟨_, r⟩
    · exact ls_mem e t
def addrW (x : WA) : List Addr := [x.du, x.pa, x.sm, x.fr, x.he, x.to, x.bo] ++ x.rows
def contW (x : WA) (P : Play) (w : Wlk) : List (List V) :=
  [(dueL P).map natV, w.mvs.map fun m => natV m.past, w.mvs.map fun m => natV m.small, w.mvs.map fun m => optI m.fr, w.mvs.map fun m => optI m.held, x.rows.map V.ref, w.b.boxes.map V.int] ++ w.mvs.map fun m => m.told.map gotV
structure WalkAt (K : PySem.W.Frag) (C : Addr) (H : Hp) (x : WA) (P : Play) (r : Str) (w : Wlk) : Prop where
  ob : H x.p = some (.ins C x.dx (wflds x r w.b.near w.b.far))
  play : IsPlay K H x.pv P
  ls : LsAt H (addrW x) (contW x P w)
  nd : (addrW x).Nodup
  len : w.mvs.length = nW P
def KeepW (x : WA) (H H' : Hp) : Prop := ∀ b o, H b = some o → b ≠ x.p → b ∉ addrW x → H' b = some o
theorem KeepW.refl (x : WA) (H : Hp) : KeepW x H H := fun _ _ h _ _ => h
theorem KeepW.trans {x : WA} {H H1 H2 : Hp} (a : KeepW x H H1) (b : KeepW x H1 H2) : KeepW x H H2 := fun c o h n m => b c o (a c o h n m) n m
theorem KeepW.of {x : WA} {H H' : Hp} (s : Same H H') : KeepW x H H' := fun b o h _ _ => s b o h
theorem KeepW.put {x : WA} {i : Nat} {a : Addr} (h : (addrW x)[i]? = some a) (H : Hp) (o : HO) : KeepW x H (upd H a o) := fun b u e _ m => by rw [upd_ne fun z => m (by rw [z]; exact List.mem_of_getElem? h)]; exact e
theorem KeepW.putP (x : WA) (H : Hp) (o : HO) : KeepW x H (upd H x.p o) := fun b u e n _ => by rw [upd_ne n]; exact e
section
variable {K : PySem.W.Frag} {C : Addr} {H H' : Hp} {x : WA} {P : Play} {r : Str} {w : Wlk}
theorem WalkAt.at (A : WalkAt K C H x P r w) (i : Nat) {a : Addr} {l : List V} (h1 : (addrW x)[i]? = some a) (h2 : (contW x P w)[i]? = some l) : H a = some (.lst l) := by
  obtain ⟨a', e, q⟩ := pget A.ls h2
  rw [h1] at e
  cases e
  exact q
theorem WalkAt.due (A : WalkAt K C H x P r w) : H x.du = some (.lst ((dueL P).map natV)) := A.at 0 rfl rfl
theorem WalkAt.past (A : WalkAt K C H x P r w) : H x.pa = some (.lst (w.mvs.map fun m => natV m.past)) := A.at 1 rfl rfl
theorem WalkAt.small (A : WalkAt K C H x P r w) : H x.sm = some (.lst (w.mvs.map fun m => natV m.small)) := A.at 2 rfl rfl
theorem WalkAt.fr (A : WalkAt K C H x P r w) : H x.fr = some (.lst (w.mvs.map fun m => optI m.fr)) := A.at 3 rfl rfl
theorem WalkAt.held (A : WalkAt K C H x P r w) : H x.he = some (.lst (w.mvs.map fun m => optI m.held)) := A.at 4 rfl rfl
theorem WalkAt.told (A : WalkAt K C H x P r w) : H x.to = some (.lst (x.rows.map V.ref)) := A.at 5 rfl rfl
theorem WalkAt.boxes (A : WalkAt K C H x P r w) : H x.bo = some (.lst (w.b.boxes.map V.int)) := A.at 6 rfl rfl
theorem WalkAt.row (A : WalkAt K C H x P r w) {j : Nat} {m : Mv} (h : w.mvs[j]? = some m) : ∃ a, x.rows[j]? = some a ∧ (addrW x)[j + 7]? = some a ∧ H a = some (.lst (m.told.map gotV)) ∧ (x.rows.map V.ref)[j]? = some (.ref a) := by
  obtain ⟨a, e, q⟩ := pget A.ls (i := j + 7) (y := m.told.map gotV) (by
    show (w.mvs.map fun m => m.told.map gotV)[j]? = _
    rw [List.getElem?_map, h]; rfl)
  have e' : x.rows[j]? = some a := e
  exact ⟨a, e', e, q, by rw [List.getElem?_map, e']; rfl⟩
theorem WalkAt.out (A : WalkAt K C H x P r w) {b : Addr} {o : HO} (h : H b = some o) (h1 : ∀ l, o ≠ .lst l) (h2 : ∀ d fs, o ≠ .ins C d fs) : b ≠ x.p ∧ b ∉ addrW x := by
  refine ⟨fun e => ?_, fun m => ?_⟩
  · subst e
    rw [A.ob] at h
    exact h2 _ _ (Option.some.inj h).symm
  · obtain ⟨l, e⟩ := ls_mem m A.ls
    rw [e] at h
    exact h1 l (Option.some.inj h).symm
theorem WalkAt.new (A : WalkAt K C H x P r w) {b : Addr} (h : H b = none) : b ≠ x.p ∧ b ∉ addrW x := by
  refine ⟨fun e => ?_, fun m => ?_⟩
  · subst e; rw [A.ob] at h; cases h
  · obtain ⟨l, e⟩ := ls_mem m A.ls
    rw [e] at h; cases h
theorem WalkAt.kt (A : WalkAt K C H x P r w) (k : KeepW x H H') : KT K H H' := fun b xs h => by
  rcases h with (h | ⟨o, h⟩) | h
  · obtain ⟨n1, n2⟩ := A.out h (fun _ z => nomatch z) (fun _ _ z => nomatch z)
    exact .inl (.inl (k b _ h n1 n2))
  · obtain ⟨n1, n2⟩ := A.out h (fun _ z => nomatch z) (fun _ _ z => nomatch z)
    exact .inl (.inr ⟨o, k b _ h n1 n2⟩)
  · exact .inr h
theorem WalkAt.same (A : WalkAt K C H x P r w) (s : Same H H') : WalkAt K C H' x P r w := ⟨s _ _ A.ob, A.play.kt (KT.same s), ls_same s A.ls, A.nd, A.len⟩
theorem WalkAt.pne (A : WalkAt K C H x P r w) {a : Addr} (h : a ∈ addrW x) : x.p ≠ a := by
  obtain ⟨l, e⟩ := ls_mem h A.ls
  exact ne_of A.ob e (fun z => nomatch z)
theorem WalkAt.put (A : WalkAt K C H x P r w) {i : Nat} {a : Addr} {l : List V} {w' : Wlk} (hi : (addrW x)[i]? = some a) (hw : contW x P w' = (contW x P w).set i l) (hn : w'.b.near = w.b.near) (hf : w'.b.far = w.b.far) (hl : w'.mvs.length = w.mvs.length) : WalkAt K C (upd H a (.lst l)) x P r w' := by
  have hm := List.mem_of_getElem? hi
  refine ⟨by rw [upd_ne (A.pne hm), hn, hf]; exact A.ob, A.play.kt (A.kt (KeepW.put hi H _)), ?_, A.nd, hl.trans A.len⟩
  rw [hw]
  exact ls_put i A.nd hi A.ls
theorem cont_set {x : WA} {P : Play} {w : Wlk} {h : Nat} {m m' : Mv} (hm : w.mvs[h]? = some m) :
    contW x P ⟨w.mvs.set h m', w.b⟩ = [(dueL P).map natV, (w.mvs.map fun m => natV m.past).set h (natV m'.past), (w.mvs.map fun m => natV m.small).set h (natV m'.small), (w.mvs.map fun m => optI m.fr).set h (optI m'.fr), (w.mvs.map fun m => optI m.held).set h (optI m'.held), x.rows.map V.ref, w.b.boxes.map V.int] ++ (w.mvs.map fun m => m.told.map gotV).set h (m'.told.map gotV) := by
  unfold contW
  simp only [List.map_set]
theorem set_same {α : Type} {l : List α} {h : Nat} {a : α} (e : l[h]? = some a) : l.set h a = l := by
  obtain ⟨h1, rfl⟩ := List.getElem?_eq_some_iff.mp e
  exact List.set_getElem_self h1
theorem map_at {α β : Type} {f : α → β} {l : List α} {j : Nat} {y : α} (h : l[j]? = some y) : (l.map f)[j]? = some (f y) := by rw [List.getElem?_map, h]; rfl
section
variable {h : Nat} {m : Mv}
theorem WalkAt.setPast (A : WalkAt K C H x P r w) (hm : w.mvs[h]? = some m) (n : Nat) : WalkAt K C (upd H x.pa (.lst ((w.mvs.map fun m => natV m.past).set h (natV n)))) x P r ⟨w.mvs.set h { m with past := n }, w.b⟩ :=
  A.put (i := 1) rfl (by rw [cont_set hm, set_same (map_at (f := fun m : Mv => natV m.small) hm), set_same (map_at (f := fun m : Mv => optI m.fr) hm), set_same (map_at (f := fun m : Mv => optI m.held) hm), set_same (map_at (f := fun m : Mv => m.told.map gotV) hm)]; rfl) rfl rfl List.length_set
theorem WalkAt.setSmall (A : WalkAt K C H x P r w) (hm : w.mvs[h]? = some m) (n : Nat) : WalkAt K C (upd H x.sm (.lst ((w.mvs.map fun m => natV m.small).set h (natV n)))) x P r ⟨w.mvs.set h { m with small := n }, w.b⟩ :=
  A.put (i := 2) rfl (by rw [cont_set hm, set_same (map_at (f := fun m : Mv => natV m.past) hm), set_same (map_at (f := fun m : Mv => optI m.fr) hm), set_same (map_at (f := fun m : Mv => optI m.held) hm), set_same (map_at (f := fun m : Mv => m.told.map gotV) hm)]; rfl) rfl rfl List.length_set
theorem WalkAt.setFr (A : WalkAt K C H x P r w) (hm : w.mvs[h]? = some m) (o : Option Int) : WalkAt K C (upd H x.fr (.lst ((w.mvs.map fun m => optI m.fr).set h (optI o)))) x P r ⟨w.mvs.set h { m with fr := o }, w.b⟩ :=
  A.put (i := 3) rfl (by rw [cont_set hm, set_same (map_at (f := fun m : Mv => natV m.past) hm), set_same (map_at (f := fun m : Mv => natV m.small) hm), set_same (map_at (f := fun m : Mv => optI m.held) hm), set_same (map_at (f := fun m : Mv => m.told.map gotV) hm)]; rfl) rfl rfl List.length_set
theorem WalkAt.setHeld (A : WalkAt K C H x P r w) (hm : w.mvs[h]? = some m) (o : Option Int) : WalkAt K C (upd H x.he (.lst ((w.mvs.map fun m => optI m.held).set h (optI o)))) x P r ⟨w.mvs.set h { m with held := o }, w.b⟩ :=
  A.put (i := 4) rfl (by rw [cont_set hm, set_same (map_at (f := fun m : Mv => natV m.past) hm), set_same (map_at (f := fun m : Mv => natV m.small) hm), set_same (map_at (f := fun m : Mv => optI m.fr) hm), set_same (map_at (f := fun m : Mv => m.told.map gotV) hm)]; rfl) rfl rfl List.length_set
theorem WalkAt.setRow (A : WalkAt K C H x P r w) (hm : w.mvs[h]? = some m) {a : Addr} (hj : (addrW x)[h + 7]? = some a) (l : List Got) : WalkAt K C (upd H a (.lst (l.map gotV))) x P r ⟨w.mvs.set h { m with told := l }, w.b⟩ :=
  A.put hj (by rw [cont_set hm, set_same (map_at (f := fun m : Mv => natV m.past) hm), set_same (map_at (f := fun m : Mv => natV m.small) hm), set_same (map_at (f := fun m : Mv => optI m.fr) hm), set_same (map_at (f := fun m : Mv => optI m.held) hm)]; rfl) rfl rfl List.length_set
end
theorem WalkAt.setBoxes (A : WalkAt K C H x P r w) (l : List Int) : WalkAt K C (upd H x.bo (.lst (l.map V.int))) x P r ⟨w.mvs, { w.b with boxes := l }⟩ := A.put (i := 6) rfl rfl rfl rfl rfl
theorem WalkAt.setOb (A : WalkAt K C H x P r w) (a b : Int) : WalkAt K C (upd H x.p (.ins C x.dx (wflds x r a b))) x P r ⟨w.mvs, { w.b with near := a, far := b }⟩ :=
  ⟨upd_same, A.play.kt (A.kt (KeepW.putP x H _)), ls_far (fun hm => A.pne hm rfl) A.ls, A.nd, A.len⟩
end
theorem getD_get {α : Type} {l : List α} {j : Nat} (d : α) (h : j < l.length) : l[j]? = some (l.getD j d) := by
  rw [List.getD_eq_getElem?_getD, List.getElem?_eq_getElem h]; rfl
theorem WalkAt.mv {K : PySem.W.Frag} {C : Addr} {H : Hp} {x : WA} {P : Play} {r : Str} {w : Wlk} (A : WalkAt K C H x P r w) {h : Nat} (hh : h < nW P) : w.mvs[h]? = some (mvAt w h) := getD_get mv0 (by rw [A.len]; exact hh)
structure TxtW (K : PySem.W.Frag) (mg : Str → Option Value) (C : Addr) : Prop where
  cl : Cls K C
  n_play : NoAttr K C "play"
  n_rules : NoAttr K C "rules"
  n_due : NoAttr K C "due_deeds"
  n_past : NoAttr K C "past_deeds"
  n_small : NoAttr K C "small_done"
  n_fr : NoAttr K C "far_read"
  n_held : NoAttr K C "held"
  n_told : NoAttr K C "told"
  n_boxes : NoAttr K C "boxes"
  n_near : NoAttr K C "near"
  n_far : NoAttr K C "far"
  mgWalk : mg "Walk" = some (.ref C)
  len : mg "len" = none
  list : mg "list" = none
  tuple : mg "tuple" = none
  range : mg "range" = none
  isinstance : mg "isinstance" = none
  int : mg "int" = none
  bool : mg "bool" = none
  enumerate : mg "enumerate" = none
  abs : mg "abs" = none
  min : mg "min" = none
  max : mg "max" = none
  sorted : mg "sorted" = none
  repr : mg "repr" = none
section
variable (K : PySem.W.Frag) (C : Addr)
def spEndDeed : Sp := fun vs H Q _ => ∃ (x : WA) (P : Play) (r : Str) (w : Wlk) (h : Nat) (m : Mv), vs = [.ref x.p, natV h] ∧ WalkAt K C H x P r w ∧ w.mvs[h]? = some m ∧
  ∀ H', WalkAt K C H' x P r (w.to h (w.b, endM m)) → KeepW x H H' → Q .non H'
def spComeTo : Sp := fun vs H Q _ => ∃ (x : WA) (P : Play) (r : Str) (w : Wlk) (h : Nat) (m : Mv) (g : Got), vs = [.ref x.p, natV h, gotV g] ∧ WalkAt K C H x P r w ∧ w.mvs[h]? = some m ∧ m.told.length ≤ 100 ∧
  ∀ H', WalkAt K C H' x P r (w.to h (w.b, comeM m g)) → KeepW x H H' → Q .non H'
def spPutNear : Sp := fun vs H Q _ => ∃ (x : WA) (P : Play) (r : Str) (w : Wlk) (i : Int), vs = [.ref x.p, .int i] ∧ WalkAt K C H x P r w ∧ 0 ≤ w.b.near ∧ w.b.near ≤ w.b.boxes.length ∧ w.b.boxes.length ≤ 100 ∧
  ∀ H', WalkAt K C H' x P r ⟨w.mvs, putB w.b i⟩ → KeepW x H H' → Q .non H'
abbrev upS (m : Mv) : Mv := { m with small := m.small + 1 }
def spMoveLay : Sp := fun vs H Q _ => ∃ (x : WA) (P : Play) (r : Str) (w : Wlk) (i : Int) (m : Mv), vs = [.ref x.p, natV m.small] ∧ WalkAt K C H x P r w ∧ w.mvs[0]? = some (upS m) ∧ P.1[m.past]? = some (.lay i) ∧ w.b.boxes.length ≤ 100 ∧ (m.small = 0 → 0 ≤ w.b.near ∧ w.b.near ≤ w.b.boxes.length) ∧
  ∀ H', WalkAt K C H' x P r (w.to 0 (layS i w.b m)) → KeepW x H H' → Q .non H'
def spTakeThird : Sp := fun vs H Q _ => ∃ (x : WA) (P : Play) (r : Str) (w : Wlk) (m : Mv) (f : Int), vs = [.ref x.p] ∧ WalkAt K C H x P r w ∧ w.mvs[0]? = some (upS m) ∧ m.small = 2 ∧ m.fr = some f ∧ m.told.length ≤ 100 ∧ (f ≤ w.b.near → 0 ≤ w.b.near ∧ w.b.near < w.b.boxes.length) ∧
  ∀ H', WalkAt K C H' x P r (w.to 0 (thirdS w.b m)) → KeepW x H H' → Q .non H'
def spTakeFourth : Sp := fun vs H Q _ => ∃ (x : WA) (P : Play) (r : Str) (w : Wlk) (m : Mv) (f : Int), vs = [.ref x.p] ∧ WalkAt K C H x P r w ∧ w.mvs[0]? = some (upS m) ∧ m.small = 3 ∧ m.fr = some f ∧
  ∀ H', WalkAt K C H' x P r (w.to 0 (fourthS w.b m)) → KeepW x H H' → Q .non H'
def spMoveTake : Sp := fun vs H Q _ => ∃ (x : WA) (P : Play) (r : Str) (w : Wlk) (m : Mv), vs = [.ref x.p, natV m.small] ∧ WalkAt K C H x P r w ∧ w.mvs[0]? = some (upS m) ∧ m.told.length ≤ 100 ∧ (2 ≤ m.small → ∃ f, m.fr = some f ∧ (m.small = 2 → f ≤ w.b.near → 0 ≤ w.b.near ∧ w.b.near < w.b.boxes.length)) ∧
  ∀ H', WalkAt K C H' x P r (w.to 0 (takeS r w.b m)) → KeepW x H H' → Q .non H'
def spMoveTry : Sp := fun vs H Q _ => ∃ (x : WA) (P : Play) (r : Str) (w : Wlk) (h : Nat) (m : Mv), vs = [.ref x.p, natV h, natV m.small] ∧ WalkAt K C H x P r w ∧ w.mvs[h]? = some (upS m) ∧ m.told.length ≤ 100 ∧ (1 ≤ m.small → ∃ f, m.fr = some f ∧ (m.small = 2 → 0 ≤ f ∧ f < w.b.boxes.length)) ∧
  ∀ H', WalkAt K C H' x P r (w.to h (tryS r w.b m)) → KeepW x H H' → Q .non H'
structure Rdy (P : Play) (h : Nat) (b : Bx) (m : Mv) : Prop where
  told : m.told.length ≤ 100
  box : b.boxes.length ≤ 100
  thief : 0 < h → 1 ≤ m.small → ∃ f, m.fr = some f ∧ (m.small = 2 → 0 ≤ f ∧ f < b.boxes.length)
  due : h = 0 → m.past < P.1.length
  lay : h = 0 → ∀ i, P.1[m.past]? = some (.lay i) → m.small = 0 → 0 ≤ b.near ∧ b.near ≤ b.boxes.length
  take : h = 0 → P.1[m.past]? = some .take → 2 ≤ m.small → ∃ f, m.fr = some f ∧ (m.small = 2 → f ≤ b.near → 0 ≤ b.near ∧ b.near < b.boxes.length)
def spMove : Sp := fun vs H Q _ => ∃ (x : WA) (P : Play) (r : Str) (w : Wlk) (h : Nat), vs = [.ref x.p, natV h] ∧ WalkAt K C H x P r w ∧ h < nW P ∧ Rdy P h w.b (mvAt w h) ∧
  ∀ H', WalkAt K C H' x P r (moveW P r w h) → KeepW x H H' → Q .non H'
def spHasLeft : Sp := fun vs H Q _ => ∃ (x : WA) (P : Play) (r : Str) (w : Wlk) (v : V) (b : Bool), vs = [.ref x.p, v] ∧ WalkAt K C H x P r w ∧ WholeIs K H v b ∧ Q (.bl (b && leftB P w v)) H
def spOutcome : Sp := fun vs H Q _ => ∃ (x : WA) (P : Play) (r : Str) (w : Wlk), vs = [.ref x.p] ∧ WalkAt K C H x P r w ∧ nW P ≤ 100 ∧ 0 ≤ w.b.far ∧ -1 ≤ w.b.near ∧ w.b.near ≤ w.b.boxes.length ∧ w.b.boxes.length ≤ 100 ∧ w.b.far ≤ 100 ∧
  ∀ (T L1 L2 : Addr) (rows : List Addr) H', H T = none → (L1 :: L2 :: rows).Nodup → (∀ a ∈ L1 :: L2 :: rows, H a = none) → Same H H' → H' T = some (.tup [.ref L1, .ref L2]) → H' L1 = some (.lst (rows.map V.ref)) → H' L2 = some (.lst ((leftL w.b).map V.int)) → LsAt H' rows (w.mvs.map fun m => m.told.map gotV) → Q (.ref T) H'
def spWInit : Sp := fun vs H Q _ => ∃ (p dx : Addr) (pv : V) (P : Play) (r : Str), vs = [.ref p, pv, .str r] ∧ H p = some (.ins C dx []) ∧ IsPlay K H pv P ∧ nW P ≤ 100 ∧ P.1.length ≤ 100 ∧
  ∀ (x : WA) H', x.p = p → x.dx = dx → x.pv = pv → WalkAt K C H' x P r (walk0 P) → (∀ b o, H b = some o → b ≠ p → H' b = some o) → (∀ a ∈ addrW x, H a = none) → Q .non H'
end
def spIsWhole (K : PySem.W.Frag) : Sp := fun vs H Q _ => ∃ (v : V) (b : Bool), vs = [v] ∧ WholeIs K H v b ∧ Q (.bl b) H
end Far
set_option Elab.async false
set_option linter.all false
set_option maxRecDepth 100000
set_option maxHeartbeats 4000000
namespace Far
open PySem L2
def top (i : Nat) : Stmt := PySem.Challenge.pw_farend_k48_small_weavings_refused.main.body.getD i (.Pass ⟨0, 0, 0, 0⟩)
abbrev sNoTurn : Stmt := top 3
abbrev sNTInit : Stmt := inClass sNoTurn 0
abbrev sIsWhole : Stmt := top 12
abbrev sWalk : Stmt := top 14
abbrev sWalked : Stmt := top 15
abbrev sMix : Stmt := top 17
abbrev sDigits : Stmt := top 18
abbrev sAt : Stmt := top 19
abbrev sLFirst : Stmt := top 20
abbrev sLTakeP : Stmt := top 21
abbrev sLTryP : Stmt := top 22
abbrev sLStep : Stmt := top 23
abbrev sLToldBy : Stmt := top 24
abbrev sPlayD : Stmt := top 25
abbrev sLToEnd : Stmt := top 26
abbrev sLDue : Stmt := top 27
abbrev sLRefused : Stmt := top 28
abbrev sLaw : Stmt := top 29
abbrev sWInit : Stmt := inClass sWalk 0
abbrev sCopiedW : Stmt := inClass sWalk 1
abbrev sState : Stmt := inClass sWalk 2
abbrev sOutcome : Stmt := inClass sWalk 3
abbrev sHasLeft : Stmt := inClass sWalk 4
abbrev sMoversLeft : Stmt := inClass sWalk 5
abbrev sMove : Stmt := inClass sWalk 6
abbrev sEndDeed : Stmt := inClass sWalk 7
abbrev sComeTo : Stmt := inClass sWalk 8
abbrev sMoveLay : Stmt := inClass sWalk 9
abbrev sPutNear : Stmt := inClass sWalk 10
abbrev sMoveTake : Stmt := inClass sWalk 11
abbrev sTakeThird : Stmt := inClass sWalk 12
abbrev sTakeFourth : Stmt := inClass sWalk 13
abbrev sMoveTry : Stmt := inClass sWalk 14
end Far
set_option Elab.async false
set_option linter.all false
set_option maxRecDepth 100000
set_option maxHeartbeats 4000000
set_option pp.maxSteps 500
namespace Far
open PySem L2
theorem set_get {α : Type} {l : List α} {h : Nat} {m m' : α} (e : l[h]? = some m) : (l.set h m')[h]? = some m' := List.getElem?_set_self (List.getElem?_eq_some_iff.mp e).1
theorem WalkAt.re {K : PySem.W.Frag} {C : Addr} {H : Hp} {x : WA} {P : Play} {r : Str} {w w' : Wlk} (A : WalkAt K C H x P r w) (e : w = w') : WalkAt K C H x P r w' := e ▸ A
theorem wgen {K : PySem.W.Frag} {C : Addr} {H H1 : Hp} {x : WA} {P : Play} {r : Str} {w : Wlk} {Pr : Hp → Prop} (A : WalkAt K C H1 x P r w) (k : KeepW x H H1) (g : ∀ H1, WalkAt K C H1 x P r w → KeepW x H H1 → Pr H1) : Pr H1 := g H1 A k
theorem WalkAt.addRow {K : PySem.W.Frag} {C : Addr} {H : Hp} {x : WA} {P : Play} {r : Str} {w : Wlk} {h : Nat} {m : Mv} (A : WalkAt K C H x P r w) (hm : w.mvs[h]? = some m) {a : Addr} (hj : (addrW x)[h + 7]? = some a) (g : Got) : WalkAt K C (upd H a (.lst (m.told.map gotV ++ [gotV g]))) x P r ⟨w.mvs.set h { m with told := m.told ++ [g] }, w.b⟩ := by
  have A1 := A.setRow hm hj (m.told ++ [g])
  rw [List.map_append] at A1
  exact A1
section
variable {P : Program} {w : World} {K : PySem.W.Frag} {mg : Str → Option Value} {base : Heap} {C : Addr}
abbrev n_endDeed : List Str := ["self", "who"]
theorem sc_endDeed : FnScope n_endDeed ["self", "who"] (defScope sEndDeed) := ⟨rfl, rfl, rfl, by decide +kernel, rfl, by decide +kernel, by decide +kernel⟩
theorem ok_endDeed {f : Addr} {fd : FuncData} (F : Fun K "end_deed" "Walk.end_deed" sEndDeed f fd) (T : TxtW K mg C) :
    FnOk P w K mg base CX0 1 f fd ["self", "who"] (spEndDeed K C) := by
  refine F.ok sc_endDeed (fun vs H Q E h => ?_) (fun cdv Ar outer s H vs Q E hr h => ?_)
  · obtain ⟨x, P, r, w, h, m, rfl, _⟩ := h
    rfl
  · obtain ⟨x, P, r, w, h, m, rfl, A, hm, q⟩ := h
    refine ⟨_, pss_cons (ps_augS (pe_fld (pv 0) rfl) (pv 1) get_list (pe_int) ip_add set_list) (pss_cons (ps_asg (pe_int) (pg_sub (pe_fld (pv 0) rfl) (pv 1) set_list)) (pss_cons (ps_asg (pe_non) (pg_sub (pe_fld (pv 0) rfl) (pv 1) set_list)) (pss_one (ps_asg (pe_non) (pg_sub (pe_fld (pv 0) rfl) (pv 1) set_list))))), ?_⟩
    have hl := (List.getElem?_eq_some_iff.mp hm).1
    refine ⟨_, rfl, x.p, C, x.dx, _, _, rfl, A.ob, T.cl, T.n_past, wl_past _ _ _ _, _, rfl, x.pa, _, _, _, rfl, rfl, SqL.of A.past, atI_nat (map_at hm), _, _, rfl, rfl, x.pa, _, _, h, rfl, rfl, A.past, ixN_nat (by rw [List.length_map]; exact hl), ?_⟩
    refine wgen (A.setPast hm (m.past + 1)) (KeepW.put (i := 1) rfl _ _) fun H1 A1 k1 => ?_
    have m1 := set_get (m' := { m with past := m.past + 1 }) hm
    refine ⟨_, rfl, x.p, C, x.dx, _, _, rfl, A1.ob, T.cl, T.n_small, wl_small _ _ _ _, _, rfl, x.sm, _, _, h, rfl, rfl, A1.small, ixN_nat (by rw [List.length_map, List.length_set]; exact hl), ?_⟩
    refine wgen (A1.setSmall m1 0) (k1.trans (KeepW.put (i := 2) rfl _ _)) fun H2 A2 k2 => ?_
    have m2 := set_get (m' := { m with past := m.past + 1, small := 0 }) m1
    refine ⟨_, rfl, x.p, C, x.dx, _, _, rfl, A2.ob, T.cl, T.n_fr, wl_fr _ _ _ _, _, rfl, x.fr, _, _, h, rfl, rfl, A2.fr, ixN_nat (by rw [List.length_map, List.length_set, List.length_set]; exact hl), ?_⟩
    refine wgen (A2.setFr m2 none) (k2.trans (KeepW.put (i := 3) rfl _ _)) fun H3 A3 k3 => ?_
    have m3 := set_get (m' := { m with past := m.past + 1, small := 0, fr := none }) m2
    refine ⟨_, rfl, x.p, C, x.dx, _, _, rfl, A3.ob, T.cl, T.n_held, wl_held _ _ _ _, _, rfl, x.he, _, _, h, rfl, rfl, A3.held, ixN_nat (by rw [List.length_map, List.length_set, List.length_set, List.length_set]; exact hl), ?_⟩
    refine q _ ((A3.setHeld m3 none).re ?_) (k3.trans (KeepW.put (i := 4) rfl _ _))
    simp only [List.set_set]
    rfl
abbrev n_comeTo : List Str := ["self", "who", "what"]
theorem sc_comeTo : FnScope n_comeTo ["self", "who", "what"] (defScope sComeTo) := ⟨rfl, rfl, rfl, by decide +kernel, rfl, by decide +kernel, by decide +kernel⟩
theorem ok_comeTo {f : Addr} {fd : FuncData} (F : Fun K "come_to" "Walk.come_to" sComeTo f fd) (T : TxtW K mg C)
    {f_end_deed : Addr} {d_end_deed : FuncData} (G_end_deed : FnOk P w K mg base CX0 1 f_end_deed d_end_deed ["self", "who"] (spEndDeed K C)) (b_end_deed : Binds K d_end_deed ["self", "who"] []) (m_end_deed : Meth K C "end_deed" f_end_deed) :
    FnOk P w K mg base CX0 2 f fd ["self", "who", "what"] (spComeTo K C) := by
  refine F.ok sc_comeTo (fun vs H Q E h => ?_) (fun cdv Ar outer s H vs Q E hr h => ?_)
  · obtain ⟨x, P, r, w, h, m, g, rfl, _⟩ := h
    rfl
  · obtain ⟨x, P, r, w, h, m, g, rfl, A, hm, hb, q⟩ := h
    refine ⟨_, pss_cons (ps_expr (pe_bm PySem.F.plainAttrs_list PySem.F.slot_list_append PySem.F.type_list_append mt_append (pe_ix ix_list (pe_fld (pv 0) rfl) (pv 1) (fun _ _ => rfl)) (pa_cons (pv 2) pa_nil))) (pss_one (ps_expr (pe_meth (pv 0) T.cl m_end_deed G_end_deed (hr.mono (by decide)) b_end_deed .nil pass0 (pa_cons (pv 1) pa_nil)))), ?_⟩
    obtain ⟨a, ha, haw, hra, hrv⟩ := A.row hm
    refine ⟨_, rfl, x.p, C, x.dx, _, _, rfl, A.ob, T.cl, T.n_told, wl_told _ _ _ _, _, rfl, x.to, _, _, _, rfl, rfl, SqL.of A.told, atI_nat hrv, .inl ⟨rfl, _, SqL.of hra⟩, _, rfl, a, _, _, rfl, rfl, hra, small1000 (by rw [List.length_map]; omega), ?_⟩
    refine wgen (A.addRow hm haw g) (KeepW.put haw _ _) fun H1 A1 k1 => ?_
    refine ⟨_, rfl, x.p, x.dx, _, rfl, A1.ob, wl_no _ _ _ _ (by decide +kernel), _, rfl, x, P, r, _, h, _, rfl, A1, set_get hm, fun H2 A2 k2 => ?_⟩
    refine q _ (A2.re ?_) (k1.trans k2)
    unfold Wlk.to
    simp only [List.set_set]
    rfl
abbrev n_putNear : List Str := ["self", "thing"]
theorem sc_putNear : FnScope n_putNear ["self", "thing"] (defScope sPutNear) := ⟨rfl, rfl, rfl, by decide +kernel, rfl, by decide +kernel, by decide +kernel⟩
theorem ok_putNear {f : Addr} {fd : FuncData} (F : Fun K "put_near" "Walk.put_near" sPutNear f fd) (T : TxtW K mg C) :
    FnOk P w K mg base CX0 1 f fd ["self", "thing"] (spPutNear K C) := by
  refine F.ok sc_putNear (fun vs H Q E h => ?_) (fun cdv Ar outer s H vs Q E hr h => ?_)
  · obtain ⟨x, P, r, w, i, rfl, _⟩ := h
    rfl
  · obtain ⟨x, P, r, w, i, rfl, A, h0, h1, hb, q⟩ := h
    refine ⟨_, pss_one (ps_if (pt_cmpR op_eq (pe_fld (pv 0) rfl) (pe_callB call_len_seq rfl T.len PySem.boot_len (pa_cons (pe_fld (pv 0) rfl) pa_nil)) (nomark _)) (pss_one (ps_expr (pe_bm PySem.F.plainAttrs_list PySem.F.slot_list_append PySem.F.type_list_append mt_append (pe_fld (pv 0) rfl) (pa_cons (pv 1) pa_nil)))) (pss_one (ps_asg (pv 1) (pg_sub (pe_fld (pv 0) rfl) (pe_fld (pv 0) rfl) set_list)))), ?_⟩
    refine ⟨_, rfl, x.p, C, x.dx, _, _, rfl, A.ob, T.cl, T.n_near, wl_near _ _ _ _, _, rfl, x.p, C, x.dx, _, _, rfl, A.ob, T.cl, T.n_boxes, wl_boxes _ _ _ _, x.bo, _, rfl, .inl (SqL.of A.boxes), rfl, _, rfl, ?_⟩
    unfold putB at q
    rw [List.length_map]
    refine ite2 (fun e => ?_) (fun e => ?_)
    · have e' : w.b.near = (w.b.boxes.length : Int) := by injection of_decide_eq_true e
      rw [if_pos e'] at q
      refine ⟨_, rfl, x.p, C, x.dx, _, _, rfl, A.ob, T.cl, T.n_boxes, wl_boxes _ _ _ _, .inl ⟨rfl, _, SqL.of A.boxes⟩, _, rfl, x.bo, _, _, rfl, rfl, A.boxes, small1000 (by rw [List.length_map]; omega), ?_⟩
      refine q _ ?_ (KeepW.put (i := 6) rfl _ _)
      have A1 := A.setBoxes (w.b.boxes ++ [i])
      rw [List.map_append] at A1
      exact A1
    · have e' : ¬ w.b.near = (w.b.boxes.length : Int) := fun z => e (decide_eq_true (congrArg V.int z))
      rw [if_neg e'] at q
      refine ⟨_, rfl, _, rfl, x.p, C, x.dx, _, _, rfl, A.ob, T.cl, T.n_boxes, wl_boxes _ _ _ _, _, rfl, x.p, C, x.dx, _, _, rfl, A.ob, T.cl, T.n_near, wl_near _ _ _ _, x.bo, _, _, w.b.near.toNat, rfl, rfl, A.boxes, ix_int h0 (by rw [List.length_map]; omega), ?_⟩
      refine q _ ?_ (KeepW.put (i := 6) rfl _ _)
      have A1 := A.setBoxes (w.b.boxes.set w.b.near.toNat i)
      rw [List.map_set] at A1
      exact A1
abbrev n_takeFourth : List Str := ["self"]
theorem sc_takeFourth : FnScope n_takeFourth ["self"] (defScope sTakeFourth) := ⟨rfl, rfl, rfl, by decide +kernel, rfl, by decide +kernel, by decide +kernel⟩
theorem ok_takeFourth {f : Addr} {fd : FuncData} (F : Fun K "take_fourth" "Walk.take_fourth" sTakeFourth f fd) (T : TxtW K mg C) :
    FnOk P w K mg base CX0 1 f fd ["self"] (spTakeFourth K C) := by
  refine F.ok sc_takeFourth (fun vs H Q E h => ?_) (fun cdv Ar outer s H vs Q E hr h => ?_)
  · obtain ⟨x, P, r, w, m, f, rfl, _⟩ := h
    rfl
  · obtain ⟨x, P, r, w, m, f, rfl, A, hm, hs, hf, q⟩ := h
    refine ⟨_, pss_one (ps_if (pt_cmpR op_eq (pe_fld (pv 0) rfl) (pe_ix ix_list (pe_fld (pv 0) rfl) (pe_int) (fun _ _ => rfl)) (nomark _)) (pss_one (ps_fldaug (pv 0) (pe_int) in_add)) (pss_one (ps_asg (pe_non) (pg_sub (pe_fld (pv 0) rfl) (pe_int) set_list)))), ?_⟩
    have hl := (List.getElem?_eq_some_iff.mp hm).1
    have efo : fO m = f := by unfold fO; rw [hf]; rfl
    refine ⟨_, rfl, x.p, C, x.dx, _, _, rfl, A.ob, T.cl, T.n_far, wl_far _ _ _ _, _, rfl, x.p, C, x.dx, _, _, rfl, A.ob, T.cl, T.n_fr, wl_fr _ _ _ _, x.fr, _, _, _, rfl, rfl, SqL.of A.fr, atI_nat (j := 0) (map_at hm), ?_⟩
    rw [show optI (upS m).fr = V.int f from by show optI m.fr = _; rw [hf]; rfl]
    refine ⟨rfl, _, rfl, ?_⟩
    unfold fourthS at q
    rw [efo] at q
    have eup : upS m = { m with small := 4 } := by unfold upS; rw [hs]
    rw [eup] at hm
    refine ite2 (fun e => ?_) (fun e => ?_)
    · have e' : w.b.far = f := by injection of_decide_eq_true e
      rw [if_pos e'] at q
      refine ⟨_, rfl, x.p, C, x.dx, _, _, rfl, A.ob, T.cl, T.n_far, wl_far _ _ _ _, _, _, rfl, rfl, x.dx, _, A.ob, wfew _ _ _ _, ?_⟩
      rw [wp_far]
      refine q _ ((A.setOb w.b.near (w.b.far + 1)).re ?_) (KeepW.putP x H _)
      unfold Wlk.to
      rw [set_same hm]
    · have e' : ¬ w.b.far = f := fun z => e (decide_eq_true (congrArg V.int z))
      rw [if_neg e'] at q
      refine ⟨_, rfl, x.p, C, x.dx, _, _, rfl, A.ob, T.cl, T.n_held, wl_held _ _ _ _, x.he, _, _, 0, rfl, rfl, A.held, ixN_nat (j := 0) (by rw [List.length_map]; exact hl), ?_⟩
      exact q _ (A.setHeld hm none) (KeepW.put (i := 4) rfl _ _)
abbrev n_takeThird : List Str := ["self"]
theorem sc_takeThird : FnScope n_takeThird ["self"] (defScope sTakeThird) := ⟨rfl, rfl, rfl, by decide +kernel, rfl, by decide +kernel, by decide +kernel⟩
theorem ok_takeThird {f : Addr} {fd : FuncData} (F : Fun K "take_third" "Walk.take_third" sTakeThird f fd) (T : TxtW K mg C)
    {f_come_to : Addr} {d_come_to : FuncData} (G_come_to : FnOk P w K mg base CX0 2 f_come_to d_come_to ["self", "who", "what"] (spComeTo K C)) (b_come_to : Binds K d_come_to ["self", "who", "what"] []) (m_come_to : Meth K C "come_to" f_come_to) :
    FnOk P w K mg base CX0 3 f fd ["self"] (spTakeThird K C) := by
  refine F.ok sc_takeThird (fun vs H Q E h => ?_) (fun cdv Ar outer s H vs Q E hr h => ?_)
  · obtain ⟨x, P, r, w, m, f, rfl, _⟩ := h
    rfl
  · obtain ⟨x, P, r, w, m, f, rfl, A, hm, hs, hf, ht, hn, q⟩ := h
    refine ⟨_, pss_one (ps_if (pt_cmpR op_lt (pe_fld (pv 0) rfl) (pe_ix ix_list (pe_fld (pv 0) rfl) (pe_int) (fun _ _ => rfl)) (nomark _)) (pss_cons (ps_fld (pv 0) (pe_ix ix_list (pe_fld (pv 0) rfl) (pe_int) (fun _ _ => rfl)) rfl) (pss_one (ps_expr (pe_meth (pv 0) T.cl m_come_to G_come_to (hr.mono (by decide)) b_come_to .nil pass0 (pa_cons (pe_int) (pa_cons (pe_non) pa_nil)))))) (pss_one (ps_if (pt_cmpR op_gt (pe_fld (pv 0) rfl) (pe_ix ix_list (pe_fld (pv 0) rfl) (pe_int) (fun _ _ => rfl)) (nomark _)) (pss_one (ps_expr (pe_meth (pv 0) T.cl m_come_to G_come_to (hr.mono (by decide)) b_come_to .nil pass0 (pa_cons (pe_int) (pa_cons (pe_ix ix_list (pe_fld (pv 0) rfl) (pe_fld (pv 0) rfl) (fun _ _ => rfl)) pa_nil))))) (pss_one (ps_asg (pe_ix ix_list (pe_fld (pv 0) rfl) (pe_fld (pv 0) rfl) (fun _ _ => rfl)) (pg_sub (pe_fld (pv 0) rfl) (pe_int) set_list)))))), ?_⟩
    have hl := (List.getElem?_eq_some_iff.mp hm).1
    have efo : fO m = f := by unfold fO; rw [hf]; rfl
    have eof : optI (upS m).fr = V.int f := by show optI m.fr = _; rw [hf]; rfl
    unfold thirdS at q
    rw [efo] at q
    refine ⟨_, rfl, x.p, C, x.dx, _, _, rfl, A.ob, T.cl, T.n_near, wl_near _ _ _ _, _, rfl, x.p, C, x.dx, _, _, rfl, A.ob, T.cl, T.n_fr, wl_fr _ _ _ _, x.fr, _, _, _, rfl, rfl, SqL.of A.fr, atI_nat (j := 0) (map_at hm), ?_⟩
    rw [eof]
    refine ⟨_, _, rfl, rfl, _, rfl, ?_⟩
    refine ite2 (fun e => ?_) (fun e => ?_)
    · have e' := of_decide_eq_true e
      rw [if_pos e'] at q
      refine ⟨_, rfl, x.p, C, x.dx, _, _, rfl, A.ob, T.cl, T.n_fr, wl_fr _ _ _ _, x.fr, _, _, _, rfl, rfl, SqL.of A.fr, atI_nat (j := 0) (map_at hm), ?_⟩
      rw [eof]
      refine ⟨_, rfl, x.p, C, x.dx, _, rfl, A.ob, T.cl, T.n_near, wfew _ _ _ _, ?_⟩
      rw [wp_near]
      refine wgen (A.setOb f w.b.far) (KeepW.putP x H _) fun H1 A1 k1 => ?_
      refine ⟨_, rfl, x.p, x.dx, _, rfl, A1.ob, wl_no _ _ _ _ (by decide +kernel), x, P, r, _, 0, _, .non, rfl, A1, hm, ht, fun H2 A2 k2 => ?_⟩
      exact q _ A2 (k1.trans k2)
    · have e' : ¬ w.b.near < f := fun z => e (decide_eq_true z)
      rw [if_neg e'] at q
      refine ⟨_, rfl, x.p, C, x.dx, _, _, rfl, A.ob, T.cl, T.n_near, wl_near _ _ _ _, _, rfl, x.p, C, x.dx, _, _, rfl, A.ob, T.cl, T.n_fr, wl_fr _ _ _ _, x.fr, _, _, _, rfl, rfl, SqL.of A.fr, atI_nat (j := 0) (map_at hm), ?_⟩
      rw [eof]
      refine ⟨_, _, rfl, rfl, _, rfl, ?_⟩
      obtain ⟨n0, n1⟩ := hn (by omega)
      have hbx : (w.b.boxes.map V.int)[w.b.near.toNat]? = some (.int (boxB w.b w.b.near)) := map_at (getD_get 0 (by omega))
      have hbi : atI (w.b.boxes.map V.int) w.b.near = some (.int (boxB w.b w.b.near)) := at_of (Int.toNat_of_nonneg n0).symm hbx
      refine ite2 (fun g => ?_) (fun g => ?_)
      · have g' := of_decide_eq_true g
        rw [if_pos g'] at q
        refine ⟨_, rfl, x.p, x.dx, _, rfl, A.ob, wl_no _ _ _ _ (by decide +kernel), _, rfl, x.p, C, x.dx, _, _, rfl, A.ob, T.cl, T.n_boxes, wl_boxes _ _ _ _, _, rfl, x.p, C, x.dx, _, _, rfl, A.ob, T.cl, T.n_near, wl_near _ _ _ _, x.bo, _, _, _, rfl, rfl, SqL.of A.boxes, hbi, x, P, r, _, 0, _, .got _, rfl, A, hm, ht, fun H2 A2 k2 => ?_⟩
        exact q _ A2 k2
      · have g' : ¬ f < w.b.near := fun z => g (decide_eq_true z)
        rw [if_neg g'] at q
        have eup : upS m = { m with small := 3 } := by unfold upS; rw [hs]
        rw [eup] at hm
        refine ⟨_, rfl, x.p, C, x.dx, _, _, rfl, A.ob, T.cl, T.n_boxes, wl_boxes _ _ _ _, _, rfl, x.p, C, x.dx, _, _, rfl, A.ob, T.cl, T.n_near, wl_near _ _ _ _, x.bo, _, _, _, rfl, rfl, SqL.of A.boxes, hbi, _, rfl, x.p, C, x.dx, _, _, rfl, A.ob, T.cl, T.n_held, wl_held _ _ _ _, x.he, _, _, 0, rfl, rfl, A.held, ixN_nat (j := 0) (by rw [List.length_map]; exact hl), ?_⟩
        exact q _ (A.setHeld hm (some _)) (KeepW.put (i := 4) rfl _ _)
end
end Far
set_option Elab.async false
set_option linter.all false
set_option maxRecDepth 100000
set_option maxHeartbeats 4000000
set_option pp.maxSteps 500
namespace Far
open PySem L2
theorem IsPlay.deed {K : PySem.W.Frag} {H : Hp} {v : V} {P : Play} (h : IsPlay K H v P) {j : Nat} {d : Deed} (e : P.1[j]? = some d) : ∃ a da ta ds ad, v = .ref a ∧ SqT K H a [.ref da, .ref ta] ∧ SqT K H da ds ∧ ds[j]? = some (.ref ad) ∧ SqT K H ad (deedV d) := by
  obtain ⟨a, da, ta, ds, e1, h1, h2, h3, h4⟩ := h
  obtain ⟨v, hv, ad, rfl, hd⟩ := pget h3 e
  exact ⟨a, da, ta, ds, ad, e1, h1, h2, hv, hd⟩
section
variable {P : Program} {w : World} {K : PySem.W.Frag} {mg : Str → Option Value} {base : Heap} {C : Addr}
abbrev n_moveLay : List Str := ["self", "number"]
theorem sc_moveLay : FnScope n_moveLay ["self", "number"] (defScope sMoveLay) := ⟨rfl, rfl, rfl, by decide +kernel, rfl, by decide +kernel, by decide +kernel⟩
theorem ok_moveLay {f : Addr} {fd : FuncData} (F : Fun K "move_lay" "Walk.move_lay" sMoveLay f fd) (T : TxtW K mg C)
    {f_put_near : Addr} {d_put_near : FuncData} (G_put_near : FnOk P w K mg base CX0 1 f_put_near d_put_near ["self", "thing"] (spPutNear K C)) (b_put_near : Binds K d_put_near ["self", "thing"] []) (m_put_near : Meth K C "put_near" f_put_near)
    {f_end_deed : Addr} {d_end_deed : FuncData} (G_end_deed : FnOk P w K mg base CX0 1 f_end_deed d_end_deed ["self", "who"] (spEndDeed K C)) (b_end_deed : Binds K d_end_deed ["self", "who"] []) (m_end_deed : Meth K C "end_deed" f_end_deed) :
    FnOk P w K mg base CX0 3 f fd ["self", "number"] (spMoveLay K C) := by
  refine F.ok sc_moveLay (fun vs H Q E h => ?_) (fun cdv Ar outer s H vs Q E hr h => ?_)
  · obtain ⟨x, P, r, w, i, m, rfl, _⟩ := h
    rfl
  · obtain ⟨x, P, r, w, i, m, rfl, A, hm, hd, hb, hn, q⟩ := h
    refine ⟨_, pss_one (ps_if (pt_cmpR op_eq (pv 1) (pe_int) (nomark _)) (pss_one (ps_expr (pe_meth (pv 0) T.cl m_put_near G_put_near (hr.mono (by decide)) b_put_near .nil pass0 (pa_cons (pe_ix ix_tup (pe_ix ix_tup (pe_ix ix_tup (pe_fld (pv 0) rfl) (pe_int) (fun _ _ => rfl)) (pe_ix ix_list (pe_fld (pv 0) rfl) (pe_int) (fun _ _ => rfl)) (fun _ _ => rfl)) (pe_int) (fun _ _ => rfl)) pa_nil)))) (pss_cons (ps_fldaug (pv 0) (pe_int) in_add) (pss_one (ps_expr (pe_meth (pv 0) T.cl m_end_deed G_end_deed (hr.mono (by decide)) b_end_deed .nil pass0 (pa_cons (pe_int) pa_nil)))))), ?_⟩
    unfold layS at q
    refine ⟨_, rfl, rfl, _, rfl, ?_⟩
    refine ite2 (fun e => ?_) (fun e => ?_)
    · have e' : m.small = 0 := by have := of_decide_eq_true e; injection this with z; omega
      rw [if_pos e'] at q
      obtain ⟨n0, n1⟩ := hn e'
      obtain ⟨a, da, ta, ds, ad, e1, h1, h2, h3, h4⟩ := A.play.deed hd
      refine ⟨_, rfl, x.p, x.dx, _, rfl, A.ob, wl_no _ _ _ _ (by decide +kernel), _, rfl, x.p, C, x.dx, _, _, rfl, A.ob, T.cl, T.n_play, wl_play _ _ _ _, a, _, _, _, e1, rfl, h1, rfl, _, rfl, x.p, C, x.dx, _, _, rfl, A.ob, T.cl, T.n_past, wl_past _ _ _ _, x.pa, _, _, _, rfl, rfl, SqL.of A.past, atI_nat (j := 0) (map_at hm), da, _, _, _, rfl, rfl, h2, atI_nat h3, ad, _, _, _, rfl, rfl, h4, rfl, x, P, r, w, i, rfl, A, n0, n1, hb, fun H1 A1 k1 => ?_⟩
      refine q _ (A1.re ?_) k1
      unfold Wlk.to
      rw [set_same (show w.mvs[0]? = some { m with small := 1 } from by rw [hm]; unfold upS; rw [e'])]
    · have e' : ¬ m.small = 0 := fun z => e (decide_eq_true (by rw [z]; rfl))
      rw [if_neg e'] at q
      refine ⟨_, rfl, x.p, C, x.dx, _, _, rfl, A.ob, T.cl, T.n_near, wl_near _ _ _ _, _, _, rfl, rfl, x.dx, _, A.ob, wfew _ _ _ _, ?_⟩
      rw [wp_near]
      refine wgen (A.setOb (w.b.near + 1) w.b.far) (KeepW.putP x H _) fun H1 A1 k1 => ?_
      refine ⟨_, rfl, x.p, x.dx, _, rfl, A1.ob, wl_no _ _ _ _ (by decide +kernel), x, P, r, _, 0, _, rfl, A1, hm, fun H2 A2 k2 => ?_⟩
      exact q _ A2 (k1.trans k2)
theorem nat_dec {m : Nat} {k : Nat} : decide (natV m = V.int (k : Int)) = decide (m = k) := by
  by_cases e : m = k
  · subst e; exact (decide_eq_true rfl).trans (decide_eq_true rfl).symm
  · rw [decide_eq_false e, decide_eq_false]
    intro z
    injection z with z
    omega
abbrev n_moveTake : List Str := ["self", "number"]
theorem sc_moveTake : FnScope n_moveTake ["self", "number"] (defScope sMoveTake) := ⟨rfl, rfl, rfl, by decide +kernel, rfl, by decide +kernel, by decide +kernel⟩
theorem ok_moveTake {f : Addr} {fd : FuncData} (F : Fun K "move_take" "Walk.move_take" sMoveTake f fd) (T : TxtW K mg C)
    {f_take_third : Addr} {d_take_third : FuncData} (G_take_third : FnOk P w K mg base CX0 3 f_take_third d_take_third ["self"] (spTakeThird K C)) (b_take_third : Binds K d_take_third ["self"] []) (m_take_third : Meth K C "take_third" f_take_third)
    {f_take_fourth : Addr} {d_take_fourth : FuncData} (G_take_fourth : FnOk P w K mg base CX0 1 f_take_fourth d_take_fourth ["self"] (spTakeFourth K C)) (b_take_fourth : Binds K d_take_fourth ["self"] []) (m_take_fourth : Meth K C "take_fourth" f_take_fourth)
    {f_come_to : Addr} {d_come_to : FuncData} (G_come_to : FnOk P w K mg base CX0 2 f_come_to d_come_to ["self", "who", "what"] (spComeTo K C)) (b_come_to : Binds K d_come_to ["self", "who", "what"] []) (m_come_to : Meth K C "come_to" f_come_to) :
    FnOk P w K mg base CX0 4 f fd ["self", "number"] (spMoveTake K C) := by
  refine F.ok sc_moveTake (fun vs H Q E h => ?_) (fun cdv Ar outer s H vs Q E hr h => ?_)
  · obtain ⟨x, P, r, w, m, rfl, _⟩ := h
    rfl
  · obtain ⟨x, P, r, w, m, rfl, A, hm, ht, hf, q⟩ := h
    refine ⟨_, pss_one (ps_if (pt_cmpR op_eq (pv 1) (pe_int) (nomark _)) (pss_one (ps_fldaug (pv 0) (pe_int) in_sub)) (pss_one (ps_if (pt_cmpR op_eq (pv 1) (pe_int) (nomark _)) (pss_one (ps_asg (pe_fld (pv 0) rfl) (pg_sub (pe_fld (pv 0) rfl) (pe_int) set_list))) (pss_one (ps_if (pt_cmpR op_eq (pv 1) (pe_int) (nomark _)) (pss_one (ps_expr (pe_meth0 (pv 0) T.cl m_take_third G_take_third (hr.mono (by decide)) b_take_third .nil pass0))) (pss_one (ps_if (PW.pt (pw_and (pt_cmpR op_eq (pv 1) (pe_int) (nomark _)) (pw_and1 (pt_cmpR op_ne (pe_fld (pv 0) rfl) (pe_str) (nomark _))))) (pss_one (ps_expr (pe_meth0 (pv 0) T.cl m_take_fourth G_take_fourth (hr.mono (by decide)) b_take_fourth .nil pass0))) (pss_cons (ps_fld (pv 0) (pe_op op_add (pe_ix ix_list (pe_fld (pv 0) rfl) (pe_int) (fun _ _ => rfl)) (pe_int)) rfl) (pss_one (ps_expr (pe_meth (pv 0) T.cl m_come_to G_come_to (hr.mono (by decide)) b_come_to .nil pass0 (pa_cons (pe_int) (pa_cons (pe_ix ix_list (pe_fld (pv 0) rfl) (pe_int) (fun _ _ => rfl)) pa_nil))))))))))))), ?_⟩
    have hl := (List.getElem?_eq_some_iff.mp hm).1
    unfold takeS at q
    refine ⟨_, rfl, rfl, _, rfl, ?_⟩
    rw [show decide (natV m.small = V.int 0) = decide (m.small = 0) from nat_dec (k := 0)]
    refine ite2 (fun e => ?_) (fun e => ?_)
    · have e' := of_decide_eq_true e
      rw [if_pos e'] at q
      refine ⟨_, rfl, x.p, C, x.dx, _, _, rfl, A.ob, T.cl, T.n_near, wl_near _ _ _ _, _, _, rfl, rfl, x.dx, _, A.ob, wfew _ _ _ _, ?_⟩
      rw [wp_near]
      refine q _ ((A.setOb (w.b.near - 1) w.b.far).re ?_) (KeepW.putP x H _)
      unfold Wlk.to
      rw [set_same (show w.mvs[0]? = some { m with small := 1 } from by rw [hm]; unfold upS; rw [e'])]
    have e0 : ¬ m.small = 0 := fun z => e (decide_eq_true z)
    rw [if_neg e0] at q
    refine ⟨_, rfl, rfl, _, rfl, ?_⟩
    rw [show decide (natV m.small = V.int 1) = decide (m.small = 1) from nat_dec (k := 1)]
    refine ite2 (fun e => ?_) (fun e => ?_)
    · have e' := of_decide_eq_true e
      rw [if_pos e'] at q
      have eup : upS m = { m with small := 2 } := by unfold upS; rw [e']
      rw [eup] at hm
      refine ⟨_, rfl, x.p, C, x.dx, _, _, rfl, A.ob, T.cl, T.n_far, wl_far _ _ _ _, _, rfl, x.p, C, x.dx, _, _, rfl, A.ob, T.cl, T.n_fr, wl_fr _ _ _ _, x.fr, _, _, 0, rfl, rfl, A.fr, ixN_nat (j := 0) (by rw [List.length_map]; exact hl), ?_⟩
      exact q _ (A.setFr hm (some _)) (KeepW.put (i := 3) rfl _ _)
    have e1 : ¬ m.small = 1 := fun z => e (decide_eq_true z)
    rw [if_neg e1] at q
    obtain ⟨f, hfr, hn⟩ := hf (by omega)
    refine ⟨_, rfl, rfl, _, rfl, ?_⟩
    rw [show decide (natV m.small = V.int 2) = decide (m.small = 2) from nat_dec (k := 2)]
    refine ite2 (fun e => ?_) (fun e => ?_)
    · have e' := of_decide_eq_true e
      rw [if_pos e'] at q
      refine ⟨_, rfl, x.p, x.dx, _, rfl, A.ob, wl_no _ _ _ _ (by decide +kernel), x, P, r, w, m, f, rfl, A, hm, e', hfr, ht, hn e', fun H1 A1 k1 => ?_⟩
      exact q _ A1 k1
    have e2 : ¬ m.small = 2 := fun z => e (decide_eq_true z)
    rw [if_neg e2] at q
    have efo : fO m = f := by unfold fO; rw [hfr]; rfl
    have eof : optI (upS m).fr = V.int f := by show optI m.fr = _; rw [hfr]; rfl
    refine ⟨_, rfl, rfl, _, rfl, ?_⟩
    rw [show decide (natV m.small = V.int 3) = decide (m.small = 3) from nat_dec (k := 3)]
    cases e3 : decide (m.small = 3) with
    | true =>
      refine iteT ?_
      have e3' := of_decide_eq_true e3
      refine ⟨_, rfl, x.p, C, x.dx, _, _, rfl, A.ob, T.cl, T.n_rules, wl_rules _ _ _ _, rfl, _, rfl, ?_⟩
      cases e4 : decide (V.str r = V.str "bare") with
      | false =>
        refine iteT ?_
        have e4' : r ≠ "bare" := fun z => of_decide_eq_false e4 (by rw [z])
        rw [if_pos ⟨e3', e4'⟩] at q
        refine ⟨_, rfl, x.p, x.dx, _, rfl, A.ob, wl_no _ _ _ _ (by decide +kernel), x, P, r, w, m, f, rfl, A, hm, e3', hfr, fun H1 A1 k1 => ?_⟩
        exact q _ A1 k1
      | true =>
        refine iteF ?_
        have e4' : ¬ (m.small = 3 ∧ r ≠ "bare") := fun z => z.2 (by injection of_decide_eq_true e4)
        rw [if_neg e4'] at q
        refine ⟨_, rfl, x.p, C, x.dx, _, _, rfl, A.ob, T.cl, T.n_fr, wl_fr _ _ _ _, x.fr, _, _, _, rfl, rfl, SqL.of A.fr, atI_nat (j := 0) (map_at hm), ?_⟩
        rw [eof]
        refine ⟨_, _, rfl, rfl, _, rfl, x.p, C, x.dx, _, rfl, A.ob, T.cl, T.n_near, wfew _ _ _ _, ?_⟩
        rw [wp_near]
        refine wgen (A.setOb (f + 1) w.b.far) (KeepW.putP x H _) fun H1 A1 k1 => ?_
        refine ⟨_, rfl, x.p, x.dx, _, rfl, A1.ob, wl_no _ _ _ _ (by decide +kernel), _, rfl, x.p, C, x.dx, _, _, rfl, A1.ob, T.cl, T.n_held, wl_held _ _ _ _, x.he, _, _, _, rfl, rfl, SqL.of A1.held, atI_nat (j := 0) (map_at hm), x, P, r, _, 0, _, gotO m.held, ?_, A1, hm, ht, fun H2 A2 k2 => ?_⟩
        · rw [gotO_V]; rfl
        rw [efo] at q
        exact q _ A2 (k1.trans k2)
    | false =>
      refine iteF ?_
      refine iteF ?_
      have e4' : ¬ (m.small = 3 ∧ r ≠ "bare") := fun z => of_decide_eq_false e3 z.1
      rw [if_neg e4'] at q
      refine ⟨_, rfl, x.p, C, x.dx, _, _, rfl, A.ob, T.cl, T.n_fr, wl_fr _ _ _ _, x.fr, _, _, _, rfl, rfl, SqL.of A.fr, atI_nat (j := 0) (map_at hm), ?_⟩
      rw [eof]
      refine ⟨_, _, rfl, rfl, _, rfl, x.p, C, x.dx, _, rfl, A.ob, T.cl, T.n_near, wfew _ _ _ _, ?_⟩
      rw [wp_near]
      refine wgen (A.setOb (f + 1) w.b.far) (KeepW.putP x H _) fun H1 A1 k1 => ?_
      refine ⟨_, rfl, x.p, x.dx, _, rfl, A1.ob, wl_no _ _ _ _ (by decide +kernel), _, rfl, x.p, C, x.dx, _, _, rfl, A1.ob, T.cl, T.n_held, wl_held _ _ _ _, x.he, _, _, _, rfl, rfl, SqL.of A1.held, atI_nat (j := 0) (map_at hm), x, P, r, _, 0, _, gotO m.held, ?_, A1, hm, ht, fun H2 A2 k2 => ?_⟩
      · rw [gotO_V]; rfl
      rw [efo] at q
      exact q _ A2 (k1.trans k2)
abbrev n_moveTry : List Str := ["self", "who", "number"]
theorem sc_moveTry : FnScope n_moveTry ["self", "who", "number"] (defScope sMoveTry) := ⟨rfl, rfl, rfl, by decide +kernel, rfl, by decide +kernel, by decide +kernel⟩
theorem ok_moveTry {f : Addr} {fd : FuncData} (F : Fun K "move_try" "Walk.move_try" sMoveTry f fd) (T : TxtW K mg C)
    {f_come_to : Addr} {d_come_to : FuncData} (G_come_to : FnOk P w K mg base CX0 2 f_come_to d_come_to ["self", "who", "what"] (spComeTo K C)) (b_come_to : Binds K d_come_to ["self", "who", "what"] []) (m_come_to : Meth K C "come_to" f_come_to) :
    FnOk P w K mg base CX0 3 f fd ["self", "who", "number"] (spMoveTry K C) := by
  refine F.ok sc_moveTry (fun vs H Q E h => ?_) (fun cdv Ar outer s H vs Q E hr h => ?_)
  · obtain ⟨x, P, r, w, h, m, rfl, _⟩ := h
    rfl
  · obtain ⟨x, P, r, w, h, m, rfl, A, hm, ht, hf, q⟩ := h
    refine ⟨_, pss_one (ps_if (pt_cmpR op_eq (pv 2) (pe_int) (nomark _)) (pss_one (ps_asg (pe_fld (pv 0) rfl) (pg_sub (pe_fld (pv 0) rfl) (pv 1) set_list))) (pss_one (ps_if (pt_cmpR op_eq (pv 2) (pe_int) (nomark _)) (pss_one (ps_if (pt_cmpR op_le (pe_fld (pv 0) rfl) (pe_ix ix_list (pe_fld (pv 0) rfl) (pv 1) (fun _ _ => rfl)) (nomark _)) (pss_one (ps_expr (pe_meth (pv 0) T.cl m_come_to G_come_to (hr.mono (by decide)) b_come_to .nil pass0 (pa_cons (pv 1) (pa_cons (pe_non) pa_nil))))) pss_nil)) (pss_one (ps_if (pt_cmpR op_eq (pv 2) (pe_int) (nomark _)) (pss_one (ps_asg (pe_ix ix_list (pe_fld (pv 0) rfl) (pe_ix ix_list (pe_fld (pv 0) rfl) (pv 1) (fun _ _ => rfl)) (fun _ _ => rfl)) (pg_sub (pe_fld (pv 0) rfl) (pv 1) set_list))) (pss_one (ps_if (PW.pt (pw_or (pt_cmpR op_eq (pe_fld (pv 0) rfl) (pe_str) (nomark _)) (pw_or1 (pt_cmpR op_eq (pe_fld (pv 0) rfl) (pe_ix ix_list (pe_fld (pv 0) rfl) (pv 1) (fun _ _ => rfl)) (nomark _))))) (pss_cons (ps_fld (pv 0) (pe_op op_add (pe_ix ix_list (pe_fld (pv 0) rfl) (pv 1) (fun _ _ => rfl)) (pe_int)) rfl) (pss_one (ps_expr (pe_meth (pv 0) T.cl m_come_to G_come_to (hr.mono (by decide)) b_come_to .nil pass0 (pa_cons (pv 1) (pa_cons (pe_ix ix_list (pe_fld (pv 0) rfl) (pv 1) (fun _ _ => rfl)) pa_nil)))))) (pss_one (ps_expr (pe_meth (pv 0) T.cl m_come_to G_come_to (hr.mono (by decide)) b_come_to .nil pass0 (pa_cons (pv 1) (pa_cons (pe_str) pa_nil)))))))))))), ?_⟩
    have hl := (List.getElem?_eq_some_iff.mp hm).1
    unfold tryS at q
    refine ⟨_, rfl, rfl, _, rfl, ?_⟩
    rw [show decide (natV m.small = V.int 0) = decide (m.small = 0) from nat_dec (k := 0)]
    refine ite2 (fun e => ?_) (fun e => ?_)
    · have e' := of_decide_eq_true e
      rw [if_pos e'] at q
      have eup : upS m = { m with small := 1 } := by unfold upS; rw [e']
      rw [eup] at hm
      refine ⟨_, rfl, x.p, C, x.dx, _, _, rfl, A.ob, T.cl, T.n_far, wl_far _ _ _ _, _, rfl, x.p, C, x.dx, _, _, rfl, A.ob, T.cl, T.n_fr, wl_fr _ _ _ _, _, rfl, x.fr, _, _, h, rfl, rfl, A.fr, ixN_nat (by rw [List.length_map]; exact hl), ?_⟩
      exact q _ (A.setFr hm (some _)) (KeepW.put (i := 3) rfl _ _)
    have e0 : ¬ m.small = 0 := fun z => e (decide_eq_true z)
    rw [if_neg e0] at q
    obtain ⟨f, hfr, hn⟩ := hf (by omega)
    have efo : fO m = f := by unfold fO; rw [hfr]; rfl
    have eof : optI (upS m).fr = V.int f := by show optI m.fr = _; rw [hfr]; rfl
    rw [efo] at q
    refine ⟨_, rfl, rfl, _, rfl, ?_⟩
    rw [show decide (natV m.small = V.int 1) = decide (m.small = 1) from nat_dec (k := 1)]
    refine ite2 (fun e => ?_) (fun e => ?_)
    · have e' := of_decide_eq_true e
      rw [if_pos e'] at q
      refine ⟨_, rfl, x.p, C, x.dx, _, _, rfl, A.ob, T.cl, T.n_near, wl_near _ _ _ _, _, rfl, x.p, C, x.dx, _, _, rfl, A.ob, T.cl, T.n_fr, wl_fr _ _ _ _, _, rfl, x.fr, _, _, _, rfl, rfl, SqL.of A.fr, atI_nat (map_at hm), ?_⟩
      rw [eof]
      refine ⟨_, _, rfl, rfl, _, rfl, ?_⟩
      refine ite2 (fun g => ?_) (fun g => ?_)
      · have g' := of_decide_eq_true g
        rw [if_pos g'] at q
        refine ⟨_, rfl, x.p, x.dx, _, rfl, A.ob, wl_no _ _ _ _ (by decide +kernel), _, rfl, x, P, r, w, h, _, .non, rfl, A, hm, ht, fun H1 A1 k1 => ?_⟩
        exact q _ A1 k1
      · have g' : ¬ w.b.near ≤ f := fun z => g (decide_eq_true z)
        rw [if_neg g'] at q
        refine q _ (A.re ?_) (KeepW.refl _ _)
        unfold Wlk.to
        rw [set_same (show w.mvs[h]? = some { m with small := 2 } from by rw [hm]; unfold upS; rw [e'])]
    have e1 : ¬ m.small = 1 := fun z => e (decide_eq_true z)
    rw [if_neg e1] at q
    refine ⟨_, rfl, rfl, _, rfl, ?_⟩
    rw [show decide (natV m.small = V.int 2) = decide (m.small = 2) from nat_dec (k := 2)]
    refine ite2 (fun e => ?_) (fun e => ?_)
    · have e' := of_decide_eq_true e
      rw [if_pos e'] at q
      obtain ⟨f0, f1⟩ := hn e'
      have hbx : (w.b.boxes.map V.int)[f.toNat]? = some (.int (boxB w.b f)) := map_at (getD_get 0 (by omega))
      have hbi : atI (w.b.boxes.map V.int) f = some (.int (boxB w.b f)) := at_of (Int.toNat_of_nonneg f0).symm hbx
      have eup : upS m = { m with small := 3 } := by unfold upS; rw [e']
      refine ⟨_, rfl, x.p, C, x.dx, _, _, rfl, A.ob, T.cl, T.n_boxes, wl_boxes _ _ _ _, _, rfl, x.p, C, x.dx, _, _, rfl, A.ob, T.cl, T.n_fr, wl_fr _ _ _ _, _, rfl, x.fr, _, _, _, rfl, rfl, SqL.of A.fr, atI_nat (map_at hm), ?_⟩
      rw [eof]
      rw [eup] at hm
      refine ⟨x.bo, _, _, _, rfl, rfl, SqL.of A.boxes, hbi, _, rfl, x.p, C, x.dx, _, _, rfl, A.ob, T.cl, T.n_held, wl_held _ _ _ _, _, rfl, x.he, _, _, h, rfl, rfl, A.held, ixN_nat (by rw [List.length_map]; exact hl), ?_⟩
      exact q _ (A.setHeld hm (some _)) (KeepW.put (i := 4) rfl _ _)
    have e2 : ¬ m.small = 2 := fun z => e (decide_eq_true z)
    rw [if_neg e2] at q
    have last : (r = "blind" ∨ w.b.far = f) → ∀ H', WalkAt K C H' x P r (w.to h ({ w.b with far := f + 1 }, comeM m (gotO m.held))) → KeepW x H H' → Q .non H' := fun z => by rw [if_pos z] at q; exact q
    refine ⟨_, rfl, x.p, C, x.dx, _, _, rfl, A.ob, T.cl, T.n_rules, wl_rules _ _ _ _, rfl, _, rfl, ?_⟩
    cases e4 : decide (V.str r = V.str "blind") with
    | true =>
      refine iteT ?_
      refine iteT ?_
      have q := last (.inl (by injection of_decide_eq_true e4))
      refine ⟨_, rfl, x.p, C, x.dx, _, _, rfl, A.ob, T.cl, T.n_fr, wl_fr _ _ _ _, _, rfl, x.fr, _, _, _, rfl, rfl, SqL.of A.fr, atI_nat (map_at hm), ?_⟩
      rw [eof]
      refine ⟨_, _, rfl, rfl, _, rfl, x.p, C, x.dx, _, rfl, A.ob, T.cl, T.n_far, wfew _ _ _ _, ?_⟩
      rw [wp_far]
      refine wgen (A.setOb w.b.near (f + 1)) (KeepW.putP x H _) fun H1 A1 k1 => ?_
      refine ⟨_, rfl, x.p, x.dx, _, rfl, A1.ob, wl_no _ _ _ _ (by decide +kernel), _, rfl, _, rfl, x.p, C, x.dx, _, _, rfl, A1.ob, T.cl, T.n_held, wl_held _ _ _ _, _, rfl, x.he, _, _, _, rfl, rfl, SqL.of A1.held, atI_nat (map_at hm), x, P, r, _, h, _, gotO m.held, ?_, A1, hm, ht, fun H2 A2 k2 => ?_⟩
      · rw [gotO_V]; rfl
      exact q _ A2 (k1.trans k2)
    | false =>
      refine iteF ?_
      refine ⟨_, rfl, x.p, C, x.dx, _, _, rfl, A.ob, T.cl, T.n_far, wl_far _ _ _ _, _, rfl, x.p, C, x.dx, _, _, rfl, A.ob, T.cl, T.n_fr, wl_fr _ _ _ _, _, rfl, x.fr, _, _, _, rfl, rfl, SqL.of A.fr, atI_nat (map_at hm), ?_⟩
      rw [eof]
      refine ⟨rfl, _, rfl, ?_⟩
      refine ite2 (fun e => ?_) (fun e => ?_)
      · have q := last (.inr (by injection of_decide_eq_true e))
        refine ⟨_, rfl, x.p, C, x.dx, _, _, rfl, A.ob, T.cl, T.n_fr, wl_fr _ _ _ _, _, rfl, x.fr, _, _, _, rfl, rfl, SqL.of A.fr, atI_nat (map_at hm), ?_⟩
        rw [eof]
        refine ⟨_, _, rfl, rfl, _, rfl, x.p, C, x.dx, _, rfl, A.ob, T.cl, T.n_far, wfew _ _ _ _, ?_⟩
        rw [wp_far]
        refine wgen (A.setOb w.b.near (f + 1)) (KeepW.putP x H _) fun H1 A1 k1 => ?_
        refine ⟨_, rfl, x.p, x.dx, _, rfl, A1.ob, wl_no _ _ _ _ (by decide +kernel), _, rfl, _, rfl, x.p, C, x.dx, _, _, rfl, A1.ob, T.cl, T.n_held, wl_held _ _ _ _, _, rfl, x.he, _, _, _, rfl, rfl, SqL.of A1.held, atI_nat (map_at hm), x, P, r, _, h, _, gotO m.held, ?_, A1, hm, ht, fun H2 A2 k2 => ?_⟩
        · rw [gotO_V]; rfl
        exact q _ A2 (k1.trans k2)
      · rw [if_neg (fun z => z.elim (fun z => of_decide_eq_false e4 (by rw [z])) (fun z => e (decide_eq_true (congrArg V.int z))))] at q
        refine ⟨_, rfl, x.p, x.dx, _, rfl, A.ob, wl_no _ _ _ _ (by decide +kernel), _, rfl, x, P, r, w, h, _, .lost, rfl, A, hm, ht, fun H1 A1 k1 => ?_⟩
        exact q _ A1 k1
abbrev n_move : List Str := ["self", "who", "number"]
theorem sc_move : FnScope n_move ["self", "who"] (defScope sMove) := ⟨rfl, rfl, rfl, by decide +kernel, rfl, by decide +kernel, by decide +kernel⟩
theorem ok_move {f : Addr} {fd : FuncData} (F : Fun K "move" "Walk.move" sMove f fd) (T : TxtW K mg C)
    {f_move_try : Addr} {d_move_try : FuncData} (G_move_try : FnOk P w K mg base CX0 3 f_move_try d_move_try ["self", "who", "number"] (spMoveTry K C)) (b_move_try : Binds K d_move_try ["self", "who", "number"] []) (m_move_try : Meth K C "move_try" f_move_try)
    {f_move_lay : Addr} {d_move_lay : FuncData} (G_move_lay : FnOk P w K mg base CX0 3 f_move_lay d_move_lay ["self", "number"] (spMoveLay K C)) (b_move_lay : Binds K d_move_lay ["self", "number"] []) (m_move_lay : Meth K C "move_lay" f_move_lay)
    {f_move_take : Addr} {d_move_take : FuncData} (G_move_take : FnOk P w K mg base CX0 4 f_move_take d_move_take ["self", "number"] (spMoveTake K C)) (b_move_take : Binds K d_move_take ["self", "number"] []) (m_move_take : Meth K C "move_take" f_move_take) :
    FnOk P w K mg base CX0 5 f fd ["self", "who"] (spMove K C) := by
  refine F.ok sc_move (fun vs H Q E h => ?_) (fun cdv Ar outer s H vs Q E hr h => ?_)
  · obtain ⟨x, P, r, w, h, rfl, _⟩ := h
    rfl
  · obtain ⟨x, P, r, w, h, rfl, A, hh, R, q⟩ := h
    refine ⟨_, pss_cons (ps_set (i := 2) sc_move.nd rfl (Or.inl rfl) (pe_ix ix_list (pe_fld (pv 0) rfl) (pv 1) (fun _ _ => rfl))) (pss_cons (ps_asg (pe_op op_add (pv 2) (pe_int)) (pg_sub (pe_fld (pv 0) rfl) (pv 1) set_list)) (pss_one (ps_if (pt_cmpR op_gt (pv 1) (pe_int) (nomark _)) (pss_one (ps_expr (pe_meth (pv 0) T.cl m_move_try G_move_try (hr.mono (by decide)) b_move_try .nil pass0 (pa_cons (pv 1) (pa_cons (pv 2) pa_nil))))) (pss_one (ps_if (pt_cmpR op_eq (pe_ix ix_tup (pe_ix ix_tup (pe_ix ix_tup (pe_fld (pv 0) rfl) (pe_int) (fun _ _ => rfl)) (pe_ix ix_list (pe_fld (pv 0) rfl) (pe_int) (fun _ _ => rfl)) (fun _ _ => rfl)) (pe_int) (fun _ _ => rfl)) (pe_str) (nomark _)) (pss_one (ps_expr (pe_meth (pv 0) T.cl m_move_lay G_move_lay (hr.mono (by decide)) b_move_lay .nil pass0 (pa_cons (pv 2) pa_nil)))) (pss_one (ps_expr (pe_meth (pv 0) T.cl m_move_take G_move_take (hr.mono (by decide)) b_move_take .nil pass0 (pa_cons (pv 2) pa_nil))))))))), ?_⟩
    have hm := A.mv hh
    have hl := (List.getElem?_eq_some_iff.mp hm).1
    unfold moveW at q
    obtain ⟨m, em⟩ : ∃ m, mvAt w h = m := ⟨_, rfl⟩
    rw [em] at hm R q
    unfold moveS at q
    refine ⟨_, rfl, x.p, C, x.dx, _, _, rfl, A.ob, T.cl, T.n_small, wl_small _ _ _ _, _, rfl, x.sm, _, _, _, rfl, rfl, SqL.of A.small, atI_nat (map_at hm), ?_⟩
    refine ⟨_, rfl, _, _, rfl, rfl, _, rfl, x.p, C, x.dx, _, _, rfl, A.ob, T.cl, T.n_small, wl_small _ _ _ _, _, rfl, x.sm, _, _, h, rfl, rfl, A.small, ixN_nat (by rw [List.length_map]; exact hl), ?_⟩
    refine wgen (A.setSmall hm (m.small + 1)) (KeepW.put (i := 2) rfl _ _) fun H1 A1 k1 => ?_
    have hm1 : (w.mvs.set h (upS m))[h]? = some (upS m) := set_get hm
    refine ⟨_, rfl, _, _, rfl, rfl, _, rfl, ?_⟩
    refine ite2 (fun e => ?_) (fun e => ?_)
    · have e' : 0 < h := by have := of_decide_eq_true e; omega
      rw [if_pos e'] at q
      refine ⟨_, rfl, x.p, x.dx, _, rfl, A1.ob, wl_no _ _ _ _ (by decide +kernel), _, rfl, _, rfl, x, P, r, _, h, m, rfl, A1, hm1, R.told, R.thief e', fun H2 A2 k2 => ?_⟩
      refine q _ (A2.re ?_) (k1.trans k2)
      unfold Wlk.to
      simp only [List.set_set]
    · have e' : h = 0 := by
        cases h with
        | zero => rfl
        | succ k => exact absurd (decide_eq_true (by show (0 : Int) < ((k + 1 : Nat) : Int); omega)) e
      subst e'
      rw [if_neg (by decide)] at q
      obtain ⟨d, hd⟩ : ∃ d, P.1[m.past]? = some d := ⟨_, List.getElem?_eq_getElem (R.due rfl)⟩
      obtain ⟨a, da, ta, ds, ad, e1, h1, h2, h3, h4⟩ := A1.play.deed hd
      refine ⟨_, rfl, x.p, C, x.dx, _, _, rfl, A1.ob, T.cl, T.n_play, wl_play _ _ _ _, a, _, _, _, e1, rfl, h1, rfl, _, rfl, x.p, C, x.dx, _, _, rfl, A1.ob, T.cl, T.n_past, wl_past _ _ _ _, x.pa, _, _, _, rfl, rfl, SqL.of A1.past, atI_nat (j := 0) (map_at hm1), da, _, _, _, rfl, rfl, h2, atI_nat h3, ?_⟩
      unfold ownS at q
      rw [hd] at q
      cases d with
      | lay i =>
        refine ⟨ad, _, _, _, rfl, rfl, h4, rfl, rfl, _, rfl, ?_⟩
        refine iteT ?_
        refine ⟨_, rfl, x.p, x.dx, _, rfl, A1.ob, wl_no _ _ _ _ (by decide +kernel), _, rfl, x, P, r, _, i, m, rfl, A1, hm1, hd, R.box, R.lay rfl i hd, fun H2 A2 k2 => ?_⟩
        refine q _ (A2.re ?_) (k1.trans k2)
        unfold Wlk.to
        simp only [List.set_set]
      | take =>
        refine ⟨ad, _, _, _, rfl, rfl, h4, rfl, rfl, _, rfl, ?_⟩
        refine iteF ?_
        refine ⟨_, rfl, x.p, x.dx, _, rfl, A1.ob, wl_no _ _ _ _ (by decide +kernel), _, rfl, x, P, r, _, m, rfl, A1, hm1, R.told, R.take rfl hd, fun H2 A2 k2 => ?_⟩
        refine q _ (A2.re ?_) (k1.trans k2)
        unfold Wlk.to
        simp only [List.set_set]
abbrev n_isWhole : List Str := ["thing"]
theorem sc_isWhole : FnScope n_isWhole ["thing"] (defScope sIsWhole) := ⟨rfl, rfl, rfl, by decide +kernel, rfl, by decide +kernel, by decide +kernel⟩
theorem ok_isWhole {f : Addr} {fd : FuncData} (F : Fun K "is_whole" "is_whole" sIsWhole f fd) (T : TxtW K mg C) :
    FnOk P w K mg base CX0 1 f fd ["thing"] (spIsWhole K) := by
  refine F.ok sc_isWhole (fun vs H Q E h => ?_) (fun cdv Ar outer s H vs Q E hr h => ?_)
  · obtain ⟨v, b, rfl, _⟩ := h
    rfl
  · obtain ⟨v, b, rfl, ⟨t, bi, bb, ty, k1, k2, rfl, _⟩, q⟩ := h
    refine ⟨_, pss_one (ps_ret (pe_and (pe_callB (cr_isE (T := "int")) rfl T.isinstance (by decide +kernel) (pa_cons (pv 0) (pa_cons (pe_bltn (v := .ty "int") rfl T.int (by decide +kernel) rfl) pa_nil))) (pe_one (pe_not (pe_callB (cr_isE (T := "bool")) rfl T.isinstance (by decide +kernel) (pa_cons (pv 0) (pa_cons (pe_bltn (v := .ty "bool") rfl T.bool (by decide +kernel) rfl) pa_nil))))))), ?_⟩
    refine ⟨_, rfl, _, t, bi, rfl, ty, k1, _, rfl, ?_⟩
    cases bi with
    | false => exact iteF q
    | true =>
      refine iteT ?_
      exact ⟨_, rfl, _, t, bb, rfl, ty, k2 rfl, _, rfl, q⟩
abbrev n_hasLeft : List Str := ["self", "who"]
theorem sc_hasLeft : FnScope n_hasLeft ["self", "who"] (defScope sHasLeft) := ⟨rfl, rfl, rfl, by decide +kernel, rfl, by decide +kernel, by decide +kernel⟩
theorem ok_hasLeft {f : Addr} {fd : FuncData} (F : Fun K "has_left" "Walk.has_left" sHasLeft f fd) (T : TxtW K mg C)
    {f_is_whole : Addr} {d_is_whole : FuncData} (G_is_whole : FnOk P w K mg base CX0 1 f_is_whole d_is_whole ["thing"] (spIsWhole K)) (b_is_whole : Binds K d_is_whole ["thing"] []) (k_is_whole : PySem.W.keepIn K (.ref f_is_whole) = true) (m_is_whole : mg "is_whole" = some (.ref f_is_whole)) :
    FnOk P w K mg base CX0 2 f fd ["self", "who"] (spHasLeft K C) := by
  refine F.ok sc_hasLeft (fun vs H Q E h => ?_) (fun cdv Ar outer s H vs Q E hr h => ?_)
  · obtain ⟨x, P, r, w, v, b, rfl, _⟩ := h
    rfl
  · obtain ⟨x, P, r, w, v, b, rfl, A, hw, q⟩ := h
    refine ⟨_, pss_cons (ps_if (PW.pt (pw_or (pt_not (pt_val (pe_call G_is_whole (hr.mono (by decide)) rfl m_is_whole k_is_whole b_is_whole .nil pass0 (pa_cons (pv 1) pa_nil)))) (pw_or1 (pt_not (pt_chain op_le op_lt (pe_int) (pv 1) (pe_callB call_len_seq rfl T.len PySem.boot_len (pa_cons (pe_fld (pv 0) rfl) pa_nil))))))) (pss_one (ps_ret (pe_bl))) pss_nil) (pss_one (ps_ret (pe_cmpR op_lt (pe_ix ix_list (pe_fld (pv 0) rfl) (pv 1) (fun _ _ => rfl)) (pe_ix ix_list (pe_fld (pv 0) rfl) (pv 1) (fun _ _ => rfl)) (nomark _)))), ?_⟩
    obtain ⟨_, _, _, _, _, _, _, hi⟩ := id hw
    refine ⟨_, rfl, v, b, rfl, hw, _, rfl, ?_⟩
    cases b with
    | false => exact iteT (iteT q)
    | true =>
      refine iteF ?_
      obtain ⟨i, rfl⟩ := hi rfl
      rw [Bool.true_and] at q
      have q : Q (.bl ((decide (0 ≤ i) && decide (i < (nW P : Int))) && hasLeft P w i.toNat)) H := q
      refine ⟨_, rfl, _, _, rfl, rfl, _, rfl, ?_⟩
      cases e0 : decide (0 ≤ i) with
      | false =>
        rw [e0] at q
        refine iteF ⟨_, rfl, ?_⟩
        exact iteT q
      | true =>
        refine iteT ?_
        rw [e0, Bool.true_and] at q
        refine ⟨_, rfl, x.p, C, x.dx, _, _, rfl, A.ob, T.cl, T.n_due, wl_due _ _ _ _, x.du, _, rfl, .inl (SqL.of A.due), _, _, rfl, rfl, _, rfl, ?_⟩
        rw [List.length_map, dueL_len]
        cases e1 : decide (i < (nW P : Int)) with
        | false =>
          rw [e1] at q
          exact iteT q
        | true =>
          refine iteF ?_
          rw [e1, Bool.true_and] at q
          have i0 := of_decide_eq_true e0
          have i1 := of_decide_eq_true e1
          obtain ⟨k, rfl⟩ := Int.eq_ofNat_of_zero_le i0
          have hk : k < nW P := by omega
          have hd : (dueL P)[k]? = some ((dueL P).getD k 0) := getD_get 0 hk
          refine ⟨_, rfl, x.p, C, x.dx, _, _, rfl, A.ob, T.cl, T.n_past, wl_past _ _ _ _, _, rfl, x.pa, _, _, _, rfl, rfl, SqL.of A.past, atI_nat (map_at (A.mv hk)), _, rfl, x.p, C, x.dx, _, _, rfl, A.ob, T.cl, T.n_due, wl_due _ _ _ _, _, rfl, x.du, _, _, _, rfl, rfl, SqL.of A.due, atI_nat (map_at hd), _, _, rfl, rfl, ?_⟩
          rw [Int.toNat_natCast] at q
          unfold hasLeft at q
          have ed : ∀ a b : Nat, decide ((a : Int) < (b : Int)) = decide (a < b) := fun a b => by by_cases z : a < b <;> simp [z]
          show Q (.bl (decide (((mvAt w k).past : Int) < (((dueL P).getD k 0 : Nat) : Int)))) H
          rw [ed]
          exact q
end
end Far
set_option Elab.async false
set_option linter.all false
set_option maxRecDepth 100000
set_option maxHeartbeats 4000000
set_option pp.maxSteps 500
namespace Far
open PySem L2
theorem mgen {H0 Hk : Hp} {p : Addr} {o : HO} {al : List (Addr × HO)} {Pr : Hp → Prop} (m : Mkg H0 Hk p o al) (g : ∀ Hk, Mkg H0 Hk p o al → Pr Hk) : Pr Hk := g Hk m
theorem Mkg.add1 {H0 Hk H1 : Hp} {p : Addr} {o : HO} {al : List (Addr × HO)} (m : Mkg H0 Hk p o al) (s : Same Hk H1) {q : Addr} (h : H1 q = none) (u : HO) : Mkg H0 (upd H1 q u) p o ((q, u) :: al) :=
  m.adds (s.trans (same_new h u)) [(q, u)] (by simp) fun e he => by
    rw [List.mem_singleton.mp he]
    exact ⟨upd_same, s.free h⟩
theorem ls_rep {H : Hp} : ∀ {ps : List Addr}, (∀ b ∈ ps, H b = some (.lst [])) → LsAt H ps (List.replicate ps.length [])
  | [], _ => .nil
  | a :: r, h => .cons (h a List.mem_cons_self) (ls_rep fun b hb => h b (List.mem_cons_of_mem _ hb))
section
variable {P : Program} {w : World} {K : PySem.W.Frag} {mg : Str → Option Value} {base : Heap} {C : Addr}
abbrev n_wInit : List Str := ["self", "play", "rules", "deeds", "tries", "mover"]
theorem sc_wInit : FnScope n_wInit ["self", "play", "rules"] (defScope sWInit) := ⟨rfl, rfl, rfl, by decide +kernel, rfl, by decide +kernel, by decide +kernel⟩
theorem ok_wInit {f : Addr} {fd : FuncData} (F : Fun K "__init__" "Walk.__init__" sWInit f fd) (T : TxtW K mg C) :
    FnOk P w K mg base CX0 1 f fd ["self", "play", "rules"] (spWInit K C) := by
  refine F.ok sc_wInit (fun vs H Q E h => ?_) (fun cdv Ar outer s H vs Q E hr h => ?_)
  · obtain ⟨p, dx, pvv, P, r, rfl, _⟩ := h
    rfl
  · obtain ⟨p, dx, pvv, P, r, rfl, hp, hP, hn, hd, q⟩ := h
    refine ⟨_, pss_cons (ps_fld (pv 0) (pv 1) rfl) (pss_cons (ps_fld (pv 0) (pv 2) rfl) (pss_cons (ps_asg (pv 1) (pg_tup rfl (pgs_cons (pg_name (i := 3) sc_wInit.nd rfl (Or.inl rfl)) (pgs_cons (pg_name (i := 4) sc_wInit.nd rfl (Or.inl rfl)) pgs_nil)))) (pss_cons (ps_fld (pv 0) (pe_op op_cat (pe_lst (pa_cons (pe_callB call_len_seq rfl T.len PySem.boot_len (pa_cons (pv 3) pa_nil)) pa_nil)) (pe_callTy call_list_of (by rfl) T.list (by decide +kernel) (pa_cons (pv 4) pa_nil))) rfl) (pss_cons (ps_fld (pv 0) (pe_op op_rep (pe_lst (pa_cons (pe_int) pa_nil)) (pe_callB call_len_seq rfl T.len PySem.boot_len (pa_cons (pe_fld (pv 0) rfl) pa_nil))) rfl) (pss_cons (ps_fld (pv 0) (pe_op op_rep (pe_lst (pa_cons (pe_int) pa_nil)) (pe_callB call_len_seq rfl T.len PySem.boot_len (pa_cons (pe_fld (pv 0) rfl) pa_nil))) rfl) (pss_cons (ps_fld (pv 0) (pe_op op_rep (pe_lst (pa_cons (pe_non) pa_nil)) (pe_callB call_len_seq rfl T.len PySem.boot_len (pa_cons (pe_fld (pv 0) rfl) pa_nil))) rfl) (pss_cons (ps_fld (pv 0) (pe_op op_rep (pe_lst (pa_cons (pe_non) pa_nil)) (pe_callB call_len_seq rfl T.len PySem.boot_len (pa_cons (pe_fld (pv 0) rfl) pa_nil))) rfl) (pss_cons (ps_fld (pv 0) (pe_lc (own := [("mover", 5)]) (g := gName 5) (by rfl) sc_wInit.nd (pi_list (pe_fld (pv 0) rfl)) (blkOk_by (own := [("mover", 5)]) (N := n_wInit) (sc := defScope sWInit) (by decide +kernel)) (fun _ _ _ _ _ => pg_name (i := 5) sc_wInit.nd rfl (Or.inl rfl)) (fun _ _ _ _ _ => pts_nil) (fun _ _ _ _ _ => pe_lst (pa_nil))) rfl) (pss_cons (ps_fld (pv 0) (pe_lst (pa_nil)) rfl) (pss_cons (ps_fld (pv 0) (pe_int) rfl) (pss_one (ps_fld (pv 0) (pe_int) rfl)))))))))))), ?_⟩
    obtain ⟨pa0, da, ta, ds, rfl, h1, h2, h3, h4⟩ := id hP
    have hdl : ds.length = P.1.length := plen h3
    have m := Mkg.start hp
    refine ⟨_, rfl, ?_⟩
    refine ⟨_, rfl, p, C, dx, _, rfl, m.ob, T.cl, T.n_play, (by show 0 < 1000; decide), ?_⟩
    rw [show putF "play" (V.ref pa0) [] = ([("play", V.ref pa0)] : List (Str × V)) from rfl]
    refine mgen (m.put (.ins C dx [("play", V.ref pa0)])) fun H1 m => ?_
    refine ⟨_, rfl, ?_⟩
    refine ⟨_, rfl, p, C, dx, _, rfl, m.ob, T.cl, T.n_rules, (by show 1 < 1000; decide), ?_⟩
    rw [show putF "rules" (V.str r) [("play", V.ref pa0)] = ([("play", V.ref pa0), ("rules", V.str r)] : List (Str × V)) from pf_keys ["play"] (by decide +kernel) rfl]
    refine mgen (m.put (.ins C dx [("play", V.ref pa0), ("rules", V.str r)])) fun H2 m => ?_
    refine ⟨_, rfl, pa0, _, rfl, m.kt hp _ _ h1, rfl, _, _, rfl, _, _, rfl, rfl, ?_⟩
    refine ⟨_, rfl, da, _, rfl, .inr (m.kt hp _ _ h2), (by show 1 ≤ sizeLine; decide), fun L1 e1 => ?_⟩
    have s1 := same_new e1 (.lst [V.int (ds.length : Int)])
    have g1 : (upd H2 L1 (.lst [V.int (ds.length : Int)])) L1 = some (.lst [V.int (ds.length : Int)]) := upd_same
    generalize upd H2 L1 (.lst [V.int (ds.length : Int)]) = H3 at *
    refine ⟨_, rfl, ta, _, rfl, .inr (KT.same s1 _ _ (m.kt hp _ _ h4)), fun L2 e2 => ?_⟩
    have s2 := s1.trans (same_new e2 (.lst (P.2.map natV)))
    have g2 : (upd H3 L2 (.lst (P.2.map natV))) L2 = some (.lst (P.2.map natV)) := upd_same
    have g1' := same_new e2 (.lst (P.2.map natV)) _ _ g1
    generalize upd H3 L2 (.lst (P.2.map natV)) = H4 at *
    refine ⟨L1, L2, _, _, rfl, rfl, g1', g2, ?_, fun DU eDU => ?_⟩
    · rw [List.length_map]
      unfold nW at hn
      exact Nat.le_of_lt (small1000 (by show 1 + P.2.length ≤ 1000; omega))
    have eqd : [V.int (ds.length : Int)] ++ P.2.map natV = (dueL P).map natV := by rw [hdl]; rfl
    rw [eqd]
    refine mgen (m.add1 s2 eDU (.lst ((dueL P).map natV))) fun H5 m => ?_
    refine ⟨_, rfl, p, C, dx, _, rfl, m.ob, T.cl, T.n_due, (by show 2 < 1000; decide), ?_⟩
    rw [show putF "due_deeds" (V.ref DU) [("play", V.ref pa0), ("rules", V.str r)] = ([("play", V.ref pa0), ("rules", V.str r), ("due_deeds", V.ref DU)] : List (Str × V)) from pf_keys ["play", "rules"] (by decide +kernel) rfl]
    refine mgen (m.put (.ins C dx [("play", V.ref pa0), ("rules", V.str r), ("due_deeds", V.ref DU)])) fun H6 m => ?_
    have gdu := m.li (DU, .lst ((dueL P).map natV)) (by simp)
    refine ⟨(by show 1 ≤ sizeLine; decide), fun L3 e3 => ?_⟩
    have s1 := same_new e3 (.lst [.int 0])
    have g1 : (upd H6 L3 (.lst [.int 0])) L3 = some (.lst [.int 0]) := upd_same
    have gd := s1 _ _ gdu
    have mo := s1 _ _ m.ob
    generalize hg3 : upd H6 L3 (.lst [.int 0]) = H6b at *
    refine ⟨_, rfl, p, C, dx, _, _, rfl, mo, T.cl, T.n_due, lk_ne (by decide +kernel) (lk_ne (by decide +kernel) lk_eq), DU, _, rfl, .inl (SqL.of gd), L3, _, _, rfl, rfl, g1, by rw [List.length_map, dueL_len]; omega, by rw [List.length_map, dueL_len]; omega, ?_, fun PA ePA => ?_⟩
    · rw [List.length_map, dueL_len]
      exact Nat.le_of_lt (small1000 (by show 1 * ((nW P : Nat) : Int).toNat ≤ 1000; omega))
    have er : (List.replicate ((((dueL P).map natV).length : Nat) : Int).toNat ([.int 0] : List V)).flatten = (List.replicate (nW P) (0 : Nat)).map natV := by rw [rep_flat, List.length_map, dueL_len, List.map_replicate]; rfl
    rw [er]
    refine mgen (m.add1 s1 ePA (.lst ((List.replicate (nW P) (0 : Nat)).map natV))) fun H7 m => ?_
    clear gdu s1 g1 gd mo er
    refine ⟨_, rfl, p, C, dx, _, rfl, m.ob, T.cl, T.n_past, (by show 3 < 1000; decide), ?_⟩
    rw [show putF "past_deeds" (V.ref PA) [("play", V.ref pa0), ("rules", V.str r), ("due_deeds", V.ref DU)] = ([("play", V.ref pa0), ("rules", V.str r), ("due_deeds", V.ref DU), ("past_deeds", V.ref PA)] : List (Str × V)) from pf_keys ["play", "rules", "due_deeds"] (by decide +kernel) rfl]
    refine mgen (m.put (.ins C dx [("play", V.ref pa0), ("rules", V.str r), ("due_deeds", V.ref DU), ("past_deeds", V.ref PA)])) fun H8 m => ?_
    have gdu := m.li (DU, .lst ((dueL P).map natV)) (by simp)
    refine ⟨(by show 1 ≤ sizeLine; decide), fun L4 e4 => ?_⟩
    have s1 := same_new e4 (.lst [.int 0])
    have g1 : (upd H8 L4 (.lst [.int 0])) L4 = some (.lst [.int 0]) := upd_same
    have gd := s1 _ _ gdu
    have mo := s1 _ _ m.ob
    generalize hg4 : upd H8 L4 (.lst [.int 0]) = H8b at *
    refine ⟨_, rfl, p, C, dx, _, _, rfl, mo, T.cl, T.n_due, lk_ne (by decide +kernel) (lk_ne (by decide +kernel) lk_eq), DU, _, rfl, .inl (SqL.of gd), L4, _, _, rfl, rfl, g1, by rw [List.length_map, dueL_len]; omega, by rw [List.length_map, dueL_len]; omega, ?_, fun SM eSM => ?_⟩
    · rw [List.length_map, dueL_len]
      exact Nat.le_of_lt (small1000 (by show 1 * ((nW P : Nat) : Int).toNat ≤ 1000; omega))
    have er : (List.replicate ((((dueL P).map natV).length : Nat) : Int).toNat ([.int 0] : List V)).flatten = (List.replicate (nW P) (0 : Nat)).map natV := by rw [rep_flat, List.length_map, dueL_len, List.map_replicate]; rfl
    rw [er]
    refine mgen (m.add1 s1 eSM (.lst ((List.replicate (nW P) (0 : Nat)).map natV))) fun H9 m => ?_
    clear gdu s1 g1 gd mo er
    refine ⟨_, rfl, p, C, dx, _, rfl, m.ob, T.cl, T.n_small, (by show 4 < 1000; decide), ?_⟩
    rw [show putF "small_done" (V.ref SM) [("play", V.ref pa0), ("rules", V.str r), ("due_deeds", V.ref DU), ("past_deeds", V.ref PA)] = ([("play", V.ref pa0), ("rules", V.str r), ("due_deeds", V.ref DU), ("past_deeds", V.ref PA), ("small_done", V.ref SM)] : List (Str × V)) from pf_keys ["play", "rules", "due_deeds", "past_deeds"] (by decide +kernel) rfl]
    refine mgen (m.put (.ins C dx [("play", V.ref pa0), ("rules", V.str r), ("due_deeds", V.ref DU), ("past_deeds", V.ref PA), ("small_done", V.ref SM)])) fun H10 m => ?_
    have gdu := m.li (DU, .lst ((dueL P).map natV)) (by simp)
    refine ⟨(by show 1 ≤ sizeLine; decide), fun L5 e5 => ?_⟩
    have s1 := same_new e5 (.lst [.non])
    have g1 : (upd H10 L5 (.lst [.non])) L5 = some (.lst [.non]) := upd_same
    have gd := s1 _ _ gdu
    have mo := s1 _ _ m.ob
    generalize hg5 : upd H10 L5 (.lst [.non]) = H10b at *
    refine ⟨_, rfl, p, C, dx, _, _, rfl, mo, T.cl, T.n_due, lk_ne (by decide +kernel) (lk_ne (by decide +kernel) lk_eq), DU, _, rfl, .inl (SqL.of gd), L5, _, _, rfl, rfl, g1, by rw [List.length_map, dueL_len]; omega, by rw [List.length_map, dueL_len]; omega, ?_, fun FR eFR => ?_⟩
    · rw [List.length_map, dueL_len]
      exact Nat.le_of_lt (small1000 (by show 1 * ((nW P : Nat) : Int).toNat ≤ 1000; omega))
    have er : (List.replicate ((((dueL P).map natV).length : Nat) : Int).toNat ([.non] : List V)).flatten = (List.replicate (nW P) (none : Option Int)).map optI := by rw [rep_flat, List.length_map, dueL_len, List.map_replicate]; rfl
    rw [er]
    refine mgen (m.add1 s1 eFR (.lst ((List.replicate (nW P) (none : Option Int)).map optI))) fun H11 m => ?_
    clear gdu s1 g1 gd mo er
    refine ⟨_, rfl, p, C, dx, _, rfl, m.ob, T.cl, T.n_fr, (by show 5 < 1000; decide), ?_⟩
    rw [show putF "far_read" (V.ref FR) [("play", V.ref pa0), ("rules", V.str r), ("due_deeds", V.ref DU), ("past_deeds", V.ref PA), ("small_done", V.ref SM)] = ([("play", V.ref pa0), ("rules", V.str r), ("due_deeds", V.ref DU), ("past_deeds", V.ref PA), ("small_done", V.ref SM), ("far_read", V.ref FR)] : List (Str × V)) from pf_keys ["play", "rules", "due_deeds", "past_deeds", "small_done"] (by decide +kernel) rfl]
    refine mgen (m.put (.ins C dx [("play", V.ref pa0), ("rules", V.str r), ("due_deeds", V.ref DU), ("past_deeds", V.ref PA), ("small_done", V.ref SM), ("far_read", V.ref FR)])) fun H12 m => ?_
    have gdu := m.li (DU, .lst ((dueL P).map natV)) (by simp)
    refine ⟨(by show 1 ≤ sizeLine; decide), fun L6 e6 => ?_⟩
    have s1 := same_new e6 (.lst [.non])
    have g1 : (upd H12 L6 (.lst [.non])) L6 = some (.lst [.non]) := upd_same
    have gd := s1 _ _ gdu
    have mo := s1 _ _ m.ob
    generalize hg6 : upd H12 L6 (.lst [.non]) = H12b at *
    refine ⟨_, rfl, p, C, dx, _, _, rfl, mo, T.cl, T.n_due, lk_ne (by decide +kernel) (lk_ne (by decide +kernel) lk_eq), DU, _, rfl, .inl (SqL.of gd), L6, _, _, rfl, rfl, g1, by rw [List.length_map, dueL_len]; omega, by rw [List.length_map, dueL_len]; omega, ?_, fun HE eHE => ?_⟩
    · rw [List.length_map, dueL_len]
      exact Nat.le_of_lt (small1000 (by show 1 * ((nW P : Nat) : Int).toNat ≤ 1000; omega))
    have er : (List.replicate ((((dueL P).map natV).length : Nat) : Int).toNat ([.non] : List V)).flatten = (List.replicate (nW P) (none : Option Int)).map optI := by rw [rep_flat, List.length_map, dueL_len, List.map_replicate]; rfl
    rw [er]
    refine mgen (m.add1 s1 eHE (.lst ((List.replicate (nW P) (none : Option Int)).map optI))) fun H13 m => ?_
    clear gdu s1 g1 gd mo er
    refine ⟨_, rfl, p, C, dx, _, rfl, m.ob, T.cl, T.n_held, (by show 6 < 1000; decide), ?_⟩
    rw [show putF "held" (V.ref HE) [("play", V.ref pa0), ("rules", V.str r), ("due_deeds", V.ref DU), ("past_deeds", V.ref PA), ("small_done", V.ref SM), ("far_read", V.ref FR)] = ([("play", V.ref pa0), ("rules", V.str r), ("due_deeds", V.ref DU), ("past_deeds", V.ref PA), ("small_done", V.ref SM), ("far_read", V.ref FR), ("held", V.ref HE)] : List (Str × V)) from pf_keys ["play", "rules", "due_deeds", "past_deeds", "small_done", "far_read"] (by decide +kernel) rfl]
    refine mgen (m.put (.ins C dx [("play", V.ref pa0), ("rules", V.str r), ("due_deeds", V.ref DU), ("past_deeds", V.ref PA), ("small_done", V.ref SM), ("far_read", V.ref FR), ("held", V.ref HE)])) fun H14 m => ?_
    have gdu := m.li (DU, .lst ((dueL P).map natV)) (by simp)
    refine ⟨_, rfl, p, C, dx, _, _, rfl, m.ob, T.cl, T.n_due, lk_ne (by decide +kernel) (lk_ne (by decide +kernel) lk_eq), DU, rfl, ⟨_, SqL.of gdu⟩, fun TO eTO => ?_⟩
    refine lc_list (K := K) (a := DU) (xs := (dueL P).map natV) (fun i H9 => Same H14 H9 ∧ ∃ ps : List Addr, ps.length = i ∧ H9 TO = some (.lst (ps.map V.ref)) ∧ ps.Nodup ∧ ∀ b ∈ ps, H9 b = some (.lst []) ∧ H14 b = none ∧ b ≠ TO)
      ⟨same_new eTO _, [], rfl, upd_same, List.nodup_nil, fun b z => (nomatch z)⟩ (fun i H9 _ ⟨s9, _⟩ => SqL.of (s9 _ _ gdu)) ?_ ?_
    · rintro i y H9 hi ⟨s9, ps, hl, hPL, nd, hps⟩
      refine ⟨rfl, yes_ ?_⟩
      refine iteT ?_
      have hil := (List.getElem?_eq_some_iff.mp hi).1
      rw [List.length_map, dueL_len] at hil
      refine ⟨(by show 0 ≤ sizeLine; decide), fun B eB => ?_⟩
      have hBP : B ≠ TO := fun z => by rw [z, hPL] at eB; cases eB
      have nB := s9.free eB
      have s10 := same_new eB (.lst [])
      refine ⟨_, s10 _ _ hPL, small1000 (by rw [List.length_map]; omega), fun c o e => ?_, ps ++ [B], by rw [List.length_append, hl]; rfl, ?_, ?_, fun b hb => ?_⟩
      · rw [upd_ne (ne_of_none e eTO)]; exact s10 _ _ (s9 c o e)
      · rw [upd_same, List.map_append]; rfl
      · refine List.nodup_append.mpr ⟨nd, by simp, ?_⟩
        rintro c hc d hd rfl
        rw [List.mem_singleton.mp hd] at hc
        have := (hps _ hc).1
        rw [eB] at this
        cases this
      · rcases List.mem_append.mp hb with z | z
        · obtain ⟨h1, h2, h3⟩ := hps b z
          exact ⟨by rw [upd_ne h3]; exact s10 _ _ h1, h2, h3⟩
        · rw [List.mem_singleton.mp z]
          exact ⟨by rw [upd_ne hBP]; exact upd_same, nB, hBP⟩
    rintro H15 ⟨s9, ps, hl, hPL, nd, hps⟩
    rw [List.length_map, dueL_len] at hl
    have m := m.adds s9 ((TO, .lst (ps.map V.ref)) :: ps.map fun b => (b, HO.lst [])) (by
      rw [List.map_cons, List.map_map]
      have e : ((fun e : Addr × HO => e.1) ∘ fun b : Addr => (b, HO.lst [])) = id := rfl
      rw [e, List.map_id]
      exact List.nodup_cons.mpr ⟨fun z => (hps _ z).2.2 rfl, nd⟩) (fun e he => by
      rcases List.mem_cons.mp he with z | z
      · rw [z]; exact ⟨hPL, eTO⟩
      · obtain ⟨b, hb, rfl⟩ := List.mem_map.mp z
        exact ⟨(hps b hb).1, (hps b hb).2.1⟩)
    rw [List.cons_append] at m
    clear gdu
    refine ⟨_, rfl, p, C, dx, _, rfl, m.ob, T.cl, T.n_told, (by show 7 < 1000; decide), ?_⟩
    rw [show putF "told" (V.ref TO) [("play", V.ref pa0), ("rules", V.str r), ("due_deeds", V.ref DU), ("past_deeds", V.ref PA), ("small_done", V.ref SM), ("far_read", V.ref FR), ("held", V.ref HE)] = ([("play", V.ref pa0), ("rules", V.str r), ("due_deeds", V.ref DU), ("past_deeds", V.ref PA), ("small_done", V.ref SM), ("far_read", V.ref FR), ("held", V.ref HE), ("told", V.ref TO)] : List (Str × V)) from pf_keys ["play", "rules", "due_deeds", "past_deeds", "small_done", "far_read", "held"] (by decide +kernel) rfl]
    refine mgen (m.put (.ins C dx [("play", V.ref pa0), ("rules", V.str r), ("due_deeds", V.ref DU), ("past_deeds", V.ref PA), ("small_done", V.ref SM), ("far_read", V.ref FR), ("held", V.ref HE), ("told", V.ref TO)])) fun H16 m => ?_
    refine ⟨(by show 0 ≤ sizeLine; decide), fun BO eBO => ?_⟩
    have m := m.add1 (Same.refl _) eBO (.lst [])
    generalize upd H16 BO (.lst []) = H17 at *
    refine ⟨_, rfl, p, C, dx, _, rfl, m.ob, T.cl, T.n_boxes, (by show 8 < 1000; decide), ?_⟩
    rw [show putF "boxes" (V.ref BO) [("play", V.ref pa0), ("rules", V.str r), ("due_deeds", V.ref DU), ("past_deeds", V.ref PA), ("small_done", V.ref SM), ("far_read", V.ref FR), ("held", V.ref HE), ("told", V.ref TO)] = ([("play", V.ref pa0), ("rules", V.str r), ("due_deeds", V.ref DU), ("past_deeds", V.ref PA), ("small_done", V.ref SM), ("far_read", V.ref FR), ("held", V.ref HE), ("told", V.ref TO), ("boxes", V.ref BO)] : List (Str × V)) from pf_keys ["play", "rules", "due_deeds", "past_deeds", "small_done", "far_read", "held", "told"] (by decide +kernel) rfl]
    refine mgen (m.put (.ins C dx [("play", V.ref pa0), ("rules", V.str r), ("due_deeds", V.ref DU), ("past_deeds", V.ref PA), ("small_done", V.ref SM), ("far_read", V.ref FR), ("held", V.ref HE), ("told", V.ref TO), ("boxes", V.ref BO)])) fun H18 m => ?_
    refine ⟨_, rfl, p, C, dx, _, rfl, m.ob, T.cl, T.n_near, (by show 9 < 1000; decide), ?_⟩
    rw [show putF "near" (V.int 0) [("play", V.ref pa0), ("rules", V.str r), ("due_deeds", V.ref DU), ("past_deeds", V.ref PA), ("small_done", V.ref SM), ("far_read", V.ref FR), ("held", V.ref HE), ("told", V.ref TO), ("boxes", V.ref BO)] = ([("play", V.ref pa0), ("rules", V.str r), ("due_deeds", V.ref DU), ("past_deeds", V.ref PA), ("small_done", V.ref SM), ("far_read", V.ref FR), ("held", V.ref HE), ("told", V.ref TO), ("boxes", V.ref BO), ("near", V.int 0)] : List (Str × V)) from pf_keys ["play", "rules", "due_deeds", "past_deeds", "small_done", "far_read", "held", "told", "boxes"] (by decide +kernel) rfl]
    refine mgen (m.put (.ins C dx [("play", V.ref pa0), ("rules", V.str r), ("due_deeds", V.ref DU), ("past_deeds", V.ref PA), ("small_done", V.ref SM), ("far_read", V.ref FR), ("held", V.ref HE), ("told", V.ref TO), ("boxes", V.ref BO), ("near", V.int 0)])) fun H19 m => ?_
    refine ⟨_, rfl, p, C, dx, _, rfl, m.ob, T.cl, T.n_far, (by show 10 < 1000; decide), ?_⟩
    rw [show putF "far" (V.int 0) [("play", V.ref pa0), ("rules", V.str r), ("due_deeds", V.ref DU), ("past_deeds", V.ref PA), ("small_done", V.ref SM), ("far_read", V.ref FR), ("held", V.ref HE), ("told", V.ref TO), ("boxes", V.ref BO), ("near", V.int 0)] = ([("play", V.ref pa0), ("rules", V.str r), ("due_deeds", V.ref DU), ("past_deeds", V.ref PA), ("small_done", V.ref SM), ("far_read", V.ref FR), ("held", V.ref HE), ("told", V.ref TO), ("boxes", V.ref BO), ("near", V.int 0), ("far", V.int 0)] : List (Str × V)) from pf_keys ["play", "rules", "due_deeds", "past_deeds", "small_done", "far_read", "held", "told", "boxes", "near"] (by decide +kernel) rfl]
    refine mgen (m.put (.ins C dx [("play", V.ref pa0), ("rules", V.str r), ("due_deeds", V.ref DU), ("past_deeds", V.ref PA), ("small_done", V.ref SM), ("far_read", V.ref FR), ("held", V.ref HE), ("told", V.ref TO), ("boxes", V.ref BO), ("near", V.int 0), ("far", V.int 0)])) fun H20 m => ?_
    have hpe : ([DU, PA, SM, FR, HE, TO, BO] ++ ps).Perm (BO :: TO :: (ps ++ [HE, FR, SM, PA, DU])) := by
      rw [List.perm_iff_count]
      intro a
      simp only [List.count_cons, List.count_append, List.count_nil, List.cons_append, List.nil_append]
      omega
    have hal : (((BO, HO.lst []) :: (TO, HO.lst (ps.map V.ref)) :: (ps.map (fun b => (b, HO.lst [])) ++ [(HE, HO.lst ((List.replicate (nW P) (none : Option Int)).map optI)), (FR, HO.lst ((List.replicate (nW P) (none : Option Int)).map optI)), (SM, HO.lst ((List.replicate (nW P) (0 : Nat)).map natV)), (PA, HO.lst ((List.replicate (nW P) (0 : Nat)).map natV)), (DU, HO.lst ((dueL P).map natV))])).map (·.1)) = BO :: TO :: (ps ++ [HE, FR, SM, PA, DU]) := by
      simp only [List.map_cons, List.map_append, List.map_map, List.map_nil]
      have e : ((fun e : Addr × HO => e.1) ∘ fun b : Addr => (b, HO.lst [])) = id := rfl
      rw [e, List.map_id]
    have rp : ∀ {β : Type} (f : Mv → β), (List.replicate (nW P) mv0).map f = List.replicate (nW P) (f mv0) := fun f => List.map_replicate
    refine q ⟨p, dx, V.ref pa0, DU, PA, SM, FR, HE, TO, BO, ps⟩ _ rfl rfl rfl ⟨m.ob, hP.kt (m.kt hp), ?_, ?_, List.length_replicate⟩ (fun b o e n => m.kp b o e n) (fun a ha => ?_)
    · show LsAt _ ([DU, PA, SM, FR, HE, TO, BO] ++ ps) (contW _ P (walk0 P))
      unfold contW walk0
      simp only [rp]
      refine papp ?_ ?_
      · have l1 := m.li (DU, .lst ((dueL P).map natV)) (by simp)
        have l2 := m.li (PA, .lst ((List.replicate (nW P) (0 : Nat)).map natV)) (by simp)
        have l3 := m.li (SM, .lst ((List.replicate (nW P) (0 : Nat)).map natV)) (by simp)
        have l4 := m.li (FR, .lst ((List.replicate (nW P) (none : Option Int)).map optI)) (by simp)
        have l5 := m.li (HE, .lst ((List.replicate (nW P) (none : Option Int)).map optI)) (by simp)
        have l6 := m.li (TO, .lst (ps.map V.ref)) (by simp)
        have l7 := m.li (BO, .lst []) (by simp)
        rw [List.map_replicate] at l2 l3 l4 l5
        exact .cons l1 (.cons l2 (.cons l3 (.cons l4 (.cons l5 (.cons l6 (.cons l7 .nil))))))
      · rw [← hl]
        exact ls_rep fun b hb => m.li (b, .lst []) (by simp only [List.mem_cons, List.mem_append, List.mem_map]; exact .inr (.inr (.inl ⟨b, hb, rfl⟩)))
    · refine hpe.nodup_iff.mpr ?_
      rw [← hal]
      exact m.nd
    · have h1 : a ∈ BO :: TO :: (ps ++ [HE, FR, SM, PA, DU]) := hpe.mem_iff.mp ha
      rw [← hal] at h1
      obtain ⟨e, he, rfl⟩ := List.mem_map.mp h1
      exact (m.fr e he).1
end
end Far
set_option Elab.async false
set_option linter.all false
set_option maxRecDepth 100000
set_option maxHeartbeats 4000000
namespace Far
open PySem L2
structure PlayOk (P : Play) : Prop where
  d : P.1.length ≤ 6
  t : P.2.length ≤ 2
  n : ∀ k ∈ P.2, k ≤ 3
structure OwnOk (P : Play) (b : Bx) (m : Mv) : Prop where
  told : m.told.length ≤ m.past
  past : m.past ≤ P.1.length
  mid : 0 < m.small → m.past < P.1.length
  box : b.boxes.length ≤ m.past + (if m.small = 0 then 0 else 1)
  rest : m.small = 0 → 0 ≤ b.near ∧ b.near ≤ b.boxes.length
  lay : ∀ i, P.1[m.past]? = some (.lay i) → 0 < m.small → m.small = 1 ∧ 0 ≤ b.near ∧ b.near < b.boxes.length
  take : P.1[m.past]? = some .take → 0 < m.small → m.small ≤ 4 ∧ -1 ≤ b.near ∧ b.near < b.boxes.length ∧ (2 ≤ m.small → ∃ f, m.fr = some f ∧ 0 ≤ f ∧ f ≤ b.boxes.length ∧ (3 ≤ m.small → f < b.boxes.length))
structure ThOk (n : Nat) (d : Nat) (m : Mv) : Prop where
  told : m.told.length ≤ m.past
  past : m.past ≤ d
  mid : 0 < m.small → m.past < d
  ph : m.small ≤ 3
  fr : 1 ≤ m.small → ∃ f, m.fr = some f ∧ 0 ≤ f ∧ f ≤ (n : Int) ∧ (2 ≤ m.small → f < (n : Int))
structure SInv (P : Play) (w : Wlk) : Prop where
  len : w.mvs.length = nW P
  far0 : 0 ≤ w.b.far
  far1 : w.b.far ≤ w.b.boxes.length
  own : OwnOk P w.b (mvAt w 0)
  th : ∀ h, 0 < h → h < nW P → ThOk w.b.boxes.length ((dueL P).getD h 0) (mvAt w h)
theorem mvAt_to {w : Wlk} {h : Nat} (hh : h < w.mvs.length) (g : Bx × Mv) (k : Nat) : mvAt (w.to h g) k = if k = h then g.2 else mvAt w k := by
  unfold mvAt Wlk.to
  rw [List.getD_eq_getElem?_getD, List.getD_eq_getElem?_getD, List.getElem?_set]
  by_cases e : h = k
  · subst e
    rw [if_pos rfl, if_pos hh, if_pos rfl]
    rfl
  · rw [if_neg e, if_neg (Ne.symm e)]
theorem ThOk.mono {n n' d : Nat} {m : Mv} (t : ThOk n d m) (h : n ≤ n') : ThOk n' d m :=
  ⟨t.told, t.past, t.mid, t.ph, fun e => let ⟨f, h1, h2, h3, h4⟩ := t.fr e; ⟨f, h1, h2, by omega, fun e => by have := h4 e; omega⟩⟩
theorem putB_len {b : Bx} {i : Int} (h0 : 0 ≤ b.near) (h1 : b.near ≤ b.boxes.length) : b.boxes.length ≤ (putB b i).boxes.length ∧ (putB b i).boxes.length ≤ b.boxes.length + 1 ∧ b.near < (putB b i).boxes.length ∧ (putB b i).near = b.near ∧ (putB b i).far = b.far := by
  unfold putB
  split
  · refine ⟨?_, ?_, ?_, rfl, rfl⟩
    · show _ ≤ (b.boxes ++ [i]).length; rw [List.length_append]; omega
    · show (b.boxes ++ [i]).length ≤ _; rw [List.length_append, List.length_singleton]; omega
    · show _ < (((b.boxes ++ [i]).length : Nat) : Int); rw [List.length_append, List.length_singleton]; omega
  · refine ⟨?_, ?_, ?_, rfl, rfl⟩
    · show _ ≤ (b.boxes.set _ i).length; rw [List.length_set]; exact Nat.le_refl _
    · show (b.boxes.set _ i).length ≤ _; rw [List.length_set]; omega
    · show _ < (((b.boxes.set _ i).length : Nat) : Int); rw [List.length_set]; omega
theorem own_ok {P : Play} {r : Str} {b : Bx} {m : Mv} (o : OwnOk P b m) (hd : m.past < P.1.length) (f0 : 0 ≤ b.far) (f1 : b.far ≤ b.boxes.length) :
    OwnOk P (ownS P r b m).1 (ownS P r b m).2 ∧ b.boxes.length ≤ (ownS P r b m).1.boxes.length ∧ 0 ≤ (ownS P r b m).1.far ∧ (ownS P r b m).1.far ≤ (ownS P r b m).1.boxes.length := by
  obtain ⟨d, hdd⟩ : ∃ d, P.1[m.past]? = some d := ⟨_, List.getElem?_eq_getElem hd⟩
  have ht := o.told
  have hb := o.box
  unfold ownS
  rw [hdd]
  cases d with
  | lay i =>
    show OwnOk P (layS i b m).1 (layS i b m).2 ∧ _ ≤ (layS i b m).1.boxes.length ∧ 0 ≤ (layS i b m).1.far ∧ (layS i b m).1.far ≤ (layS i b m).1.boxes.length
    unfold layS
    by_cases e : m.small = 0
    · rw [if_pos e]
      rw [if_pos e] at hb
      obtain ⟨n0, n1⟩ := o.rest e
      obtain ⟨p1, p2, p3, p4, p5⟩ := putB_len (i := i) n0 n1
      refine ⟨⟨ht, o.past, fun _ => hd, ?_, fun z => (nomatch z), fun j hj _ => ⟨rfl, by rw [p4]; exact n0, by rw [p4]; exact p3⟩, fun z _ => ?_⟩, p1, by rw [p5]; exact f0, by rw [p5]; show b.far ≤ (((putB b i).boxes.length : Nat) : Int); omega⟩
      · show (putB b i).boxes.length ≤ m.past + 1; omega
      · have : P.1[m.past]? = some .take := z
        rw [hdd] at this
        cases this
    · rw [if_neg e]
      rw [if_neg e] at hb
      obtain ⟨_, n0, n1⟩ := o.lay i hdd (by omega)
      refine ⟨⟨?_, hd, fun z => absurd z (by show ¬ 0 < 0; omega), ?_, fun _ => ⟨?_, ?_⟩, fun j _ z => absurd z (by show ¬ 0 < 0; omega), fun _ z => absurd z (by show ¬ 0 < 0; omega)⟩, Nat.le_refl _, f0, f1⟩
      · show m.told.length ≤ m.past + 1; omega
      · show b.boxes.length ≤ m.past + 1 + 0; omega
      · show 0 ≤ b.near + 1; omega
      · show b.near + 1 ≤ b.boxes.length; omega
  | take =>
    show OwnOk P (takeS r b m).1 (takeS r b m).2 ∧ _ ≤ (takeS r b m).1.boxes.length ∧ 0 ≤ (takeS r b m).1.far ∧ (takeS r b m).1.far ≤ (takeS r b m).1.boxes.length
    have nl : ∀ {A : Prop} (i : Int), P.1[m.past]? = some (.lay i) → A := fun i z => by rw [hdd] at z; cases z
    have fin : ∀ (b' : Bx) (g : Got), b'.boxes = b.boxes → m.small ≠ 0 → 0 ≤ b'.near → b'.near ≤ b.boxes.length → OwnOk P b' (comeM m g) := fun b' g e1 e2 n0 n1 => by
      rw [if_neg e2] at hb
      refine ⟨?_, hd, fun z => absurd z (by show ¬ 0 < 0; omega), ?_, fun _ => ⟨n0, by rw [e1]; exact n1⟩, fun j _ z => absurd z (by show ¬ 0 < 0; omega), fun _ z => absurd z (by show ¬ 0 < 0; omega)⟩
      · show (m.told ++ [g]).length ≤ m.past + 1
        rw [List.length_append, List.length_singleton]; omega
      · rw [e1]; show b.boxes.length ≤ m.past + 1 + 0; omega
    unfold takeS
    by_cases e0 : m.small = 0
    · rw [if_pos e0]
      rw [if_pos e0] at hb
      obtain ⟨n0, n1⟩ := o.rest e0
      refine ⟨⟨ht, o.past, fun _ => hd, ?_, fun z => (nomatch z), fun i z _ => nl i z, fun _ _ => ⟨by show 1 ≤ 4; omega, ?_, ?_, fun z => absurd z (by show ¬ 2 ≤ 1; omega)⟩⟩, Nat.le_refl _, f0, f1⟩
      · show b.boxes.length ≤ m.past + 1; omega
      · show -1 ≤ b.near - 1; omega
      · show b.near - 1 < b.boxes.length; omega
    obtain ⟨t4, n0, n1, hf⟩ := o.take hdd (by omega)
    rw [if_neg e0] at hb
    rw [if_neg e0]
    by_cases e1 : m.small = 1
    · rw [if_pos e1]
      exact ⟨⟨ht, o.past, fun _ => hd, hb, fun z => (nomatch z), fun i z _ => nl i z, fun _ _ => ⟨by show 2 ≤ 4; omega, n0, n1, fun _ => ⟨b.far, rfl, f0, f1, fun z => absurd z (by show ¬ 3 ≤ 2; omega)⟩⟩⟩, Nat.le_refl _, f0, f1⟩
    rw [if_neg e1]
    obtain ⟨f, hfr, g0, g1, g2⟩ := hf (by omega)
    have efo : fO m = f := by unfold fO; rw [hfr]; rfl
    by_cases e2 : m.small = 2
    · rw [if_pos e2]
      unfold thirdS
      rw [efo]
      by_cases c1 : b.near < f
      · rw [if_pos c1]
        exact ⟨fin _ _ rfl e0 g0 g1, Nat.le_refl _, f0, f1⟩
      rw [if_neg c1]
      by_cases c2 : f < b.near
      · rw [if_pos c2]
        exact ⟨fin b _ rfl e0 (by show 0 ≤ b.near; omega) (by show b.near ≤ _; omega), Nat.le_refl _, f0, f1⟩
      rw [if_neg c2]
      exact ⟨⟨ht, o.past, fun _ => hd, hb, fun z => (nomatch z), fun i z _ => nl i z, fun _ _ => ⟨by show 3 ≤ 4; omega, n0, n1, fun _ => ⟨f, hfr, g0, g1, fun _ => by show f < (b.boxes.length : Int); omega⟩⟩⟩, Nat.le_refl _, f0, f1⟩
    rw [if_neg e2]
    have g3 := g2 (by clear hf; omega)
    by_cases e3 : m.small = 3 ∧ r ≠ "bare"
    · rw [if_pos e3]
      unfold fourthS
      split
      · rename_i c1
        rw [efo] at c1
        exact ⟨⟨ht, o.past, fun _ => hd, hb, fun z => (nomatch z), fun i z _ => nl i z, fun _ _ => ⟨by show 4 ≤ 4; omega, n0, n1, fun _ => ⟨f, hfr, g0, g1, fun _ => g3⟩⟩⟩, Nat.le_refl _, by show 0 ≤ b.far + 1; omega, by show b.far + 1 ≤ (b.boxes.length : Int); omega⟩
      · exact ⟨⟨ht, o.past, fun _ => hd, hb, fun z => (nomatch z), fun i z _ => nl i z, fun _ _ => ⟨by show 4 ≤ 4; omega, n0, n1, fun _ => ⟨f, hfr, g0, g1, fun _ => g3⟩⟩⟩, Nat.le_refl _, f0, f1⟩
    · rw [if_neg e3, efo]
      exact ⟨fin _ _ rfl e0 (by show 0 ≤ f + 1; omega) (by show f + 1 ≤ (b.boxes.length : Int); omega), Nat.le_refl _, f0, f1⟩
theorem try_ok {r : Str} {b : Bx} {m : Mv} {d : Nat} (o : ThOk b.boxes.length d m) (hd : m.past < d) (f0 : 0 ≤ b.far) (f1 : b.far ≤ b.boxes.length) (hn : b.near ≤ b.boxes.length) :
    ThOk b.boxes.length d (tryS r b m).2 ∧ (tryS r b m).1.boxes = b.boxes ∧ (tryS r b m).1.near = b.near ∧ 0 ≤ (tryS r b m).1.far ∧ (tryS r b m).1.far ≤ b.boxes.length := by
  have ht := o.told
  have fin : ∀ g : Got, ThOk b.boxes.length d (comeM m g) := fun g => ⟨by show (m.told ++ [g]).length ≤ m.past + 1; rw [List.length_append, List.length_singleton]; omega, hd, fun z => absurd z (by show ¬ 0 < 0; omega), by show 0 ≤ 3; omega, fun z => absurd z (by show ¬ 1 ≤ 0; omega)⟩
  unfold tryS
  by_cases e0 : m.small = 0
  · rw [if_pos e0]
    exact ⟨⟨ht, o.past, fun _ => hd, by show 1 ≤ 3; omega, fun _ => ⟨b.far, rfl, f0, f1, fun z => absurd z (by show ¬ 2 ≤ 1; omega)⟩⟩, rfl, rfl, f0, f1⟩
  rw [if_neg e0]
  obtain ⟨f, hfr, g0, g1, g2⟩ := o.fr (by omega)
  have efo : fO m = f := by unfold fO; rw [hfr]; rfl
  rw [efo]
  by_cases e1 : m.small = 1
  · rw [if_pos e1]
    by_cases c : b.near ≤ f
    · rw [if_pos c]
      exact ⟨fin _, rfl, rfl, f0, f1⟩
    · rw [if_neg c]
      exact ⟨⟨ht, o.past, fun _ => hd, by show 2 ≤ 3; omega, fun _ => ⟨f, hfr, g0, g1, fun _ => by omega⟩⟩, rfl, rfl, f0, f1⟩
  rw [if_neg e1]
  have g3 := g2 (by omega)
  by_cases e2 : m.small = 2
  · rw [if_pos e2]
    exact ⟨⟨ht, o.past, fun _ => hd, by show 3 ≤ 3; omega, fun _ => ⟨f, hfr, g0, g1, fun _ => g3⟩⟩, rfl, rfl, f0, f1⟩
  rw [if_neg e2]
  by_cases c : r = "blind" ∨ b.far = f
  · rw [if_pos c]
    exact ⟨fin _, rfl, rfl, by show 0 ≤ f + 1; omega, by show f + 1 ≤ (b.boxes.length : Int); omega⟩
  · rw [if_neg c]
    exact ⟨fin _, rfl, rfl, f0, f1⟩
theorem OwnOk.near {P : Play} {b : Bx} {m : Mv} (o : OwnOk P b m) : -1 ≤ b.near ∧ b.near ≤ b.boxes.length := by
  by_cases e : m.small = 0
  · have := o.rest e; omega
  · have hd := o.mid (by omega)
    obtain ⟨d, hdd⟩ : ∃ d, P.1[m.past]? = some d := ⟨_, List.getElem?_eq_getElem hd⟩
    cases d with
    | lay i => have := o.lay i hdd (by omega); omega
    | take => obtain ⟨_, h1, h2, _⟩ := o.take hdd (by omega); omega
theorem OwnOk.frame {P : Play} {b b' : Bx} {m : Mv} (o : OwnOk P b m) (h1 : b'.boxes = b.boxes) (h2 : b'.near = b.near) : OwnOk P b' m := by
  refine ⟨o.told, o.past, o.mid, by rw [h1]; exact o.box, by rw [h1, h2]; exact o.rest, by rw [h1, h2]; exact o.lay, by rw [h1, h2]; exact o.take⟩
theorem SInv.move {P : Play} {r : Str} {w : Wlk} (I : SInv P w) {h : Nat} (hh : h < nW P) (hl : hasLeft P w h = true) : SInv P (moveW P r w h) := by
  have hlen : h < w.mvs.length := by rw [I.len]; exact hh
  have hd : (mvAt w h).past < (dueL P).getD h 0 := of_decide_eq_true hl
  unfold moveW
  have e1 : (w.to h (moveS P r h w.b (mvAt w h))).mvs.length = nW P := by unfold Wlk.to; rw [List.length_set]; exact I.len
  by_cases h0 : 0 < h
  · have em : moveS P r h w.b (mvAt w h) = tryS r w.b (mvAt w h) := by unfold moveS; rw [if_pos h0]
    obtain ⟨t1, t2, t3, t4, t5⟩ := try_ok (r := r) (I.th h h0 hh) hd I.far0 I.far1 I.own.near.2
    rw [em] at e1 ⊢
    refine ⟨e1, t4, by show _ ≤ (((tryS r w.b (mvAt w h)).1.boxes.length : Nat) : Int); rw [t2]; exact t5, ?_, fun k hk hkn => ?_⟩
    · rw [mvAt_to hlen, if_neg (by omega)]
      exact I.own.frame t2 t3
    · rw [mvAt_to hlen]
      show ThOk (tryS r w.b (mvAt w h)).1.boxes.length _ _
      rw [t2]
      split
      · rename_i e; subst e; exact t1
      · exact I.th k hk hkn
  · have e0 : h = 0 := by omega
    subst e0
    have em : moveS P r 0 w.b (mvAt w 0) = ownS P r w.b (mvAt w 0) := by unfold moveS; rw [if_neg (by omega)]
    obtain ⟨t1, t2, t3, t4⟩ := own_ok (r := r) I.own hd I.far0 I.far1
    rw [em] at e1 ⊢
    refine ⟨e1, t3, t4, ?_, fun k hk hkn => ?_⟩
    · rw [mvAt_to hlen, if_pos rfl]
      exact t1
    · rw [mvAt_to hlen, if_neg (by omega)]
      exact (I.th k hk hkn).mono t2
theorem due_small {P : Play} (o : PlayOk P) (h : Nat) : (dueL P).getD h 0 ≤ 6 := by
  cases h with
  | zero => exact o.d
  | succ k =>
    show (P.2.getD k 0) ≤ 6
    rw [List.getD_eq_getElem?_getD]
    cases e : P.2[k]? with
    | none => exact Nat.zero_le _
    | some n => exact Nat.le_trans (o.n n (List.mem_of_getElem? e)) (by decide)
theorem SInv.rdy {P : Play} {w : Wlk} (I : SInv P w) (ok : PlayOk P) {h : Nat} (hh : h < nW P) (hl : hasLeft P w h = true) : Rdy P h w.b (mvAt w h) := by
  have hd : (mvAt w h).past < (dueL P).getD h 0 := of_decide_eq_true hl
  have h6 := due_small ok h
  have ob := I.own.box
  have op := I.own.past
  have od := ok.d
  have hbx : w.b.boxes.length ≤ 100 := by split at ob <;> omega
  by_cases h0 : 0 < h
  · have t := I.th h h0 hh
    have t1 := t.told
    refine ⟨by omega, hbx, fun _ e => ?_, fun z => by omega, fun z => by omega, fun z => by omega⟩
    obtain ⟨f, g1, g2, g3, g4⟩ := t.fr e
    exact ⟨f, g1, fun z => ⟨g2, g4 (by omega)⟩⟩
  · have e0 : h = 0 := by omega
    subst e0
    have t := I.own
    have t1 := t.told
    have hd' : (mvAt w 0).past < P.1.length := hd
    refine ⟨by omega, hbx, fun z => by omega, fun _ => hd', fun _ i _ z => t.rest z, fun _ z e => ?_⟩
    obtain ⟨_, n0, n1, g⟩ := t.take z (by omega)
    obtain ⟨f, g1, g2, g3, g4⟩ := g e
    exact ⟨f, g1, fun _ c => ⟨by omega, n1⟩⟩
theorem rep_at {α : Type} {n h : Nat} {a : α} : (List.replicate n a).getD h a = a := by
  rw [List.getD_eq_getElem?_getD, List.getElem?_replicate]
  split <;> rfl
theorem SInv.start (P : Play) : SInv P (walk0 P) := by
  have em : ∀ h, mvAt (walk0 P) h = mv0 := fun h => rep_at
  refine ⟨List.length_replicate, Int.le_refl _, Int.le_refl _, ?_, fun h _ _ => ?_⟩
  · rw [em]
    exact ⟨Nat.le_refl _, Nat.zero_le _, fun z => absurd z (by show ¬ 0 < 0; omega), Nat.le_refl _, fun _ => ⟨Int.le_refl _, Int.le_refl _⟩, fun _ _ z => absurd z (by show ¬ 0 < 0; omega), fun _ z => absurd z (by show ¬ 0 < 0; omega)⟩
  · rw [em]
    exact ⟨Nat.le_refl _, Nat.zero_le _, fun z => absurd z (by show ¬ 0 < 0; omega), Nat.zero_le _, fun z => absurd z (by show ¬ 1 ≤ 0; omega)⟩
def Legal (P : Play) (r : Str) : Wlk → List Nat → Prop
  | _, [] => True
  | w, h :: t => h < nW P ∧ hasLeft P w h = true ∧ Legal P r (moveW P r w h) t
def goW (P : Play) (r : Str) (w : Wlk) (hs : List Nat) : Wlk := hs.foldl (moveW P r) w
theorem goW_app (P : Play) (r : Str) (w : Wlk) (a : List Nat) (h : Nat) : goW P r w (a ++ [h]) = moveW P r (goW P r w a) h := by
  unfold goW; rw [List.foldl_append]; rfl
theorem Legal.at {P : Play} {r : Str} : ∀ {w : Wlk} {hs : List Nat} {i h : Nat}, Legal P r w hs → hs[i]? = some h → h < nW P ∧ hasLeft P (goW P r w (hs.take i)) h = true
  | _, [], _, _, _, e => by simp at e
  | w, a :: t, 0, h, l, e => by
    have : a = h := by simpa using e
    subst this
    exact ⟨l.1, l.2.1⟩
  | w, a :: t, i + 1, h, l, e => Legal.at (w := moveW P r w a) (hs := t) l.2.2 (by simpa using e)
theorem Legal.inv {P : Play} {r : Str} : ∀ {w : Wlk} {hs : List Nat}, SInv P w → Legal P r w hs → SInv P (goW P r w hs)
  | _, [], I, _ => I
  | w, a :: t, I, l => Legal.inv (w := moveW P r w a) (hs := t) (I.move l.1 l.2.1) l.2.2
theorem Legal.take {P : Play} {r : Str} : ∀ {w : Wlk} {hs : List Nat} (i : Nat), Legal P r w hs → Legal P r w (hs.take i)
  | _, [], i, _ => by rw [List.take_nil]; trivial
  | _, _ :: _, 0, _ => trivial
  | w, a :: t, i + 1, l => ⟨l.1, l.2.1, Legal.take i l.2.2⟩
def spWalked (K : PySem.W.Frag) : Sp := fun vs H Q _ => ∃ (pv : V) (P : Play) (wa : Addr) (hs : List Nat), vs = [pv, .ref wa] ∧ IsPlay K H pv P ∧ PlayOk P ∧ SqT K H wa (hs.map natV) ∧ Legal P "good" (walk0 P) hs ∧
  ∀ (T L1 L2 : Addr) (rows : List Addr) H', H T = none → (L1 :: L2 :: rows).Nodup → (∀ a ∈ L1 :: L2 :: rows, H a = none) → Same H H' → H' T = some (.tup [.ref L1, .ref L2]) → H' L1 = some (.lst (rows.map V.ref)) → H' L2 = some (.lst ((leftL (goW P "good" (walk0 P) hs).b).map V.int)) → LsAt H' rows ((goW P "good" (walk0 P) hs).mvs.map fun m => m.told.map gotV) → Q (.ref T) H'
end Far
set_option Elab.async false
set_option linter.all false
set_option maxRecDepth 100000
set_option maxHeartbeats 4000000
set_option pp.maxSteps 500
namespace Far
open PySem L2
section
variable {P : Program} {w : World} {K : PySem.W.Frag} {mg : Str → Option Value} {base : Heap} {C : Addr}
abbrev n_outcome : List Str := ["self", "row", "at"]
theorem sc_outcome : FnScope n_outcome ["self"] (defScope sOutcome) := ⟨rfl, rfl, rfl, by decide +kernel, rfl, by decide +kernel, by decide +kernel⟩
theorem ok_outcome {f : Addr} {fd : FuncData} (F : Fun K "outcome" "Walk.outcome" sOutcome f fd) (T : TxtW K mg C) :
    FnOk P w K mg base CX0 1 f fd ["self"] (spOutcome K C) := by
  refine F.ok sc_outcome (fun vs H Q E h => ?_) (fun cdv Ar outer s H vs Q E hr h => ?_)
  · obtain ⟨x, P, r, w, rfl, _⟩ := h
    rfl
  · obtain ⟨x, P, r, w, rfl, A, hn, f0, n0, n1, hb, f1, q⟩ := h
    refine ⟨_, pss_one (ps_ret (pe_tup (pa_cons (pe_lc (own := [("row", 1)]) (g := gName 1) (by rfl) sc_outcome.nd (pi_list (pe_fld (pv 0) rfl)) (blkOk_by (own := [("row", 1)]) (N := n_outcome) (sc := defScope sOutcome) (by decide +kernel)) (fun _ _ _ _ _ => pg_name (i := 1) sc_outcome.nd rfl (Or.inl rfl)) (fun _ _ _ _ _ => pts_nil) (fun _ _ _ _ _ => pe_callTy (T := "list") (r := rListK K) call_list_of (by rfl) T.list (by decide +kernel) (pa_cons (pv 1) pa_nil))) (pa_cons (pe_lc (own := [("at", 2)]) (g := gName 2) (te := tOp (rIxL K) (tFld K (tVar 0) "boxes") (tVar 2)) (by rfl) sc_outcome.nd (pi_range2 rfl T.range (pa_cons (pe_fld (pv 0) rfl) (pa_cons (pe_fld (pv 0) rfl) pa_nil))) (blkOk_by (own := [("at", 2)]) (N := n_outcome) (sc := defScope sOutcome) (by decide +kernel)) (fun _ _ _ _ _ => pg_name (i := 2) sc_outcome.nd rfl (Or.inl rfl)) (fun _ _ _ _ _ => pts_nil) (fun _ _ _ _ _ => pe_ix (r := rIxL K) ix_list (pe_fld (pv 0) rfl) (pv 2) (fun _ _ => rfl))) pa_nil)))), ?_⟩
    refine ⟨_, rfl, x.p, C, x.dx, _, _, rfl, A.ob, T.cl, T.n_told, wl_told _ _ _ _, x.to, rfl, ⟨_, SqL.of A.told⟩, fun D1 e1 => ?_⟩
    have hrl : x.rows.length = nW P := by
      have := plen A.ls
      unfold addrW contW at this
      rw [List.length_append, List.length_append, List.length_map] at this
      have hl := A.len
      simp only [List.length_cons, List.length_nil] at this
      omega
    refine lc_list (K := K) (a := x.to) (xs := x.rows.map V.ref) (fun i H2 => Same H H2 ∧ ∃ rs : List Addr, H2 D1 = some (.lst (rs.map V.ref)) ∧ LsAt H2 rs ((w.mvs.map fun m => m.told.map gotV).take i) ∧ rs.Nodup ∧ ∀ b ∈ rs, H b = none ∧ b ≠ D1)
      ⟨same_new e1 _, [], upd_same, by rw [List.take_zero]; exact .nil, List.nodup_nil, fun b z => (nomatch z)⟩ (fun i H2 _ ⟨s2, _⟩ => SqL.of (s2 _ _ A.told)) ?_ ?_
    · rintro i y H2 hy ⟨s2, rs, hD, hrs, nd, hfr⟩
      obtain ⟨a, ha, rfl⟩ := mapAt' hy
      have hil := (List.getElem?_eq_some_iff.mp ha).1
      have hm : w.mvs[i]? = some (mvAt w i) := A.mv (by omega)
      obtain ⟨a', ha', _, hra, _⟩ := A.row hm
      rw [ha] at ha'
      cases ha'
      refine ⟨rfl, yes_ ?_⟩
      refine iteT ?_
      refine ⟨_, rfl, a, _, rfl, .inl (SqL.of (s2 _ _ hra)), fun B eB => ?_⟩
      have hBD : B ≠ D1 := fun z => by rw [z, hD] at eB; cases eB
      have s3 := same_new eB (.lst ((mvAt w i).told.map gotV))
      have hrl2 := plen hrs
      rw [List.length_take, List.length_map, A.len] at hrl2
      have hnB : B ∉ rs := fun z => by obtain ⟨l, e⟩ := ls_mem z hrs; rw [e] at eB; cases eB
      refine ⟨_, s3 _ _ hD, small1000 (by rw [List.length_map]; omega), fun c o e => ?_, rs ++ [B], ?_, ?_, ?_, fun b hb => ?_⟩
      · rw [upd_ne (ne_of_none e e1)]; exact s3 _ _ (s2 c o e)
      · rw [upd_same, List.map_append]; rfl
      · rw [take_snoc (map_at (f := fun m : Mv => m.told.map gotV) hm)]
        refine papp (ls_far (fun z => (hfr _ z).2 rfl) (ls_same s3 hrs)) (.cons ?_ .nil)
        rw [upd_ne hBD]; exact upd_same
      · refine List.nodup_append.mpr ⟨nd, by simp, ?_⟩
        rintro c hc d hd rfl
        rw [List.mem_singleton.mp hd] at hc
        exact hnB hc
      · rcases List.mem_append.mp hb with z | z
        · exact hfr b z
        · rw [List.mem_singleton.mp z]; exact ⟨s2.free eB, hBD⟩
    rintro H2 ⟨s2, rs, hD, hrs, nd, hfr⟩
    rw [List.length_map, List.take_of_length_le (by rw [List.length_map, A.len]; omega)] at hrs
    have A2 := A.same s2
    refine ⟨_, rfl, x.p, C, x.dx, _, _, rfl, A2.ob, T.cl, T.n_far, wl_far _ _ _ _, _, rfl, x.p, C, x.dx, _, _, rfl, A2.ob, T.cl, T.n_near, wl_near _ _ _ _, _, _, rfl, ⟨by omega, by omega, by omega, by omega⟩, fun D2 e2 => ?_⟩
    refine lc_range (lo := w.b.far) (n := (w.b.near - w.b.far).toNat) (fun i H3 => Same H2 H3 ∧ H3 D2 = some (.lst (((List.range i).map fun k : Nat => boxB w.b (w.b.far + (k : Int))).map V.int)))
      ⟨same_new e2 _, upd_same⟩ ?_ ?_
    · rintro i H3 hi ⟨s3, hD3⟩
      have A3 := A2.same s3
      refine ⟨rfl, yes_ ?_⟩
      refine iteT ?_
      have hbx : (w.b.boxes.map V.int)[(w.b.far + (i : Int)).toNat]? = some (.int (boxB w.b (w.b.far + (i : Int)))) := map_at (getD_get 0 (by omega))
      refine ⟨_, rfl, x.p, C, x.dx, _, _, rfl, A3.ob, T.cl, T.n_boxes, wl_boxes _ _ _ _, _, rfl, x.bo, _, _, _, rfl, rfl, SqL.of A3.boxes, at_of (Int.toNat_of_nonneg (by omega)).symm hbx, ?_⟩
      refine ⟨_, hD3, small1000 (by rw [List.length_map, List.length_map, List.length_range]; omega), fun c o e => ?_, ?_⟩
      · rw [upd_ne (ne_of_none e e2)]; exact s3 c o e
      · rw [upd_same, List.range_succ, List.map_append, List.map_append]; rfl
    rintro H3 ⟨s3, hD3⟩
    refine ⟨(by show 2 ≤ sizeLine; decide), fun T1 eT => ?_⟩
    have s4 := same_new eT (.tup [.ref D1, .ref D2])
    have s24 := s3.trans s4
    have n2 : H D2 = none := s2.free e2
    have hD2' : ∀ b, (∃ l, H2 b = some (.lst l)) → b ≠ D2 := fun b ⟨l, e⟩ => ne_of_none e e2
    refine q T1 D1 D2 rs _ ((s2.trans s3).free eT) ?_ (fun a ha => ?_) (s2.trans s24) upd_same (s24 _ _ hD) (s4 _ _ hD3) (ls_same s24 hrs)
    · refine List.nodup_cons.mpr ⟨fun z => ?_, List.nodup_cons.mpr ⟨fun z => ?_, nd⟩⟩
      · rcases List.mem_cons.mp z with z | z
        · exact hD2' D1 ⟨_, hD⟩ z
        · exact (hfr _ z).2 rfl
      · exact hD2' D2 (ls_mem z hrs) rfl
    · rcases List.mem_cons.mp ha with z | z
      · rw [z]; exact e1
      rcases List.mem_cons.mp z with z | z
      · rw [z]; exact n2
      · exact (hfr _ z).1
abbrev n_walked : List Str := ["play", "weaving", "walk", "place", "who"]
theorem sc_walked : FnScope n_walked ["play", "weaving"] (defScope sWalked) := ⟨rfl, rfl, rfl, by decide +kernel, rfl, by decide +kernel, by decide +kernel⟩
end
end Far
set_option Elab.async false
set_option linter.all false
set_option maxRecDepth 100000
set_option maxHeartbeats 4000000
namespace Far
open PySem
def KD {α : Type} : Sem α → Prop
  | .pure _ => True
  | .raise _ => True
  | .unsupported _ => True
  | .finish _ => True
  | .rule _ k => KD (k ())
  | .at _ k => KD (k ())
  | .load _ _ k => ∀ o, KD (k o)
  | .update _ _ f k => (∀ o, (f o).dict = o.dict) ∧ KD (k ())
  | .alloc _ k => ∀ a, KD (k a)
  | .loadIfAlive _ k => ∀ o, KD (k o)
  | .point _ k => KD (k ())
  | .fresh k => ∀ t, KD (k t)
  | .ask k => ∀ x, KD (k x)
  | .choose _ _ k => ∀ x, KD (k x)
  | .os _ _ k => ∀ x, KD (k x)
  | .handled _ k => ∀ x, KD (k x)
  | .genState _ k => ∀ x, KD (k x)
  | .newGen _ k => ∀ x, KD (k x)
  | .stack k => ∀ x, KD (k x)
  | .thread k => KD (k 0)
  | .register _ _ => True
  | .yield _ _ _ _ => True
  | .fork _ _ => True
  | .await _ _ _ _ _ => True
  | .call _ _ _ _ _ => False
  | .resume _ _ _ _ => False
def DK (h h' : Heap) : Prop := ∀ (a : Addr) (o : Obj), h.objs[a]? = some o → ∃ o', h'.objs[a]? = some o' ∧ o'.dict = o.dict
theorem DK.refl (h : Heap) : DK h h := fun _ o e => ⟨o, e, rfl⟩
theorem DK.trans {h1 h2 h3 : Heap} (a : DK h1 h2) (b : DK h2 h3) : DK h1 h3 := fun x o e =>
  let ⟨o1, e1, d1⟩ := a x o e; let ⟨o2, e2, d2⟩ := b x o1 e1; ⟨o2, e2, d2.trans d1⟩
theorem DK.push (h : Heap) (o : Obj) : DK h (h.push o) := fun x o' e => by
  refine ⟨o', ?_, rfl⟩
  show (h.objs.push o)[x]? = some o'
  have hx : x < h.objs.size := by
    rcases Nat.lt_or_ge x h.objs.size with z | z
    · exact z
    · rw [Array.getElem?_eq_none z] at e; cases e
  rw [Array.getElem?_push, if_neg (Nat.ne_of_lt hx)]
  exact e
theorem DK.update (h : Heap) (a : Addr) {f : Obj → Obj} (hf : ∀ o, (f o).dict = o.dict) : DK h (h.update a f) := fun x o e => by
  show ∃ o', (h.objs.modify a f)[x]? = some o' ∧ _
  rw [Array.getElem?_modify]
  by_cases z : a = x
  · rw [if_pos z, e]; exact ⟨_, rfl, hf o⟩
  · rw [if_neg z, e]; exact ⟨_, rfl, rfl⟩
theorem objs_of {h : Heap} {a : Addr} {o : Obj} (e : h.get? a = some o) : h.objs[a]? = some o := by
  unfold Heap.get? at e
  split at e
  · cases e
  · exact e
theorem DK.dict {h h' : Heap} (d : DK h h') {a : Addr} {o o' : Obj} (e : h.get? a = some o) (e' : h'.get? a = some o') : o'.dict = o.dict := by
  obtain ⟨o1, e1, d1⟩ := d a o (objs_of e)
  rw [objs_of e'] at e1
  cases e1
  exact d1
theorem wp_kd {α : Type} {M : Model} {Γ : Ctx} {Q : α → Pos → Shared → Prop} {E : Value → Pos → Shared → Prop} {h0 : Heap} : ∀ (t : Sem α) {p : Pos} {s : Shared}, KD t → DK h0 s.heap → Sem.wp M Γ t Q E p s →
    Sem.wp M Γ t (fun a p s' => Q a p s' ∧ DK h0 s'.heap) (fun e p s' => E e p s' ∧ DK h0 s'.heap) p s := by
  intro t
  induction t with
  | pure a => intro p s _ d h; rw [Sem.wp] at h ⊢; exact ⟨h, d⟩
  | raise e => intro p s _ d h; rw [Sem.wp] at h ⊢; exact ⟨h, d⟩
  | unsupported w => intro p s _ d h; rw [Sem.wp] at h; exact h.elim
  | finish e => intro p s _ d h; rw [Sem.wp] at h; exact h.elim
  | rule t k ih => intro p s hk d h; rw [Sem.wp] at h ⊢; exact ih () hk d h
  | «at» q k ih => intro p s hk d h; rw [Sem.wp] at h ⊢; exact ih () hk d h
  | load a pt k ih => intro p s hk d h; rw [Sem.wp] at h ⊢; obtain ⟨o, e, z⟩ := h; exact ⟨o, e, ih o (hk o) d z⟩
  | update a pt f k ih => intro p s hk d h; rw [Sem.wp] at h ⊢; exact ⟨h.1, ih () hk.2 (d.trans (DK.update _ _ hk.1)) h.2⟩
  | alloc o k ih => intro p s hk d h; rw [Sem.wp] at h ⊢; exact ih _ (hk _) (d.trans (DK.push _ _)) h
  | loadIfAlive a k ih => intro p s hk d h; rw [Sem.wp] at h ⊢; exact ih _ (hk _) d h
  | point l k ih => intro p s hk d h; rw [Sem.wp] at h ⊢; exact ih () hk d h
  | register a k ih => intro p s hk d h; rw [Sem.wp] at h; exact h.elim
  | fresh k ih => intro p s hk d h; rw [Sem.wp] at h ⊢; exact ih _ (hk _) d h
  | ask k ih => intro p s hk d h; rw [Sem.wp] at h ⊢; exact ih _ (hk _) d h
  | choose src n k ih => intro p s hk d h; rw [Sem.wp] at h ⊢; exact ⟨h.1, ih _ (hk _) d h.2⟩
  | os q l k ih => intro p s hk d h; rw [Sem.wp] at h ⊢; exact ih _ (hk _) d h
  | call c hd g l k ih => intro p s hk d h; exact False.elim hk
  | handled o k ih => intro p s hk d h; rw [Sem.wp] at h ⊢; exact ih _ (hk _) d h
  | newGen c k ih => intro p s hk d h; rw [Sem.wp] at h ⊢; exact ih _ (hk _) d h
  | genState g k ih => intro p s hk d h; rw [Sem.wp] at h ⊢; obtain ⟨st, e, z⟩ := h; exact ⟨st, e, ih _ (hk _) d z⟩
  | resume g r l k ih => intro p s hk d h; exact False.elim hk
  | yield v g l k ih => intro p s hk d h; rw [Sem.wp] at h; exact h.elim
  | stack k ih => intro p s hk d h; rw [Sem.wp] at h ⊢; exact ih _ (hk _) d h
  | fork c k ih => intro p s hk d h; rw [Sem.wp] at h; exact h.elim
  | thread k ih => intro p s hk d h; rw [Sem.wp] at h ⊢; exact ih _ hk d h
  | await a t d l k ih => intro p s hk d h; rw [Sem.wp] at h; exact h.elim
theorem wpAny_kd {α : Type} {M : Model} {A : Around} {x : Sem α} {Q : α → Shared → Prop} {E : Value → Shared → Prop} {s : Shared} (k : KD x) (h : wpAny M A x Q E s) :
    wpAny M A x (fun a s' => Q a s' ∧ DK s.heap s'.heap) (fun e s' => E e s' ∧ DK s.heap s'.heap) s := fun Γ p hΓ => wp_kd x k (DK.refl _) (h Γ p hΓ)
theorem KD.bind {α β : Type} : ∀ {x : Sem α} {f : α → Sem β}, KD x → (∀ a, KD (f a)) → KD (x >>= f) := by
  intro x f
  show KD x → _ → KD (Sem.bind x f)
  induction x with
  | pure a => intro _ h; exact h a
  | raise e => intro _ _; trivial
  | unsupported w => intro _ _; trivial
  | finish e => intro _ _; trivial
  | rule t k ih => intro hk h; exact ih () hk h
  | «at» q k ih => intro hk h; exact ih () hk h
  | load a pt k ih => intro hk h o; exact ih o (hk o) h
  | update a pt g k ih => intro hk h; exact ⟨hk.1, ih () hk.2 h⟩
  | alloc o k ih => intro hk h a; exact ih a (hk a) h
  | loadIfAlive a k ih => intro hk h a; exact ih a (hk a) h
  | point l k ih => intro hk h; exact ih () hk h
  | register a k ih => intro _ _; trivial
  | fresh k ih => intro hk h a; exact ih a (hk a) h
  | ask k ih => intro hk h a; exact ih a (hk a) h
  | choose src n k ih => intro hk h a; exact ih a (hk a) h
  | os q l k ih => intro hk h a; exact ih a (hk a) h
  | call c hd g l k ih => intro hk h; exact False.elim hk
  | handled o k ih => intro hk h a; exact ih a (hk a) h
  | newGen c k ih => intro hk h a; exact ih a (hk a) h
  | genState g k ih => intro hk h a; exact ih a (hk a) h
  | resume g r l k ih => intro hk h; exact False.elim hk
  | yield v g l k ih => intro _ _; trivial
  | stack k ih => intro hk h a; exact ih a (hk a) h
  | fork c k ih => intro _ _; trivial
  | thread k ih => intro hk h; exact ih 0 hk h
  | await a t d l k ih => intro _ _; trivial
theorem KD.pure {α : Type} {a : α} : KD (Pure.pure a : Sem α) := trivial
theorem KD.load {a : Addr} : KD (PySem.load a) := fun _ => trivial
theorem KD.loadPart {a : Addr} {p : Option Value} : KD (PySem.loadPart a p) := fun _ => trivial
theorem KD.update' {a : Addr} {f : Obj → Obj} (h : ∀ o, (f o).dict = o.dict) : KD (PySem.update a f) := ⟨h, trivial⟩
theorem KD.uns {α : Type} {w : String} : KD (PySem.unsupported w : Sem α) := trivial
theorem KD.stk : KD PySem.stack := fun _ => trivial
theorem dict_mapFields (f : Array Value → Array Value) (o : Obj) : (Obj.mapFields f o).dict = o.dict := by
  obtain ⟨c, d, dt, s⟩ := o
  cases dt <;> rfl
theorem KD.field (v : Value) (i : Nat) : KD (PySem.field v i) := by
  unfold PySem.field fieldsOf
  repeat (first | exact KD.pure | exact KD.load | exact KD.loadPart | exact KD.uns | exact KD.stk | assumption | (refine KD.bind ?_ fun _ => ?_) | (refine KD.update' fun o => ?_; first | exact dict_mapFields _ o | rfl) | split)
theorem KD.setField (v : Value) (i : Nat) (x : Value) : KD (PySem.setField v i x) := by
  unfold PySem.setField updateField
  repeat (first | exact KD.pure | exact KD.load | exact KD.loadPart | exact KD.uns | exact KD.stk | assumption | (refine KD.bind ?_ fun _ => ?_) | (refine KD.update' fun o => ?_; first | exact dict_mapFields _ o | rfl) | split)
theorem KD.setFlight (v : Value) (l : Option Addr) : KD (PySem.setFlight v l) := by
  unfold PySem.setFlight
  repeat (first | exact KD.field _ _ | exact KD.setField _ _ _ | (first | exact KD.pure | exact KD.load | exact KD.loadPart | exact KD.uns | exact KD.stk | assumption | (refine KD.bind ?_ fun _ => ?_) | (refine KD.update' fun o => ?_; first | exact dict_mapFields _ o | rfl) | split))
theorem KD.behind (e : Env) (l : List Env) : KD (behindIsImport e l) := by
  unfold behindIsImport
  repeat (first | exact KD.field _ _ | (first | exact KD.pure | exact KD.load | exact KD.loadPart | exact KD.uns | exact KD.stk | assumption | (refine KD.bind ?_ fun _ => ?_) | (refine KD.update' fun o => ?_; first | exact dict_mapFields _ o | rfl) | split))
theorem KD.keptBack (e : Env) (b : Bool) : ∀ l, KD (PySem.keptBack e b l)
  | [] => by
    unfold PySem.keptBack underTheClaimsCaller
    repeat (first | exact KD.pure | exact KD.load | exact KD.loadPart | exact KD.uns | exact KD.stk | assumption | (refine KD.bind ?_ fun _ => ?_) | (refine KD.update' fun o => ?_; first | exact dict_mapFields _ o | rfl) | split)
  | _ :: _ => by
    unfold PySem.keptBack
    exact KD.pure
theorem KD.ready : ∀ l, KD (readyFrames l)
  | [] => KD.pure
  | e :: l => by
    have ih := KD.ready l
    unfold readyFrames
    repeat (first | exact ih | exact KD.behind _ _ | exact KD.keptBack _ _ _ | (first | exact KD.pure | exact KD.load | exact KD.loadPart | exact KD.uns | exact KD.stk | assumption | (refine KD.bind ?_ fun _ => ?_) | (refine KD.update' fun o => ?_; first | exact dict_mapFields _ o | rfl) | split))
theorem KD.frameOf (e : Env) : KD (PySem.frameOf e) := by
  unfold PySem.frameOf frameEnvs
  have : ∀ l, KD (frameObject l) := fun l => by
    cases l with
    | nil => exact KD.pure
    | cons a r =>
      unfold frameObject
      repeat (first | exact KD.ready _ | (first | exact KD.pure | exact KD.load | exact KD.loadPart | exact KD.uns | exact KD.stk | assumption | (refine KD.bind ?_ fun _ => ?_) | (refine KD.update' fun o => ?_; first | exact dict_mapFields _ o | rfl) | split))
  repeat (first | exact this _ | (first | exact KD.pure | exact KD.load | exact KD.loadPart | exact KD.uns | exact KD.stk | assumption | (refine KD.bind ?_ fun _ => ?_) | (refine KD.update' fun o => ?_; first | exact dict_mapFields _ o | rfl) | split))
theorem KD.place (f : Addr) (b : Bool) : KD (entryPlaceOf f b) := by
  unfold entryPlaceOf
  repeat (first | exact KD.pure | exact KD.load | exact KD.loadPart | exact KD.uns | exact KD.stk | assumption | (refine KD.bind ?_ fun _ => ?_) | (refine KD.update' fun o => ?_; first | exact dict_mapFields _ o | rfl) | split)
theorem KD.newEntry (a b c d e : Value) (l : List Value) : KD (EntryCells.newEntry a b c d e l) := by
  unfold EntryCells.newEntry newFields newObj newObjAsIs
  have : ∀ o, KD (PySem.alloc o) := fun o _ => trivial
  have reg : ∀ a, KD (PySem.register a) := fun a => trivial
  repeat (first | exact this _ | exact reg _ | (first | exact KD.pure | exact KD.load | exact KD.loadPart | exact KD.uns | exact KD.stk | assumption | (refine KD.bind ?_ fun _ => ?_) | (refine KD.update' fun o => ?_; first | exact dict_mapFields _ o | rfl) | split))
theorem KD.noteFrame (v : Value) (e : Env) : KD (PySem.noteFrame v e) := by
  unfold PySem.noteFrame
  repeat (first | exact KD.field _ _ | exact KD.setField _ _ _ | exact KD.newEntry _ _ _ _ _ _ | exact KD.place _ _ | exact KD.frameOf _ | (first | exact KD.pure | exact KD.load | exact KD.loadPart | exact KD.uns | exact KD.stk | assumption | (refine KD.bind ?_ fun _ => ?_) | (refine KD.update' fun o => ?_; first | exact dict_mapFields _ o | rfl) | split))
theorem KD.leaving (e : Env) (v : Value) : KD (PySem.leaving e v) := by
  unfold PySem.leaving
  exact KD.bind (KD.noteFrame _ _) fun _ => KD.setFlight _ _
end Far
set_option Elab.async false
set_option linter.all false
set_option maxRecDepth 100000
set_option maxHeartbeats 4000000
namespace Far
open PySem L2 HT PySem.Spec PySem.Calls PyProof.Rows
abbrev bmVE : List Value := [.type "ValueError", .type "Exception", .type "BaseException", .type "object"]
structure XC (K : PySem.W.Frag) (C : Addr) : Prop where
  q : PySem.W.excIn K C bmVE "ValueError.__new__" = true
theorem XC.obj {K : PySem.W.Frag} {C : Addr} (x : XC K C) {h : Heap} (X : K.In h) :
    ∃ (tl : List Value) (N : Addr) (nm q : Str) (bs : List Value) (hdct : Bool) (sn : List Str) (sub : List Value) (ab : Bool) (col : Option Bool) (dd : Option Addr) (k0 k1 k2 k3 k5 : Option Value) (mN : Str → Option Value),
      h.get? C = some (excClassObj nm q C N bs tl hdct sn sub ab col dd k0 k1 k2 k3 k5 "ValueError.__new__") ∧ h.Ns N mN ∧ mN "__init__" = none ∧ OwnTail h bmVE tl := by
  have e := x.q
  unfold PySem.W.excIn at e
  split at e
  · rename_i dd cd sl ho
    split at e
    · rename_i C' bm k0 k1 k2 k3 n k5 hm hs
      simp only [Bool.and_eq_true, beq_iff_eq, Bool.not_eq_true'] at e
      obtain ⟨⟨⟨⟨⟨e1, e2⟩, e3⟩, e4⟩, e5⟩, e6⟩ := e
      obtain ⟨nm, bs, mro, ns, qn, hd, sn, sub, ab, col, del⟩ := cd
      obtain ⟨l⟩ := sl
      simp only at hm hs e3 e5 e6
      subst e1 e2 e3 hm hs
      exact ⟨bm, ns, nm, qn, bs, hd, sn, sub, ab, col, dd, k0, k1, k2, k3, k5, _, X _ _ ho, .of_isNs (PySem.W.isNs_of_in X e5), PySem.W.nsMap_none_of_in X e5 e6, PySem.W.tail_of_in X e4⟩
    · cases e
  · cases e
theorem there_of {P : Program} {w : World} {H : Hp} {h : Heap} {a : Addr} {o : HO} (x : ObjOk P w H h a o) : ∃ ob, h.get? a = some ob := by
  cases o with
  | lst xs => obtain ⟨_, _, _, _, e⟩ := x; exact ⟨_, e⟩
  | tup xs => obtain ⟨_, _, _, o, e, _⟩ := x; exact ⟨_, e⟩
  | dK kvs => obtain ⟨_, _, _, _, o, _, _, e, _⟩ := x; exact ⟨_, e⟩
  | dT kvs => obtain ⟨_, _, _, _, o, _, _, e, _⟩ := x; exact ⟨_, e⟩
  | set S n => obtain ⟨o, _, _, _, e, _⟩ := x; exact ⟨_, e⟩
  | ins C dx fs => obtain ⟨_, _, _, e, _⟩ := x; exact ⟨_, e⟩
  | own y => exact x
  | xd fs => obtain ⟨_, ⟨_, _, _, e, _⟩, _⟩ := x; exact ⟨_, e⟩
  | rng lo hi => obtain ⟨_, _, _, e⟩ := x; exact ⟨_, e⟩
  | frz ob u => obtain ⟨e, _⟩ := x; exact ⟨_, e⟩
  | tbl ps => exact ⟨_, x⟩
  | met f y => exact ⟨_, x⟩
  | ext φ => obtain ⟨_, e, _⟩ := x; exact e
theorem un_go {P : Program} {w : World} {fs : List Addr} {H H' : Hp} {h h1 B h2 : Heap} (u : Un fs [] H H' h h1) (ok : HOk P w H' h1) (nf : ∀ b ∈ fs, H' b = none)
    (hB : ∀ b o, ((h.get? b).isSome = true ∨ (H' b).isSome = true) → b ∉ fs → h1.get? b = some o → B.get? b = some o) (st : B.StaysIn h2)
    (up : ∀ b ∈ fs, ∀ o, h1.get? b = some o → ∃ sl, h2.get? b = some { o with slots := sl }) : Un fs [] H H' h h2 ∧ HOk P w H' h2 := by
  refine ⟨⟨fun b o e n hb hx => st b o (hB b o (.inl (by rw [e]; rfl)) hb (u.keep b o e n hb hx)), fun b o e n hb hx => ?_, u.free, fun b o e hx => ?_, u.tups, u.frzs, u.tbls⟩, fun a o e => (ok a o e).stay (fun b ob hb q => ?_) (fun _ z => z) fun _ _ z => z⟩
  · obtain ⟨sl, e1⟩ := u.slot b o e n hb hx
    obtain ⟨sl', e2⟩ := up b hb _ e1
    exact ⟨sl', e2⟩
  · obtain ⟨o', e1⟩ := u.there b o e hx
    by_cases hb : b ∈ fs
    · obtain ⟨sl', e2⟩ := up b hb _ e1
      exact ⟨_, e2⟩
    · exact ⟨o', st b o' (hB b o' (.inl (by rw [e]; rfl)) hb e1)⟩
  · have tr : (H' b).isSome = true := by
      rcases hb with rfl | hb
      · rw [e]; rfl
      · rw [hb]; rfl
    have hb' : b ∉ fs := fun z => by rw [nf b z] at tr; cases tr
    exact st b ob (hB b ob (.inr tr) hb' q)
structure Flies (P : Program) (w : World) (outer : List Env) (H H' : Hp) (s s' : Shared) (e C : Addr) : Prop where
  os : s'.os = s.os
  bare : AllBare s'.gens
  un : Un (frs outer) [] H H' s.heap s'.heap
  hok : HOk P w H' s'.heap
  new : s.heap.get? e = none
  nt : H' e = none
  fly : ∃ (B : Heap) (t : Addr), Heap.FlyingW B outer e (.ref C) (.ref t) s'.heap ∧ ∀ b o, ((s.heap.get? b).isSome = true ∨ (H' b).isSome = true) → b ∉ frs outer → s'.heap.get? b = some o → B.get? b = some o
abbrev CX1 (P : Program) (w : World) : CXT := fun outer H s E e s' => ∃ (a C : Addr) (H' : Hp), e = .ref a ∧ Flies P w outer H H' s s' a C ∧ E (.ref C) none H'
def tRaise (C : Addr) (E : XK) (t : TA) : TS := fun D σ H => t σ H fun vs H1 => vs.length ≤ sizeLine ∧ E (.ref C) none H1
def PassesS (CX : CXT) (X : Cx) (E : L2.St → XK) : Prop := ∀ (pins : List (Addr × Obj)) (σ : L2.St) (H : Hp) (s : Shared) (e : Value) (s' : Shared), Inv X pins σ H s → CX X.stack H s (E σ) e s' → X.xe e s'
section
variable {X : Cx} {CX : CXT} {k : Nat} {f C : Addr} {fd : FuncData} {ps : List Str} {sp : Sp} {dvs : List V} {ds : List Value} {E : L2.St → XK} {x m : Str} {p pos apos : Pos} {e o : Expr} {es : List Expr} {ta : TE} {t : TA}
theorem run_fnS {pins : List (Addr × Obj)} {σ : L2.St} {H : Hp} {s : Shared} {Q : VK} {us : List Value} {vs : List V} (F : FnOk X.prog X.w X.K X.mg X.base CX k f fd ps sp) (hr : Room k X.A) (hb : Binds X.K fd ps ds) (hd : Vals dvs ds) (hx : PassesS CX X E)
    (I : Inv X pins σ H s) (r : Vals vs us) (h : sp (vs ++ dvs) H Q (E σ)) : wpAny (model X.prog X.w) X.A (call (.ref f) us) (EP X pins σ Q) X.xe s := by
  have r2 : Vals (vs ++ dvs) (us ++ ds) := r.append hd
  have hl : (us ++ ds).length = ps.length := by rw [← r2.length]; exact F.len _ _ _ _ h
  refine wpAny_call (codeAny_mono (F.run X.A X.stack s H ⟨us, []⟩ (us ++ ds) (vs ++ dvs) Q (E σ) hr I.env0 (hb s us I.kIn hl) r2 h) fun r s' hq => ?_)
  cases r with
  | error e => exact hx pins σ H s e s' I hq
  | ok fl =>
    cases fl with
    | ret u => exact I.after hq
    | next => exact False.elim hq
    | brk => exact False.elim hq
    | cont => exact False.elim hq
def tCallS (sp : Sp) (dvs : List V) (E : L2.St → XK) (t : TA) : TE := fun σ H Q => t σ H fun vs H1 => sp (vs ++ dvs) H1 Q (E σ)
def tMethS (C : Addr) (m : Str) (sp : Sp) (dvs : List V) (E : L2.St → XK) (ta : TE) (t : TA) : TE := fun σ H Q => ta σ H fun x H1 => ∃ a dx fs, x = .ref a ∧ H1 a = some (.ins C dx fs) ∧ fs.lookup m = none ∧
  t σ H1 fun vs H2 => sp (x :: (vs ++ dvs)) H2 Q (E σ)
theorem pe_callS (F : FnOk X.prog X.w X.K X.mg X.base CX k f fd ps sp) (hr : Room k X.A) (hg : Gl X x) (hm : X.mg x = some (.ref f)) (hk : PySem.W.keepIn X.K (.ref f) = true) (hb : Binds X.K fd ps ds) (hd : Vals dvs ds) (hx : PassesS CX X E)
    (ha : PA X (e :: es) t) (hdb : (x == ("__debug__" : Str)) = false := by decide) (he : starEach (e :: es) X.env = (false, eval e X.env) :: starEach es X.env := by rfl) (hpl : (backTo pos (starEach es X.env)).any (·.1) = false := by rfl) :
    PE X (.Call (.Name x p) (e :: es) [] pos) (tCallS sp dvs E t) := by
  intro pins s σ H Q I h
  refine wpAny_Call_Name_kw (ld_glob I hg hm ?_ hdb)
  refine PySem.W.callWith_K (h₀ := X.base) I.ok.mod.kin hk (thn (ha pos pins s σ H _ I h) fun us s1 ⟨vs, H1, I1, r, q⟩ => ⟨I1.kIn, ?_⟩) he hpl
  exact run_fnS F hr hb hd hx I1 r q
end
theorem inv_re {X : Cx} {A1 A2 : Around} {c1 c2 : Bool} {pn1 pn2 : List (Addr × Obj)} {xe1 xe2 : Value → Shared → Prop} {pins1 pins2 : List (Addr × Obj)} {σ : L2.St} {H : Hp} {s : Shared}
    (I : Inv { X with A := A1, calm := c1, pn := pn1, xe := xe1 } pins1 σ H s) (ok : Cx.Ok { X with A := A2, calm := c2, pn := pn2, xe := xe2 }) (hp : ∀ p ∈ pn2 ++ pins2, p ∈ pn1 ++ pins1) :
    Inv { X with A := A2, calm := c2, pn := pn2, xe := xe2 } pins2 σ H s :=
  ⟨ok, I.os, I.bare, I.base, I.loc, I.cell, I.free, I.freeC, fun p h => I.pin p (hp p h), I.hok, I.len⟩
theorem ok_re {X : Cx} (k : X.Ok) {A2 : Around} {c2 : Bool} {pn2 : List (Addr × Obj)} {xe2 : Value → Shared → Prop} (hf : A2.frames = X.A.frames) (hd : c2 = true → A2.handled = none) : Cx.Ok { X with A := A2, calm := c2, pn := pn2, xe := xe2 } :=
  ⟨k.mod, k.kind, k.glob, k.blt, k.above, k.inj, k.has, k.cab, hd, hf.trans k.frames, k.stk, k.exf, k.bs, k.bsz, k.noex, k.exfs, k.funs, k.frf⟩
def tTry (C : Addr) (tb : (L2.St → XK) → TS) (ts : TS) : TS := fun D σ H => tb (fun σ' v _ H' => v = .ref C ∧ ts D σ' H') D σ H
end Far
set_option Elab.async false
set_option linter.all false
set_option maxRecDepth 100000
set_option maxHeartbeats 4000000
namespace Far
open PySem L2 HT PySem.Spec PySem.Calls PyProof.Rows
section
variable {M : Model} {A : Around} {E : Value → Shared → Prop} {nm q nm0 q0 : Str} {C N C0 N0 : Addr} {bs bm bs0 bm0 : List Value} {hdct hdct0 : Bool} {sn sn0 : List Str} {sub sub0 : List Value} {ab ab0 : Bool} {col col0 : Option Bool} {dd dd0 : Option Addr} {k0 k1 k2 k3 k5 j0 j1 j2 j3 j5 : Option Value} {newId newId0 : String}
theorem excMatches_own {h : Heap} {g : Array GenState} {d : Drawn} {t : Nat} {os : OsState} {e : Addr} {oe : Obj} {Q : Bool → Shared → Prop}
    (hC : h.get? C = some (excClassObj nm q C N bs bm hdct sn sub ab col dd k0 k1 k2 k3 k5 newId)) (hC0 : h.get? C0 = some (excClassObj nm0 q0 C0 N0 bs0 bm0 hdct0 sn0 sub0 ab0 col0 dd0 j0 j1 j2 j3 j5 newId0))
    (he : h.get? e = some oe) (hcls : oe.cls = .ref C) (hbase : bm0.contains (.type "BaseException") = true) (hin : (Value.ref C :: bm).contains (.ref C0) = true)
    (hq : Q true ⟨h, g, d, t, os⟩) : wpAny M A (excMatches (.ref e) (.ref C0)) Q E ⟨h, g, d, t, os⟩ := by
  have hcB : (Value.ref C0 :: bm0).contains (.type "BaseException") = true := by rw [List.contains_cons, hbase, Bool.or_true]
  have f := tc_notTuple
  unfold excMatches
  repeat (first | (with_reducible refine wpAny_loadPart_at he ?_; rw [hcls]) | with_reducible refine wpAny_loadPart_at hC0 ?_ | with_reducible refine wpAny_loadPart_at hC ?_ | (with_reducible refine wpAny_isSubtype_exc hC0 ?_; rw [hcB]) | (with_reducible refine wpAny_isSubtype_exc hC ?_; rw [hin]) | wp_step)
  exact hq
end
def subIn (K : PySem.W.Frag) (C C0 : Addr) : Bool := match K.lookup C with
  | some ⟨_, _, .cls cd, _⟩ => cd.mro.contains (.ref C0)
  | _ => false
theorem sub_of {K : PySem.W.Frag} {C C0 : Addr} (s : subIn K C C0 = true) {h : Heap} (X : K.In h) {nm q : Str} {N : Addr} {bs tl : List Value} {hdct : Bool} {sn : List Str} {sub : List Value} {ab : Bool} {col : Option Bool} {dd : Option Addr} {k0 k1 k2 k3 k5 : Option Value} {newId : String}
    (hC : h.get? C = some (excClassObj nm q C N bs tl hdct sn sub ab col dd k0 k1 k2 k3 k5 newId)) : (Value.ref C :: tl).contains (.ref C0) = true := by
  unfold subIn at s
  split at s
  · rename_i c dd' cd sl ho
    have e := X _ _ ho
    rw [hC] at e
    have e2 := Option.some.inj e
    have e3 : (excClassObj nm q C N bs tl hdct sn sub ab col dd k0 k1 k2 k3 k5 newId).data = .cls cd := by rw [e2]
    have e4 : cd.mro = Value.ref C :: tl := by
      unfold excClassObj at e3
      injection e3 with e3
      rw [← e3]
    rw [← e4]; exact s
  · cases s
section
variable {X : Cx} {pins : List (Addr × Obj)} {σ : L2.St} {H : Hp} {s : Shared}
theorem name_goes {M : Model} {A : Around} {E : Value → Shared → Prop} {i : Nat} {x : Str} {pos : Pos} {Q : Unit → Shared → Prop} (I : Inv X pins σ H s) (hN : X.N.Nodup) (hi : X.N[i]? = some x) (hk : X.env.kindOf x = some .local)
    (h : ∀ s', Inv X pins (σ.set i none) H s' → Q () s') : wpAny M A (do bindName X.env x .none; unbindBehindTheSuite X.env x pos) Q E s := by
  obtain ⟨m, hn, hl⟩ := id I.loc
  have hcls : (X.env.scope.kind == .class || (X.env.scope.kind == .module && X.env.locals != X.env.globals)) = false := by rw [I.ok.kind]; rfl
  have hiσ : i < σ.length := by rw [I.len]; exact (List.getElem?_eq_some_iff.mp hi).1
  have cne := I.cne
  refine wpAny_nameGoes_keeps hk hn hcls fun h' v hn' hs => ?_
  obtain ⟨oL, _, _, hoL, _⟩ := id hn
  refine h _ ⟨I.ok, I.os, I.bare, ⟨fun b o e n hb hx => ?_, fun b o e n hb hx => ?_, I.base.free, fun b o e hx => ?_, I.base.tups, I.base.frzs, I.base.tbls⟩, ⟨_, hn', fun j y v' e1 e2 e3 => ?_⟩, fun y c e => ?_, I.free, I.freeC, fun p hp => ?_, fun b ob e => (I.hok b ob e).stay (fun c w' hc q => (hs.2 c ?_).trans q) (fun _ q => q) fun _ _ q => q, by simpa using I.len⟩
  · exact (hs.2 b (Nat.ne_of_lt (Nat.lt_of_lt_of_le (Heap.lt_size e) I.ok.above))).trans (I.base.keep b o e n hb hx)
  · obtain ⟨sl, e1⟩ := I.base.slot b o e n hb hx
    exact ⟨sl, (hs.2 b (Nat.ne_of_lt (Nat.lt_of_lt_of_le (Heap.lt_size e) I.ok.above))).trans e1⟩
  · obtain ⟨o', e1⟩ := I.base.there b o e hx
    exact ⟨o', (hs.2 b (Nat.ne_of_lt (Nat.lt_of_lt_of_le (Heap.lt_size e) I.ok.above))).trans e1⟩
  · by_cases hj : j = i
    · subst hj
      rw [List.getElem?_set_self hiσ] at e2
      cases e2
    · rw [List.getElem?_set_ne (Ne.symm hj)] at e2
      obtain ⟨u', r', q⟩ := hl j y v' e1 e2 e3
      refine ⟨u', r', ?_⟩
      rcases q with ⟨k, e⟩ | ⟨k, c, e, z⟩
      · refine .inl ⟨k, ?_⟩
        have : y ≠ x := fun e => hj (nodup_ix hN e1 (e ▸ hi))
        simp [this, e]
      · exact .inr ⟨k, c, e, z.sameBut hs (cne y c e)⟩
  · obtain ⟨w', z⟩ := I.cell y c e
    exact ⟨w', z.sameBut hs (cne y c e)⟩
  · obtain ⟨e, n, ne, nf, d⟩ := I.pin p hp
    exact ⟨(hs.2 p.1 ne).trans e, n, ne, nf, d⟩
  · rintro rfl
    rcases hc with rfl | hc
    · rw [I.free] at e; cases e
    · rw [I.free] at hc; cases hc
end
def IsExc (C a : Addr) : Heap → Prop := fun h => ∃ ob, h.get? a = some ob ∧ ob.cls = .ref C
theorem isExc_ok {P : Program} {w : World} {H : Hp} {h : Heap} {C a : Addr} (x : IsExc C a h) : ObjOk P w H h a (.ext (IsExc C a)) :=
  ⟨x, let ⟨ob, e, _⟩ := x; ⟨ob, e⟩, fun _ _ ⟨ob, e, c⟩ k => ⟨ob, k _ e, c⟩⟩
def tTryA (K : PySem.W.Frag) (C0 : Addr) (i : Nat) (tb : (L2.St → XK) → TS) (ts : TS) : TS := fun D σ H =>
  tb (fun σ' v _ H' => ∃ C, v = .ref C ∧ XC K C ∧ subIn K C C0 = true ∧ ∀ a, H' a = none →
    ts { D with nx := fun σ2 H2 => D.nx (σ2.set i none) H2, bk := fun σ2 H2 => D.bk (σ2.set i none) H2, ct := fun σ2 H2 => D.ct (σ2.set i none) H2 } (σ'.set i (some (.ref a))) (upd H' a (.ext (IsExc C a)))) D σ H
end Far
set_option Elab.async false
set_option linter.all false
set_option maxRecDepth 100000
set_option maxHeartbeats 4000000
namespace PySem
section
variable {prog : Program} {w : World} {A : Around} {E : Value → Shared → Prop} {h : Heap} {g : Array GenState} {d : Drawn} {t : Nat} {os : OsState} {a : Addr} {o : Obj} {K : PySem.W.Frag}
  {nm q : Str} {C N : Addr} {bs bm bmB : List Value} {hdct : Bool} {sn : List Str} {sub : List Value} {ab : Bool} {col : Option Bool} {dd : Option Addr} {k0 k1 k2 k3 k5 : Option Value} {newId : String}
theorem xcls_get {R : Result → Shared → Prop} (hC : h.get? C = some (excClassObj nm q C N bs bm hdct sn sub ab col dd k0 k1 k2 k3 k5 newId)) (ho : bm.contains (.type "object") = true)
    (hx : h.get? a = some o) (hc : o.cls = .ref C) (hq : R (.ok (.ret (.ref C))) ⟨h, g, d, t, os⟩) :
    codeAny (model prog w) A (.call (.builtin "getset_descriptor.__get__") ⟨[.builtin "object.__class__", .ref a, .ref C], []⟩) R ⟨h, g, d, t, os⟩ := by
  have hT5 : (⟨h, g, d, t, os⟩ : Shared).TypeIs (.builtin "object.__class__") "getset_descriptor" := F.typeOf_object_class
  have hcO : (Value.ref C :: bm).contains (.type (".".intercalate ("object.__class__".cutAt '.').dropLast)) = true := by
    rw [F.owner_object_class, List.contains_cons, ho, Bool.or_true]
  refine codeAny_call_builtin F.slot_gs_get.plain F.entry_gs_get (F.slot_gs_get.check _ _ _ _ _ _ _ _ hT5 (F.args_gs_get _ _ _) ?_)
  repeat (any_goals (first | assumption | (with_reducible refine wpAny_loadPart_at hx ?_; rw [hc]) | (with_reducible refine wpAny_isSubtype_exc hC ?_; rw [hcO]) | wp_step))
  refine ⟨Code.quiet_builtin _ (by decide +kernel), codeAny_builtin F.entry_object_class ?_⟩
  repeat (any_goals (first | assumption | (with_reducible refine wpAny_loadPart_at hx ?_; rw [hc]) | wp_step))
theorem xcls_entry {tk : Tok} {Q : Fin → Shared → Prop} (X : K.In h) (fcl : PySem.W.findIn K (.ref C) "__class__" = some (some (.builtin "object.__class__"))) (hC : h.get? C = some (excClassObj nm q C N bs bm hdct sn sub ab col dd k0 k1 k2 k3 k5 newId)) (ho : bm.contains (.type "object") = true)
    (hx : h.get? a = some o) (hc : o.cls = .ref C) (hq : Q (.done (.ret (.ref C))) ⟨h, g, d, t, os⟩) :
    wpAny (model prog w) A (Builtin.«object.__getattribute__» ⟨[.ref a, .str "__class__" tk], []⟩) Q E ⟨h, g, d, t, os⟩ := by
  have hT5 : (⟨h, g, d, t, os⟩ : Shared).TypeIs (.builtin "object.__class__") "getset_descriptor" := F.typeOf_object_class
  have f5 := F.typeOf_object_class
  have f6 := F.slot_gs_get.lookup
  have f7 := F.slot_gs_set.lookup
  repeat (any_goals (first | assumption | (with_reducible refine wpAny_loadPart_at hx ?_; rw [hc]) | with_reducible refine (PySem.W.looks_findIn X fcl).at ?_ | wp_step))
  refine xcls_get hC ho hx hc ?_
  repeat (any_goals (first | assumption | wp_step))
theorem xcls_check {M : Model} {nameV : Value} {Q : Unit → Shared → Prop} (hC : h.get? C = some (excClassObj nm q C N bs bm hdct sn sub ab col dd k0 k1 k2 k3 k5 newId)) (hb : bm.contains (.type "BaseException") = true)
    (hx : h.get? a = some o) (hc : o.cls = .ref C) (hq : Q () ⟨h, g, d, t, os⟩) : wpAny M A (checkBuiltinCall "BaseException.__getattribute__" ⟨[.ref a, nameV], []⟩) Q E ⟨h, g, d, t, os⟩ := by
  have hk : builtinKind "BaseException.__getattribute__" = some .slot := by decide +kernel
  have hsplit : splitId "BaseException.__getattribute__" = some ("BaseException", "__getattribute__") := by decide +kernel
  have hcB : (Value.ref C :: bm).contains (.type "BaseException") = true := by rw [List.contains_cons, hb, Bool.or_true]
  have ha := F.args_bexc_ga (.ref a) nameV
  simp only [checkBuiltinCall, hk, hsplit]
  refine wpAny_bind ?_
  unfold isInstance
  repeat (first | (with_reducible refine wpAny_loadPart_at hx ?_; rw [hc]) | (with_reducible refine wpAny_isSubtype_exc hC ?_; rw [hcB]) | wp_step)
  exact hq
theorem xcls_call {tk : Tok} {R : Result → Shared → Prop} (X : K.In h) (fcl : PySem.W.findIn K (.ref C) "__class__" = some (some (.builtin "object.__class__"))) (hC : h.get? C = some (excClassObj nm q C N bs bm hdct sn sub ab col dd k0 k1 k2 k3 k5 newId)) (ho : bm.contains (.type "object") = true) (hb : bm.contains (.type "BaseException") = true)
    (hx : h.get? a = some o) (hc : o.cls = .ref C) (hq : R (.ok (.ret (.ref C))) ⟨h, g, d, t, os⟩) :
    codeAny (model prog w) A (.call (.builtin "BaseException.__getattribute__") ⟨[.ref a, .str "__class__" tk], []⟩) R ⟨h, g, d, t, os⟩ :=
  codeAny_call_builtin F.attrBase_ValueError.ga.plain F.entry_bexc_ga (xcls_check hC hb hx hc (xcls_entry X fcl hC ho hx hc hq))
theorem xcls_by {tk : Tok} {Q : Value → Shared → Prop} (X : K.In h) (fga : PySem.W.findIn K (.ref C) "__getattribute__" = some (some (.builtin "BaseException.__getattribute__"))) (fge : PySem.W.findIn K (.ref C) "__getattr__" = some none) (fcl : PySem.W.findIn K (.ref C) "__class__" = some (some (.builtin "object.__class__"))) (hC : h.get? C = some (excClassObj nm q C N bs bm hdct sn sub ab col dd k0 k1 k2 k3 k5 newId)) (ho : bm.contains (.type "object") = true) (hb : bm.contains (.type "BaseException") = true)
    (hx : h.get? a = some o) (hc : o.cls = .ref C) (hq : Q (.ref C) ⟨h, g, d, t, os⟩) : wpAny (model prog w) A (getAttrBy (.ref a) (.str "__class__" tk) false) Q E ⟨h, g, d, t, os⟩ := by
  have f3 := F.attrBase_ValueError.ga.bind (.ref a)
  have hx2 : (Value.builtin "BaseException.__getattribute__" == Value.builtin "object.__getattribute__") = false := by decide +kernel
  have hx1 : (onTheHeap (Value.ref C) && Value.builtin "BaseException.__getattribute__" == Value.builtin "object.__getattribute__") = false := by rw [hx2]; rfl
  repeat (any_goals (first | assumption | (with_reducible refine wpAny_loadPart_at hx ?_; rw [hc]) | with_reducible refine (PySem.W.looks_findIn X fga).at ?_ | with_reducible refine (PySem.W.looks_findIn X fge).at ?_ | wp_step))
  refine xcls_call X fcl hC ho hb hx hc ?_
  repeat (any_goals (first | assumption | wp_step))
theorem xcls_attr {Q : Option Value → Shared → Prop} (X : K.In h) (fga : PySem.W.findIn K (.ref C) "__getattribute__" = some (some (.builtin "BaseException.__getattribute__"))) (fge : PySem.W.findIn K (.ref C) "__getattr__" = some none) (fcl : PySem.W.findIn K (.ref C) "__class__" = some (some (.builtin "object.__class__"))) (hC : h.get? C = some (excClassObj nm q C N bs bm hdct sn sub ab col dd k0 k1 k2 k3 k5 newId)) (ho : bm.contains (.type "object") = true) (hb : bm.contains (.type "BaseException") = true)
    (hx : h.get? a = some o) (hc : o.cls = .ref C) (hq : Q (some (.ref C)) ⟨h, g, d, t + 1, os⟩) : wpAny (model prog w) A (getAttr? (.ref a) "__class__") Q E ⟨h, g, d, t, os⟩ := by
  unfold getAttr? getAttrBy?
  repeat (any_goals (first | assumption | with_reducible apply xcls_by X fga fge fcl hC ho hb hx hc | wp_step))
end
end PySem
namespace Far
open PySem L2 HT PySem.Spec PySem.Calls PyProof.Rows
structure XI (K : PySem.W.Frag) (C : Addr) : Prop where
  xc : XC K C
  fga : PySem.W.findIn K (.ref C) "__getattribute__" = some (some (.builtin "BaseException.__getattribute__"))
  fge : PySem.W.findIn K (.ref C) "__getattr__" = some none
  fcl : PySem.W.findIn K (.ref C) "__class__" = some (some (.builtin "object.__class__"))
def clsOf : V → Option Value
  | .ref C => some (.ref C)
  | .ty T => some (.type T)
  | _ => none
theorem clsOf_rel {v : V} {u c : Value} (r : RelV v u) (e : clsOf v = some c) : u = c := by
  cases v with
  | ref C => cases e; exact r
  | ty T => cases e; exact r
  | _ => cases e
theorem clsOf_all : ∀ {vs : List V} {us cs : List Value}, Vals vs us → vs.map clsOf = cs.map some → us = cs
  | _, _, [], .nil, _ => rfl
  | _, _, c :: cs, .cons r t, e => by
    rw [List.map_cons, List.map_cons] at e
    injection e with e1 e2
    rw [clsOf_rel r e1, clsOf_all t e2]
def rIsX (K : PySem.W.Frag) : List V → Hp → VK → Prop := fun vs H Q => ∃ (a C : Addr) (c : V) (cv : Value) (b : Bool), vs = [.ref a, c] ∧ H a = some (.ext (IsExc C a)) ∧ XI K C ∧ clsOf c = some cv ∧ PySem.W.kitOne K (.ref C) cv = some b ∧ Q (.bl b) H
def rIsXT (K : PySem.W.Frag) : List V → Hp → VK → Prop := fun vs H Q => ∃ (a C tp : Addr) (cs : List V) (cvs : List Value) (b : Bool), vs = [.ref a, .ref tp] ∧ H a = some (.ext (IsExc C a)) ∧ XI K C ∧ SqT K H tp cs ∧ cs.map clsOf = cvs.map some ∧ PySem.W.kitAny K (.ref C) cvs = some b ∧ Q (.bl b) H
end Far
set_option Elab.async false
set_option linter.all false
set_option maxRecDepth 100000
set_option maxHeartbeats 4000000
namespace PySem
open PyProof.Rows
section
variable {prog : Program} {w : World} {A : Around} {E : Value → Shared → Prop} {h : Heap} {g : Array GenState} {d : Drawn} {t : Nat} {os : OsState}
variable {nm q : Str} {C N : Addr} {bs bm bmB : List Value} {hdct : Bool} {sn : List Str} {sub : List Value} {ab : Bool} {col : Option Bool} {dd : Option Addr} {k0 k1 k2 k3 k5 : Option Value} {B newId initId : String}
theorem xinit_make (F : ExcBaseFacts B newId initId bmB) (T : OwnTail h bmB bm) {mN : Str → Option Value} {rest : List Value} {fI : Addr} {oI : Obj} {Q : Fin → Shared → Prop}
    (hC : h.get? C = some (excClassObj nm q C N bs bm hdct sn sub ab col dd k0 k1 k2 k3 k5 newId)) (hn : h.Ns N mN) (hi : mN "__init__" = some (.ref fI)) (hfI : h.get? fI = some oI) (hfc : oI.cls = .type "function")
    (hq : ∀ h' e, Heap.MadeExcOf h h' e (.ref C) rest → wpAny (model prog w) A (call (.ref fI) (.ref e :: rest)) (fun r s' => r = .none ∧ Q (.done (.ret (.ref e))) s') E ⟨h', g, d, t, os⟩) (hrest : rest.length ≤ sizeLine := by size_fits) :
    wpAny (model prog w) A (Builtin.«type.__call__» ⟨.ref C :: rest, []⟩) Q E ⟨h, g, d, t, os⟩ := by
  repeat (first | with_reducible refine wpAny_loadPart_at hC ?_ | with_reducible refine wpAny_madeBy_exc hC ?_ | wp_step)
  refine codeAny_call_builtin_code (Code.quiet_builtin _ F.quiet) (wpAny_check_new_subT F T hC ?_)
  refine codeAny_exc_new_subT F T hC ?_ hrest
  show wpAny _ _ _ _ _ _
  have k2' : ∀ b o, h.get? b = some o → ((h.push { cls := .type "tuple", data := .seq rest.toArray }).push { cls := .ref C, data := .fields #[.ref h.objs.size, .none, .none, .none, .bool false, .none] }).get? b = some o :=
    fun b o e => Heap.get?_push_of_some _ (Heap.get?_push_of_some _ e)
  have hget : ((h.push { cls := .type "tuple", data := .seq rest.toArray }).push { cls := .ref C, data := .fields #[.ref h.objs.size, .none, .none, .none, .bool false, .none] }).get? (h.objs.size + 1) = some
      { cls := .ref C, data := .fields #[.ref h.objs.size, .none, .none, .none, .bool false, .none] } := by heap_get
  have hcC : (Value.ref C :: bm).contains (.ref C) = true := by simp
  unfold isInstance
  repeat (first | with_reducible refine wpAny_loadPart_at hget ?_ | (with_reducible refine wpAny_isSubtype_exc (k2' _ _ hC) ?_; rw [hcC]) | wp_step)
  show wpAny _ _ (typeLookup (.ref C) _) _ _ _
  refine wpAny_typeLookup_tail (k2' _ _ hC) (hn.keeps k2') (T.keeps k2') F.mroIs F.init.lookup ?_
  rw [hi]
  refine wpAny_holding (wpAny_bind ?_)
  unfold bindSpecial
  refine wpAny_bind (wpAny_typeOf (T := "function") ⟨_, k2' _ _ hfI, hfc⟩ ?_)
  rw [if_pos (by decide)]
  refine wpAny_pure (wpAny_bind (wpAny_mono (hq _ (h.objs.size + 1) ⟨k2', Heap.get?_none_of_le (Nat.le_succ _), h.objs.size, hget, Heap.get?_none_of_le (Nat.le_refl _), ?_⟩) (fun r s' hr => ?_) fun _ _ x => x))
  · exact Heap.get?_push_of_some _ (Heap.get?_push_at rfl rfl)
  · obtain ⟨rfl, hQ⟩ := hr
    wp_walk
    exact hQ
theorem xinit_call (F : ExcBaseFacts B newId initId bmB) (T : OwnTail h bmB bm) {mN : Str → Option Value} {rest : List Value} {fI : Addr} {oI : Obj} {Q : Value → Shared → Prop}
    (hC : h.get? C = some (excClassObj nm q C N bs bm hdct sn sub ab col dd k0 k1 k2 k3 k5 newId)) (hn : h.Ns N mN) (hi : mN "__init__" = some (.ref fI)) (hfI : h.get? fI = some oI) (hfc : oI.cls = .type "function")
    (hq : ∀ h' e, Heap.MadeExcOf h h' e (.ref C) rest → wpAny (model prog w) (A.under (.builtin "type.__call__" ⟨.ref C :: rest, []⟩)) (call (.ref fI) (.ref e :: rest)) (fun r s' => r = .none ∧ Q (.ref e) s') E ⟨h', g, d, t, os⟩) (hrest : rest.length ≤ sizeLine := by size_fits) :
    wpAny (model prog w) A (call (.ref C) rest) Q E ⟨h, g, d, t, os⟩ := by
  have f1 := tc_lookup
  have f2 := tc_bind (.ref C)
  have hT : (⟨h, g, d, t, os⟩ : Shared).TypeIs (.ref C) "type" := ⟨_, hC, rfl⟩
  refine wpAny_call (codeAny_of_tree ?_)
  show wpAny _ _ (callAny (.ref C) _) _ _ _
  repeat (any_goals (first | assumption | with_reducible refine wpAny_loadPart_at hC ?_ | wp_step))
  refine ⟨rfl, ?_⟩
  refine codeAny_call_builtin_at (Code.quiet_builtin _ (by decide +kernel)) entry_typeCall (wpAny_check_type_call_sub hC (xinit_make (hrest := hrest) F T hC hn hi hfI hfc fun h' e hm => ?_))
  exact hq h' e hm
end
section
variable {M : Model} {A : Around} {E : Value → Shared → Prop} {env : Env} {nm q : Str} {C N : Addr} {bs bm : List Value} {hdct : Bool} {sn : List Str} {sub : List Value} {ab : Bool} {col : Option Bool} {dd : Option Addr} {k0 k1 k2 k3 k5 : Option Value} {newId : String}
theorem xinit_raise {s : Shared} {x : Sem Value} {Q : Flow → Shared → Prop} (hbase : bm.contains (.type "BaseException") = true) (hh : A.handled = none)
    (h : wpAny M A x (fun v s₁ => ∃ (e : Addr) (oc : Value) (od : Option Addr) (vs : Array Value) (osl : Array (Option Value)), v = .ref e ∧ s₁.heap.get? C = some (excClassObj nm q C N bs bm hdct sn sub ab col dd k0 k1 k2 k3 k5 newId) ∧ s₁.heap.get? e = some ⟨oc, od, .fields vs, osl⟩ ∧ oc = .ref C ∧ vs[1]? = some .none ∧ E (.ref e) s₁) E s) :
    wpAny M A (raiseStmt env (some x) none) Q E s := by
  have hcB : (Value.ref C :: bm).contains (.type "BaseException") = true := by rw [List.contains_cons, hbase, Bool.or_true]
  unfold raiseStmt
  refine wpAny_bind (wpAny_mono h (fun v s₁ h₁ => ?_) fun _ _ x => x)
  obtain ⟨e, oc, od, vs, osl, rfl, hC, he, rfl, h1, hE⟩ := h₁
  obtain ⟨hp, g, d, tk, os⟩ := s₁
  repeat (first | with_reducible refine wpAny_loadPart_at he ?_ | with_reducible refine wpAny_loadPart_at hC ?_ | (with_reducible refine wpAny_isSubtype_exc hC ?_; rw [hcB]) | wp_step)
  rw [h1]
  repeat (first | wp_step)
  exact wpAny_raiseNew_none hh hE
end
end PySem
set_option Elab.async false
set_option linter.all false
set_option maxRecDepth 100000
set_option maxHeartbeats 4000000
namespace PySem
open PyProof.Rows
section
variable {prog : Program} {w : World} {A : Around} {E : Value → Shared → Prop} {h : Heap} {g : Array GenState} {d : Drawn} {t : Nat} {os : OsState}
variable {nm q : Str} {C N : Addr} {bs bm bmB : List Value} {hdct : Bool} {sn : List Str} {sub : List Value} {ab : Bool} {col : Option Bool} {dd : Option Addr} {k0 k1 k2 k3 k5 : Option Value} {B newId initId : String}
theorem vinit_run (F : ExcBaseFacts B newId initId bmB) (T : OwnTail h bmB bm) {rest : List Value} {e : Addr} {oe : Obj} {vs : Array Value} {Q : Value → Shared → Prop}
    (hC : h.get? C = some (excClassObj nm q C N bs bm hdct sn sub ab col dd k0 k1 k2 k3 k5 newId)) (he : h.get? e = some oe) (hcls : oe.cls = .ref C) (hd : oe.data = .fields vs) (hv : 0 < vs.size)
    (hq : Q .none ⟨(h.push { cls := .type "tuple", data := .seq rest.toArray }).update e (Obj.mapFields (·.setIfInBounds 0 (.ref h.objs.size))), g, d, t, os⟩) (hrest : rest.length ≤ sizeLine := by size_fits) :
    wpAny (model prog w) A (call (.builtin initId) (.ref e :: rest)) Q E ⟨h, g, d, t, os⟩ := by
  refine wpAny_call (codeAny_call_builtin F.init.plain F.initEntry (wpAny_check_init_subT F T hC he hcls ?_))
  have he2 := Heap.get?_push_of_some (h := h) { cls := .type "tuple", data := .seq rest.toArray } he
  obtain ⟨x, hx⟩ : ∃ x, vs[0]? = some x := ⟨_, Array.getElem?_eq_getElem hv⟩
  repeat (first | with_reducible refine wpAny_loadPart_at he ?_ | wp_step)
  rw [hd]
  refine wpAny_pure ?_
  rw [hx]
  refine wpAny_pure ?_
  refine wpAny_bind (wpAny_setField he2 hd hv ?_)
  have fin : ∀ (y : Value), wpAny (model prog w) A.in1 (match y with | .ref _ => letGo [y] | _ => pure ()) (fun _ s' => s' = ⟨(h.push { cls := .type "tuple", data := .seq rest.toArray }).update e (Obj.mapFields (·.setIfInBounds 0 (.ref h.objs.size))), g, d, t, os⟩) E ⟨(h.push { cls := .type "tuple", data := .seq rest.toArray }).update e (Obj.mapFields (·.setIfInBounds 0 (.ref h.objs.size))), g, d, t, os⟩ := fun y => by
    split
    · unfold letGo
      wp_walk
      rfl
    · exact wpAny_pure rfl
  refine wpAny_mono (fin x) (fun _ s' z => ?_) fun _ _ z => z
  subst z
  exact wpAny_pure hq
end
end PySem
set_option Elab.async false
set_option linter.all false
set_option maxRecDepth 100000
set_option maxHeartbeats 4000000
namespace PySem.W
open PySem PyProof.Rows Builtin Builtin.ObjectAttr
def excMro : List Value → Bool
  | .ref _ :: r => excMro r
  | l => l == [.type "ValueError", .type "Exception", .type "BaseException", .type "object"]
theorem refuse_exc (self : Value) : ∀ (l : List Value), excMro l = true → refuseLoop self "__setattr__" l = pure ()
  | [], e => by unfold excMro at e; cases e
  | v :: r, e => by
    unfold excMro at e
    split at e
    · rename_i c r' q
      injection q with q1 q2
      subst q1 q2
      rw [refuseLoop_ref]
      exact refuse_exc self r e
    · rw [eq_of_beq e]
      exact PySem.F.store_ValueError.passes self
theorem exc_has : ∀ (l : List Value), excMro l = true → l.contains (.type "object") = true
  | [], e => by unfold excMro at e; cases e
  | v :: r, e => by
    unfold excMro at e
    split at e
    · rename_i c r' q
      injection q with q1 q2
      subst q1 q2
      rw [List.contains_cons, exc_has r e, Bool.or_true]
    · rw [eq_of_beq e]
      decide
def excOver (K : Frag) (C : Addr) : Bool := (clsIn K C).any fun cd => excMro cd.mro
section
variable {prog : Program} {w : World} {A : Around} {R : Result → Shared → Prop} {E : Value → Shared → Prop} {s : Shared} {K : Frag} {x C : Addr} {name : Str}
theorem xosa_open {ox : Obj} {od : Option Obj} {tk : Tok} {v : Value} (X : K.In s.heap) (I : InstAt s.heap x ox C od) (hp : excOver K C = true) (ht : takerIn K C name = some none)
    (h : ∀ b, wpAny (model prog w) A.in1 (storeInOwnDict (.ref x) (.ref C) (.str name tk) name v b)
      (fun fin s' => match fin with | .done f => R (.ok f) s' | .again c' => c'.quiet = true ∧ codeAny (model prog w) A c' R s') (fun e s' => R (.error e) s') s) :
    codeAny (model prog w) A (.call (.builtin "object.__setattr__") ⟨[.ref x, .str name tk, v], []⟩) R s := by
  have SF := PySem.F.store_object
  obtain ⟨cd, hc, ho⟩ := any_some hp
  have ne : cd.mro.isEmpty = false := by cases q : cd.mro with | nil => rw [q] at ho; cases ho | cons _ _ => rfl
  have sub : Looks (model prog w) s.heap (isInstance (.ref x) (.type "object")) true := I.type.andThen (looks_mroIn X (by unfold mroIn; rw [hc, Option.bind_some, if_neg (by rw [ne]; decide), exc_has _ ho]))
  refine codeAny_call_builtin SF.slot.plain SF.entry (@check_slot (model prog w) _ _ s "object.__setattr__" "object" "__setattr__" (.ref x) [.str name tk, v] [] _ SF.kind SF.split sub (SF.args (.ref x) (.str name tk) v) ?_)
  obtain ⟨attr, ha, hr⟩ := Option.bind_eq_some_iff.mp ht
  have hm : Looks (model prog w) s.heap (mroOf (.ref C)) cd.mro := (looks_clsIn X hc).andThen .now
  have L3 : Looks (model prog w) s.heap (storeTaker? attr) none := by
    cases attr with
    | none => exact .now
    | some a =>
      obtain ⟨b, hb, e⟩ := Option.map_eq_some_iff.mp hr
      refine (looks_takesIn X hb).andThen ?_
      cases b with
      | true => cases e
      | false => exact .now
  rw [osa_eq, refuse_eq]
  refine wpAny_bind (wpAny_bind (I.type.here (wpAny_bind (hm.here ?_))))
  rw [refuse_exc _ _ ho]
  refine wpAny_pure (wpAny_bind (I.type.here (wpAny_bind ((looks_findIn X ha).here (wpAny_bind (L3.here ?_))))))
  exact h _
theorem xset_first {vs : Array Value} {sl : Array (Option Value)} {v : Value} {Q : Unit → Shared → Prop} (X : K.In s.heap) (hx : s.heap.get? x = some ⟨.ref C, none, .fields vs, sl⟩)
    (hs : findIn K (.ref C) "__setattr__" = some (some (.builtin "object.__setattr__"))) (hp : excOver K C = true) (ht : takerIn K C name = some none) (hh : hasDictIn K C = true)
    (h : ∀ h', h'.get? x = some ⟨.ref C, some s.heap.objs.size, .fields vs, sl⟩ → h'.Ns1 s.heap.objs.size (fun y => if y = name then some v else none) → (∀ b o, b ≠ x → s.heap.get? b = some o → h'.get? b = some o) →
      Q () { s with heap := h', toks := s.toks + 2 }) : wpAny (model prog w) A (setAttr (.ref x) name v) Q E s := by
  have I : InstAt s.heap x ⟨.ref C, none, .fields vs, sl⟩ C none := ⟨hx, rfl, rfl, True.intro⟩
  refine set_plain X I hs (xosa_open (s := { s with toks := s.toks + 1 }) X I hp ht fun b => ?_)
  obtain ⟨cd, hc, hd'⟩ := any_some hh
  have hx₁ : (s.heap.push { cls := .type "dict", data := .dict #[] }).get? x = some ⟨.ref C, none, .fields vs, sl⟩ := Heap.get?_push_of_some _ hx
  have hxs : x ≠ s.heap.objs.size := Nat.ne_of_lt (Heap.lt_size hx)
  refine wpAny_bind (wpAny_pure (wpAny_bind (wpAny_bind (wpAny_loadPart hx (wpAny_bind (PySem.W.Looks.here (s := { s with toks := s.toks + 1 }) (PySem.W.looks_clsIn X hc) ?_))))))
  rw [hd']
  rw [if_neg (by decide)]
  dsimp only
  rw [if_neg (by simp [typeHasDict])]
  refine wpAny_bind (wpAny_alloc' ?_)
  refine wpAny_bind (wpAny_update' hx₁ ?_)
  refine wpAny_pure ?_
  have hgd : ((s.heap.push { cls := .type "dict", data := .dict #[] }).update x fun o => { cls := o.cls, dict := some s.heap.objs.size, data := o.data, slots := o.slots }).get? s.heap.objs.size
      = some { cls := .type "dict", data := .dict #[] } :=
    (Heap.get?_update_ne _ _ _ _ hxs.symm).trans (Heap.get?_push_at rfl rfl)
  have hnd : ((s.heap.push { cls := .type "dict", data := .dict #[] }).update x fun o => { cls := o.cls, dict := some s.heap.objs.size, data := o.data, slots := o.slots }).Ns s.heap.objs.size (fun _ => none) :=
    ⟨_, #[], _, hgd, rfl, fun e he => absurd he (by simp), fun _ => rfl⟩
  show wpAny _ _ (storeInDict s.heap.objs.size (.str name s.toks) name v) _ _ _
  unfold storeInDict newKeyGuard
  refine wpAny_bind (wpAny_pure (wpAny_bind (wpAny_nsSet1 (Heap.Ns1.of_empty hnd) fun h' hn' hs => ?_)))
  obtain ⟨oD, esD, epD, hoD, hdD, hcD⟩ := hn'.count (Within.cons name v Within.nil)
  refine wpAny_bind (wpAny_lookBehind hoD (by rw [hdD]; exact pastItsLine_dict (Nat.le_trans hcD (by rw [List.length_cons, List.length_nil, sizeLine_eq]; omega))) ?_)
  refine wpAny_pure (h h' ((hs.2 x hxs).trans (Heap.get?_update_self _ hx₁ rfl)) hn' fun b o hb e => ?_)
  exact (hs.2 b (Nat.ne_of_lt (Heap.lt_size e))).trans ((Heap.get?_update_ne _ _ _ _ hb).trans (Heap.get?_push_of_some _ e))
end
end PySem.W
set_option Elab.async false
set_option linter.all false
set_option maxRecDepth 100000
set_option maxHeartbeats 4000000
namespace PySem.W
open PySem PyProof.Rows Builtin Builtin.ObjectAttr
theorem exc_base : ∀ (l : List Value), excMro l = true → l.contains (.type "BaseException") = true
  | [], e => by unfold excMro at e; cases e
  | v :: r, e => by
    unfold excMro at e
    split at e
    · rename_i c r' q
      injection q with q1 q2
      subst q1 q2
      rw [List.contains_cons, exc_base r e, Bool.or_true]
    · rw [eq_of_beq e]
      decide
section
variable {prog : Program} {w : World} {A : Around} {R : Result → Shared → Prop} {E : Value → Shared → Prop} {s : Shared} {K : Frag} {x C : Addr} {name : Str}
theorem xget_own {ox : Obj} {od : Option Obj} {v : Value} {expr : Bool} {Q : Value → Shared → Prop} (X : K.In s.heap) (I : InstAt s.heap x ox C od)
    (hga : findIn K (.ref C) "__getattribute__" = some (some (.builtin "BaseException.__getattribute__"))) (hk : findIn K (.ref C) "__getattr__" = some none) (hp : excOver K C = true)
    (hf : findObj K C od name = some (.value v)) (hh : handedIn v = true) (h : Q v { s with toks := s.toks + 1 }) : wpAny (model prog w) A (getAttr (.ref x) name expr) Q E s := by
  obtain ⟨cd, hc, ho⟩ := any_some hp
  have hb : Looks (model prog w) s.heap (hookBefore (.ref C)) none := looks_hook X ((if_pos (show onTheHeap (.ref C) = true from rfl)).trans hk)
  refine wpAny_bind (wpAny_mkText (wpAny_holding (wpAny_bind (I.type _ _ _ _ (fun _ _ e => e) (wpAny_bind (looks_findIn X hga _ _ _ _ (fun _ _ e => e) ?_))))))
  dsimp only
  rw [show (onTheHeap (.ref C) && Value.builtin "BaseException.__getattribute__" == Value.builtin "object.__getattribute__") = false from by rw [show (Value.builtin "BaseException.__getattribute__" == Value.builtin "object.__getattribute__") = false from by decide +kernel, Bool.and_false], if_neg (by decide)]
  refine wpAny_bind (hb _ _ _ _ (fun _ _ e => e) (wpAny_bind (wpAny_attempt (wpAny_holding ?_))))
  unfold callGetattribute
  rw [show (expr && onTheHeap (Value.builtin "BaseException.__getattribute__")) = false from Bool.and_false _, if_neg (by decide)]
  unfold boundAndCalled
  rw [PySem.F.excAttr_ValueError.ga.bind]
  refine wpAny_bind (wpAny_pure ?_)
  show wpAny _ _ (call (.builtin "BaseException.__getattribute__") [.ref x, .str name s.toks]) _ _ _
  refine wpAny_call ?_
  have hbase : cd.mro.contains (.type "BaseException") = true := exc_base _ ho
  have ne : cd.mro.isEmpty = false := by cases q : cd.mro with | nil => rw [q] at ho; cases ho | cons _ _ => rfl
  have sub : Looks (model prog w) s.heap (isInstance (.ref x) (.type "BaseException")) true := I.type.andThen (looks_mroIn X (by unfold mroIn; rw [hc, Option.bind_some, if_neg (by rw [ne]; decide), hbase]))
  refine codeAny_call_builtin PySem.F.excAttr_ValueError.ga.plain PySem.F.entry_bexc_ga ?_
  refine @check_slot (model prog w) _ _ { s with toks := s.toks + 1 } "BaseException.__getattribute__" "BaseException" "__getattribute__" (.ref x) [.str name s.toks] [] _ (by decide +kernel) (by decide +kernel) sub (PySem.F.args_bexc_ga (.ref x) (.str name s.toks)) ?_
  obtain ⟨hh', g, d, t, os⟩ := s
  have L0 := I.type (M := model prog w)
  have L1 := looks_find (M := model prog w) X I hf
  refine wpAny_bind (wpAny_pure (wpAny_bind (wpAny_pure (wpAny_bind (L0.at (wpAny_bind (L1.at ?_)))))))
  refine wpAny_pure ?_
  show wpAny _ _ (handedOut v) _ _ _
  rw [handedOut_of hh]
  exact wpAny_pure h
end
end PySem.W
set_option Elab.async false
set_option linter.all false
set_option maxRecDepth 100000
set_option maxHeartbeats 4000000
namespace Far
open PySem L2 HT PySem.Spec PySem.Calls PyProof.Rows
def XNew (C a : Addr) : Heap → Prop := fun h => ∃ (vs : Array Value) (sl : Array (Option Value)), h.get? a = some ⟨.ref C, none, .fields vs, sl⟩ ∧ (∃ t0 : Addr, vs[0]? = some (.ref t0)) ∧ vs[1]? = some .none
def XOwn (C a dx : Addr) : Heap → Prop := fun h => ∃ (vs : Array Value) (sl : Array (Option Value)), h.get? a = some ⟨.ref C, some dx, .fields vs, sl⟩ ∧ (∃ t0 : Addr, vs[0]? = some (.ref t0)) ∧ vs[1]? = some .none
def XHas (C a dx : Addr) : Heap → Prop := fun h => ∃ (vs : Array Value) (sl : Array (Option Value)), h.get? a = some ⟨.ref C, some dx, .fields vs, sl⟩
section
variable {P : Program} {w : World} {H : Hp} {h : Heap} {C a dx : Addr}
theorem xnew_ok (x : XNew C a h) : ObjOk P w H h a (.ext (XNew C a)) := ⟨x, let ⟨_, _, e, _⟩ := x; ⟨_, e⟩, fun _ _ ⟨vs, sl, e, z⟩ k => ⟨vs, sl, k _ e, z⟩⟩
theorem xown_ok (x : XOwn C a dx h) : ObjOk P w H h a (.ext (XOwn C a dx)) := ⟨x, let ⟨_, _, e, _⟩ := x; ⟨_, e⟩, fun _ _ ⟨vs, sl, e, z⟩ k => ⟨vs, sl, k _ e, z⟩⟩
theorem xhas_ok (x : XHas C a dx h) : ObjOk P w H h a (.ext (XHas C a dx)) := ⟨x, let ⟨_, _, e⟩ := x; ⟨_, e⟩, fun _ _ ⟨vs, sl, e⟩ k => ⟨vs, sl, k _ e⟩⟩
end
structure XO (K : PySem.W.Frag) (C : Addr) : Prop where
  sa : PySem.W.findIn K (.ref C) "__setattr__" = some (some (.builtin "object.__setattr__"))
  po : PySem.W.excOver K C = true
  hd : PySem.W.hasDictIn K C = true
  ga : PySem.W.findIn K (.ref C) "__getattribute__" = some (some (.builtin "BaseException.__getattribute__"))
  gx : PySem.W.findIn K (.ref C) "__getattr__" = some none
section
variable {X : Cx} {pins : List (Addr × Obj)} {σ : L2.St} {H : Hp} {s : Shared} {C a dx : Addr} {f : Str}
theorem xset_ok {y : V} {u : Value} {Q : Unit → Shared → Prop} (I : Inv X pins σ H s) (e : H a = some (.ext (XNew C a))) (c : XO X.K C) (n : NoAttr X.K C f) (ry : RelV y u)
    (h : ∀ s' dx, H dx = none → dx ≠ a → Inv X pins σ (upd (upd H dx (.xd [(f, y)])) a (.ext (XOwn C a dx))) s' → Q () s') : wpAny (model X.prog X.w) X.A (setAttr (.ref a) f u) Q X.xe s := by
  obtain ⟨⟨vs, sl, hx, hv, h1⟩, _, _⟩ := I.hok a _ e
  refine PySem.W.xset_first I.kIn hx c.sa c.po n.taker c.hd fun h' e1 e2 e3 => ?_
  have hdx := I.hok.fresh (Nat.le_refl s.heap.objs.size)
  have ne : s.heap.objs.size ≠ a := fun z => by rw [z, e] at hdx; cases hdx
  refine h _ _ hdx ne ?_
  obtain ⟨od, es, ep, ho, r⟩ := id e2
  have hfr := (Heap.get?_some_iff.mp ho).2
  have p1 : (s.heap.push od).get? s.heap.objs.size = some od := Heap.get?_push_size s.heap hfr
  have I1 : Inv X pins σ (upd H s.heap.objs.size (.xd [(f, y)])) { s with heap := s.heap.push od, toks := s.toks } := I.laid (fun b v q => Heap.get?_push_of_some _ q) (Nat.le_refl _) ⟨_, ⟨od, es, ep, p1, r⟩, fun g => ?_⟩
  · refine I1.write (x := a) (e := a) (t' := s.toks + 2) (by rw [upd_ne (Ne.symm ne), e]; exact True.intro) (.inl rfl) (fun b v hb q => ?_) ⟨_, e1⟩ (xown_ok ⟨vs, sl, e1, hv, h1⟩)
    by_cases z : b = s.heap.objs.size
    · rw [z] at q ⊢
      rw [show (s.heap.push od).get? s.heap.objs.size = some v from q] at p1
      cases p1
      exact ho
    · refine e3 b v hb ?_
      obtain ⟨q1, q2⟩ := Heap.get?_some_iff.mp (show (s.heap.push od).get? b = some v from q)
      refine Heap.get?_some_iff.mpr ⟨?_, q2⟩
      change (s.heap.objs.push od)[b]? = some v at q1
      rw [Array.getElem?_push, if_neg z] at q1
      exact q1
  · show RelO ((putF f y []).lookup g) (if g = f then some u else none)
    rw [lookup_putF]
    by_cases q : g = f
    · rw [if_pos q, if_pos q]; exact ry
    · rw [if_neg q, if_neg q]; exact True.intro
end
def tFstr (c : Str) (t : TE) : TE := fun σ H Q => t σ H fun x H1 => ∃ i : Int, x = .int i ∧ i.natAbs.log2 < 1920 ∧ c.length ≤ 1000 ∧ ∀ y, Q (.str y) H1
theorem pe_fstr {X : Cx} {c : Str} {k : _} {p1 p2 pos : Pos} {e : Expr} {t : TE} (hc : c.length ≤ 1000) (he : PE X e t) : PE X (.JoinedStr [.Constant (.str c) k p1, .FormattedValue e (-1) none p2] pos) (tFstr c t) := by
  intro pins s σ H Q I h
  refine wpAny_JoinedStr ?_
  show wpAny _ _ (eval (.Constant (.str c) k p1) X.env) _ _ _
  refine Calls.Constant_str ⟨c, _, rfl, ?_, ?_⟩
  · rw [strLen_append, sizeLine_eq]
    have : Str.empty.length = 0 := by decide
    omega
  show wpAny _ _ (eval (.FormattedValue e (-1) none p2) X.env) _ _ _
  refine wpAny_FormattedValue_plain (thn (he pins _ σ H _ (I.tok _) h) fun u s2 ⟨x, H1, I1, rx, i, ex, hd, _, q⟩ => ?_)
  subst ex
  obtain ⟨tk, rfl⟩ := rx
  have hl : ((Str.empty ++ c) ++ Str.ofString (toString i)).length ≤ sizeLine := by
    have e := int_text_length_le (k := 1920) (by decide) hd
    rw [strLen_append, strLen_append, PySem.ofString_length, sizeLine_eq]
    have : Str.empty.length = 0 := by decide
    omega
  refine wpAny_formatField_int hd ⟨_, _, rfl, hl, hl, ?_⟩
  exact ⟨.str _, H1, (I1.tok _).tok _, ⟨_, rfl⟩, q _⟩
structure XK' (K : PySem.W.Frag) (C : Addr) : Prop where
  ob : ∀ h : Heap, K.In h → ∃ (tl : List Value) (N : Addr) (nm q : Str) (bs : List Value) (hdct : Bool) (sn : List Str) (sub : List Value) (ab : Bool) (col : Option Bool) (dd : Option Addr) (k0 k1 k2 k3 k5 : Option Value) (mN : Str → Option Value),
      h.get? C = some (excClassObj nm q C N bs tl hdct sn sub ab col dd k0 k1 k2 k3 k5 "ValueError.__new__") ∧ h.Ns N mN ∧ OwnTail h bmVE tl
structure XB (K : PySem.W.Frag) (B : Addr) : Prop where
  sp : PySem.W.specialIn K (.ref B) "__getattribute__" = some (some (.builtin "type.__getattribute__"))
  rd : PySem.W.readsIn K B (.type "type") = true
  fi : PySem.W.findCls K (.ref B) (.type "type") "__init__" = some (.val (.builtin "ValueError.__init__"))
def tVInit (K : PySem.W.Frag) (t : TA) : TE := fun σ H Q => t σ H fun vs H1 => ∃ (a C : Addr) (x : Str), vs = [.ref a, .str x] ∧ H1 a = some (.ext (XNew C a)) ∧ XK' K C ∧ Q .non H1
theorem pe_vinit {X : Cx} {x : Str} {B : Addr} {np apos pos : Pos} {e1 e2 : Expr} {t : TA} {pl : Sem Bool} (xb : XB X.K B) (hg : Gl X x) (hm : X.mg x = some (.ref B)) (ha : PA X [e1, e2] t)
    (hdb : (x == ("__debug__" : Str)) = false := by decide)
    (ht : eval (.Call (.Attribute (.Name x np) "__init__" apos) [e1, e2] [] pos) X.env = (do
      let ov ← eval (.Name x np) X.env
      standAt apos.atName
      let (f, first) ← holding [ov] (getMethod ov "__init__" pl)
      callWith pos f first (backTo pos (starEach [e1, e2] X.env)) (backToKw pos (keywordEach [] X.env))) := by rfl)
    (hs : starEach [e1, e2] X.env = (false, eval e1 X.env) :: starEach [e2] X.env := by rfl) (hpl : (backTo pos (starEach [e2] X.env)).any (·.1) = false := by rfl) :
    PE X (.Call (.Attribute (.Name x np) "__init__" apos) [e1, e2] [] pos) (tVInit X.K t) := by
  intro pins s σ H Q I h
  refine PySem.W.methodCall_KW (pl := pl) (ld_glob I hg hm ?_ hdb) ht
  refine PySem.W.method_cls I.kIn xb.sp (PySem.W.cls_value I.kIn xb.rd xb.fi (by decide +kernel) ?_)
  have I0 := I.tok (s.toks + 1)
  have hA := ha pos pins _ σ H _ I0 h
  rw [hs] at hA ⊢
  refine Calls.callWith_builtin (by show (false || (backTo pos (starEach [e2] X.env)).any (·.1)) = false; rw [hpl] <;> rfl) (Calls.evalArgs_plain ?_)
  refine thn hA fun us s2 ⟨vs, H2, I2, r2, a, C, y, ev, ea, xk, q⟩ => ?_
  subst ev
  obtain ⟨u1, u2, rfl, r1, r3⟩ := Vals.two r2
  obtain rfl : u1 = .ref a := r1
  obtain ⟨tk, rfl⟩ := r3
  obtain ⟨tl, N, nm, q', bs, hdct, sn, sub, ab, col, dd, k0, k1, k2, k3, k5, mN, hC, hN, T⟩ := xk.ob _ I2.kIn
  obtain ⟨⟨vs, sl, hx, hv, h1⟩, _, _⟩ := I2.hok a _ ea
  obtain ⟨hh, g, d, t', os⟩ := s2
  have hv0 : 0 < vs.size := let ⟨_, z⟩ := hv; (Array.getElem?_eq_some_iff.mp z).1
  refine vinit_run PySem.F.excBase_ValueError T hC hx rfl rfl hv0 ?_ (by rw [sizeLine_eq]; show 1 ≤ _; omega)
  have hx2 : (hh.push { cls := .type "tuple", data := .seq [Value.str y tk].toArray }).get? a = some ⟨.ref C, none, .fields vs, sl⟩ := Heap.get?_push_of_some _ hx
  have e1 : ((hh.push { cls := .type "tuple", data := .seq [Value.str y tk].toArray }).update a (Obj.mapFields (·.setIfInBounds 0 (.ref hh.objs.size)))).get? a = some ⟨.ref C, none, .fields (vs.setIfInBounds 0 (.ref hh.objs.size)), sl⟩ := Heap.get?_update_self _ hx2 rfl
  have J := I2.write (x := a) (e := a) (o := .ext (XNew C a)) (t' := t') (h' := (hh.push { cls := .type "tuple", data := .seq [Value.str y tk].toArray }).update a (Obj.mapFields (·.setIfInBounds 0 (.ref hh.objs.size))))
    (by rw [ea]; exact True.intro) (.inl rfl) (fun b u hb q => (Heap.get?_update_other _ _ (Ne.symm hb)).trans (Heap.get?_push_of_some _ q)) ⟨_, e1⟩
    (xnew_ok ⟨_, _, e1, ⟨hh.objs.size, by simp [hv0]⟩, by rw [Array.getElem?_setIfInBounds_ne (by decide)]; exact h1⟩)
  have eH : upd H2 a (.ext (XNew C a)) = H2 := by
    funext b
    unfold upd
    by_cases z : b = a
    · rw [if_pos z, z, ea]
    · rw [if_neg z]
  rw [eH] at J
  exact ⟨.non, H2, J, rfl, q⟩
def tXFld (K : PySem.W.Frag) (ta : TE) (f : Str) : TE := fun σ H Q => ta σ H fun x H1 => ∃ a C dx fs v, x = .ref a ∧ H1 a = some (.ext (XHas C a dx)) ∧ H1 dx = some (.xd fs) ∧ XO K C ∧ NoAttr K C f ∧ fs.lookup f = some v ∧ Q v H1
theorem pe_xfld {X : Cx} {e : Expr} {f : Str} {pos : Pos} {ta : TE} (he : PE X e ta) (hb : attributeBase e f X.env (eval e X.env) = eval e X.env) : PE X (.Attribute e f pos) (tXFld X.K ta f) := by
  intro pins s σ H Q I h
  refine attr_of hb (thn (he pins s σ H _ I h) fun u s1 ⟨x, H1, I1, rx, a, C, dx, fs, v, ex, ea, ed, c, n, l, q⟩ => ?_)
  subst ex
  obtain rfl : u = Value.ref a := rx
  obtain ⟨⟨vs, sl, hx⟩, _, _⟩ := I1.hok a _ ea
  obtain ⟨mA, hn, hr⟩ := I1.hok dx _ ed
  obtain ⟨w', hw, rw'⟩ := RelO.some_of (v := v) (o := mA f) (by rw [← l]; exact hr f)
  obtain ⟨od, ho, hl⟩ := lookIn_ns hn
  have J : PySem.W.InstAt s1.heap a ⟨.ref C, some dx, .fields vs, sl⟩ C (some od) := ⟨hx, rfl, rfl, ho⟩
  exact PySem.W.xget_own I1.kIn J c.ga c.gx c.po (PySem.W.findObj_own c.hd n rfl (by rw [hl, hw])) (handed_of rw') ⟨v, H1, I1.tok _, rw', q⟩
def sXSet (K : PySem.W.Frag) (ta tv : TE) (f : Str) : TS := fun D σ H => tv σ H fun y H1 => ta σ H1 fun x H2 => ∃ a C, x = .ref a ∧ H2 a = some (.ext (XNew C a)) ∧ XO K C ∧ NoAttr K C f ∧
  ∀ dx, H2 dx = none → dx ≠ a → D.nx σ (upd (upd H2 dx (.xd [(f, y)])) a (.ext (XOwn C a dx)))
theorem ps_xset {X : Cx} {o value : Expr} {f : Str} {pos pos' : Pos} {ta tv : TE} (ha : PE X o ta) (hv : PE X value tv) (hs : swapsWith value (some (.Attribute o f pos')) pos.line X.env = pure false) : PS X (.Assign [.Attribute o f pos'] value pos) (sXSet X.K ta tv f) := by
  intro pins s σ H D I h
  refine plainObj_wpAny_Assign_Attribute (thn (hv pins s σ H _ I h) fun u s1 ⟨y, H1, I1, ry, q⟩ => thn (ha pins s1 σ H1 _ I1 q) fun ov s2 ⟨x, H2, I2, rx, a, C, ex, ea, c, n, q2⟩ => ?_) hs
  subst ex
  obtain rfl : ov = Value.ref a := rx
  exact xset_ok I2 ea c n ry fun s3 dx h1 h2 I3 => ⟨σ, _, I3, q2 dx h1 h2⟩
end Far
set_option Elab.async false
set_option linter.all false
set_option maxRecDepth 100000
set_option maxHeartbeats 4000000
namespace Far
open PySem L2 HT PySem.Spec PySem.Calls PyProof.Rows
def excIn2 (K : PySem.W.Frag) (C : Addr) (ini : Option Value) : Bool := match K.lookup C with
  | some ⟨.type "type", _, .cls cd, sl⟩ => (match cd.mro, sl.toList with
    | .ref C' :: bm, [_, _, _, _, some (.builtin n), _] => C' == C && n == "ValueError.__new__" && !cd.hasDel && PySem.W.tailIn K bmVE bm && PySem.W.nsOkIn K cd.ns && PySem.W.nsIn K cd.ns "__init__" == some ini
    | _, _ => false)
  | _ => false
theorem ns_some {K : PySem.W.Frag} {h : Heap} {N : Addr} {mg : Str → Option Value} {n : Str} {r : Option Value} (X : K.In h) (G : h.Ns N mg) (e : PySem.W.nsIn K N n = some r) : mg n = r := by
  obtain ⟨o, es, ep, ho, hd, _, hf⟩ := G
  unfold PySem.W.nsIn at e
  split at e
  · rename_i q
    have e2 := X _ _ q
    rw [ho] at e2
    cases e2
    cases hd
    rw [← hf]
    unfold nsFind findBy
    rw [← Array.find?_toList]
    split at e
    · rename_i he
      rw [he]
      exact Option.some.inj e
    · rename_i he
      rw [he]
      split at e
      · cases e
      · exact Option.some.inj e
  · cases e
theorem exc2_obj {K : PySem.W.Frag} {C : Addr} {ini : Option Value} (e : excIn2 K C ini = true) {h : Heap} (X : K.In h) :
    ∃ (tl : List Value) (N : Addr) (nm q : Str) (bs : List Value) (hdct : Bool) (sn : List Str) (sub : List Value) (ab : Bool) (col : Option Bool) (dd : Option Addr) (k0 k1 k2 k3 k5 : Option Value) (mN : Str → Option Value),
      h.get? C = some (excClassObj nm q C N bs tl hdct sn sub ab col dd k0 k1 k2 k3 k5 "ValueError.__new__") ∧ h.Ns N mN ∧ mN "__init__" = ini ∧ OwnTail h bmVE tl := by
  unfold excIn2 at e
  split at e
  · rename_i dd cd sl ho
    split at e
    · rename_i C' bm k0 k1 k2 k3 n k5 hm hs
      simp only [Bool.and_eq_true, beq_iff_eq, Bool.not_eq_true'] at e
      obtain ⟨⟨⟨⟨⟨e1, e2⟩, e3⟩, e4⟩, e5⟩, e6⟩ := e
      obtain ⟨nm, bs, mro, ns, qn, hd, sn, sub, ab, col, del⟩ := cd
      obtain ⟨l⟩ := sl
      simp only at hm hs e3 e5 e6
      subst e1 e2 e3 hm hs
      refine ⟨bm, ns, nm, qn, bs, hd, sn, sub, ab, col, dd, k0, k1, k2, k3, k5, _, X _ _ ho, .of_isNs (PySem.W.isNs_of_in X e5), ?_, PySem.W.tail_of_in X e4⟩
      exact ns_some X (.of_isNs (PySem.W.isNs_of_in X e5)) e6
    · cases e
  · cases e
def rem (H : Hp) (a : Addr) : Hp := fun b => if b = a then none else H b
theorem rem_ne {H : Hp} {a b : Addr} (h : b ≠ a) : rem H a b = H b := by unfold rem; rw [if_neg h]
theorem rem_same {H : Hp} {a : Addr} : rem H a a = none := by unfold rem; rw [if_pos rfl]
theorem un_rem {fs : List Addr} {H H' : Hp} {h h2 : Heap} {a : Addr} {φ : Heap → Prop} (u : Un fs [] H H' h h2) (ea : H' a = some (.ext φ)) : Un fs [] H (rem H' a) h h2 := by
  refine ⟨u.keep, u.slot, fun b o e n hx => ?_, u.there, fun b xs e => ?_, fun b o xs e => ?_, fun b ps e => ?_⟩
  · by_cases z : b = a
    · rw [z]; exact rem_same
    · rw [rem_ne z]; exact u.free b o e n hx
  · have q := u.tups b xs e
    rw [rem_ne fun z => by rw [z, ea] at q; cases q]; exact q
  · have q := u.frzs b o xs e
    rw [rem_ne fun z => by rw [z, ea] at q; cases q]; exact q
  · obtain ⟨m, q⟩ := u.tbls b ps e
    exact ⟨m, by rw [rem_ne fun z => by rw [z, ea] at q; cases q]; exact q⟩
theorem hok_rem {P : Program} {w : World} {H : Hp} {h : Heap} {a : Addr} {φ : Heap → Prop} (ok : HOk P w H h) (e : H a = some (.ext φ)) : HOk P w (rem H a) h := fun b o q => by
  have hb : b ≠ a := fun z => by rw [z, rem_same] at q; cases q
  rw [rem_ne hb] at q
  exact (ok b o q).stay (fun _ _ _ z => z) (fun c z => by rw [rem_ne fun y => by rw [y, e] at z; cases z]; exact z) fun c xs z => by rw [rem_ne fun y => by rw [y, e] at z; cases z]; exact z
structure XM (K : PySem.W.Frag) (C fI : Addr) : Prop where
  q : excIn2 K C (some (.ref fI)) = true
  fn : PySem.W.isFn K (.ref fI) = true
  kp : PySem.W.keepIn K (.ref C) = true
theorem fn_obj {K : PySem.W.Frag} {f : Addr} (e : PySem.W.isFn K (.ref f) = true) {h : Heap} (X : K.In h) : ∃ o, h.get? f = some o ∧ o.cls = .type "function" := by
  have e1 : PySem.W.typeIn K (.ref f) = some (.type "function") := beq_iff_eq.mp e
  obtain ⟨o, e2, e3⟩ := Option.map_eq_some_iff.mp (show (K.lookup f).map (·.cls) = _ from e1)
  exact ⟨o, X _ _ e2, e3⟩
section
variable {X : Cx} {k : Nat} {f C : Addr} {fd : FuncData} {ps : List Str} {sp : Sp}
theorem run_xmake {pins : List (Addr × Obj)} {σ : L2.St} {H : Hp} {s : Shared} {us : List Value} {vs : List V} {R : Value → Shared → Prop} (M : XM X.K C f) (F : FnOk X.prog X.w X.K X.mg X.base CX0 k f fd ps sp) (hr : Room (k + 1) X.A) (hb : Binds X.K fd ps [])
    (I : Inv X pins σ H s) (r : Vals vs us) (hz : us.length ≤ 1000)
    (h : ∀ a, H a = none → sp (.ref a :: vs) (upd H a (.ext (XNew C a))) (fun y H2 => y = .non ∧ ∃ dx, dx ≠ a ∧ H2 a = some (.ext (XOwn C a dx)) ∧ (∃ o, H2 dx = some o) ∧
      ∀ s', s.heap.get? a = none → Inv X pins σ H2 s' → R (.ref a) s') (fun _ _ _ => False)) :
    wpAny (model X.prog X.w) X.A (call (.ref C) us) R X.xe s := by
  obtain ⟨tl, N, nm, q, bs, hdct, sn, sub, ab, col, dd, k0, k1, k2, k3, k5, mN, hC, hN, hi, T⟩ := exc2_obj M.q I.kIn
  obtain ⟨oI, hfI, hfc⟩ := fn_obj M.fn I.kIn
  obtain ⟨hh, g, d, t, os⟩ := s
  refine xinit_call PySem.F.excBase_ValueError T hC hN hi hfI hfc (fun h' e hm => ?_) (by rw [sizeLine_eq]; omega)
  obtain ⟨ta, he, hta, htt⟩ := hm.there
  have nt : H e = none := by
    cases z : H e with
    | none => rfl
    | some o =>
      obtain ⟨o', ho'⟩ := there_of (I.hok e o z)
      have := hm.new
      rw [show hh.get? e = some o' from ho'] at this; cases this
  have ne : ∀ {b : Addr} {o : HO}, H b = some o → b ≠ e := fun {b o} q z => by rw [z, nt] at q; cases q
  have xn : XNew C e h' := ⟨_, _, he, ⟨ta, rfl⟩, rfl⟩
  have I3 : Inv X pins σ (upd H e (.ext (XNew C e))) ⟨h', g, d, t, os⟩ := by
    refine Inv.un (h' := h') (t' := t) I ⟨fun b o q _ _ _ => hm.keeps b o q, fun b o q _ _ _ => ⟨o.slots, hm.keeps b o q⟩, fun b o q n _ => ?_, fun b o q _ => ⟨o, hm.keeps b o q⟩, fun b xs q => ?_, fun b o u q => ?_, fun b ps' q => ⟨#[], ?_⟩⟩ fun b o q => ?_
    · rw [upd_ne fun z => by have := hm.new; rw [z] at q; rw [show hh.get? e = some o from q] at this; cases this]; exact n
    · rw [upd_ne (ne q)]; exact q
    · rw [upd_ne (ne q)]; exact q
    · rw [upd_ne (ne q)]; simpa using q
    · by_cases z : b = e
      · rw [z, upd_same] at q
        cases q
        rw [z]; exact xnew_ok xn
      · rw [upd_ne z] at q
        exact (I.hok b o q).stay (fun c u _ y => hm.keeps c u y) (fun c y => by rw [upd_ne (ne y)]; exact y) fun c xs y => by rw [upd_ne (ne y)]; exact y
  have hq := h e nt
  have r2 : Vals (V.ref e :: vs) (Value.ref e :: us) := .cons rfl r
  have hl : (Value.ref e :: us ++ []).length = ps.length := by
    have e2 := r2.length
    rw [F.len _ _ _ _ hq] at e2
    rw [List.append_nil]
    exact e2.symm
  have hbs := hb ⟨h', g, d, t, os⟩ (Value.ref e :: us) I3.kIn hl
  rw [List.append_nil] at hbs
  refine wpAny_call (codeAny_mono (F.run _ X.stack _ _ ⟨Value.ref e :: us, []⟩ (Value.ref e :: us) _ _ _ (hr.make C us []) (I3.env0.make C us []) hbs r2 hq) fun r s' hq' => ?_)
  cases r with
  | error e' => exact False.elim hq'
  | ok fl =>
    cases fl with
    | ret u =>
      obtain ⟨v, H', I4, rv, ev, dx, hne, hx, ho, q3⟩ := I3.after hq'
      subst ev
      exact ⟨rv, q3 s' hm.new I4⟩
    | next => exact False.elim hq'
    | brk => exact False.elim hq'
    | cont => exact False.elim hq'
end
end Far
set_option Elab.async false
set_option linter.all false
set_option maxRecDepth 100000
set_option maxHeartbeats 4000000
namespace Far
open PySem L2 HT PySem.Spec PySem.Calls PyProof.Rows
abbrev CX2 (P : Program) (w : World) : CXT := fun outer H s E e s' => ∃ (a C : Addr) (H' : Hp), e = .ref a ∧ Flies P w outer H H' s s' a C ∧
  (E (.ref C) none H' ∨ ∃ dx, (∃ oe, s'.heap.get? a = some oe ∧ oe.dict = some dx) ∧ H' a = none ∧ E (.ref C) (some dx) H')
theorem pass2 {X : Cx} : Passes (CX2 X.prog X.w) X E0 := fun _ _ _ _ _ _ _ ⟨_, _, _, _, _, z⟩ => z.elim (fun y => y.elim) fun ⟨_, _, _, y⟩ => y.elim
theorem _root_.L2.Fun.ok2 {P : Program} {w : World} {K : PySem.W.Frag} {mg : Str → Option Value} {base : Heap} {x qual : Str} {st : Stmt} {f : Addr} {fd : FuncData} {N ps : List Str} {k : Nat} {sp : Sp} (F : Fun K x qual st f fd) (S : FnScope N ps (defScope st)) (len : ∀ vs H Q E, sp vs H Q E → vs.length = ps.length)
    (hbody : ∀ (cdv : Value) (A : Around) (outer : List Env) (s : Shared) (H : Hp) (vs : List V) (Q : VK) (E : XK), Room k (A.deeper (envOfC qual (defScope st) s.heap.objs.size f cdv)) → sp vs H Q E →
      ∃ t, PSs (cxOf (CX2 P w) P w K mg base N qual (defScope st) f cdv A outer s H E) (defBody st) t ∧ t { nx := fun _ H' => Q .non H', rt := Q } (start N vs) H) : FnOk P w K mg base (CX2 P w) (k + 1) f fd ps sp := by
  obtain ⟨oc, od, kV, doc, pm, an, cdv, ct, osl, rfl, lk, hcd⟩ := F.ex
  exact fn_of lk hcd S len fun A outer s H vs Q E hr hsp => hbody cdv A outer s H vs Q E hr hsp
def tRaiseI (C : Addr) (sp : Sp) (E : XK) (t : TA) : TS := fun D σ H => t σ H fun vs H1 => vs.length ≤ 1000 ∧ ∀ a, H1 a = none → sp (.ref a :: vs) (upd H1 a (.ext (XNew C a)))
  (fun y H2 => y = .non ∧ ∃ dx, dx ≠ a ∧ H2 a = some (.ext (XOwn C a dx)) ∧ (∃ o, H2 dx = some o) ∧ E (.ref C) (some dx) (rem H2 a)) (fun _ _ _ => False)
theorem ps_raiseI {P : Program} {w : World} {K : PySem.W.Frag} {mg : Str → Option Value} {base : Heap} {N : List Str} {qual : Str} {scope : Scope} {f : Addr} {cd : Value} {A : Around} {outer : List Env} {s : Shared} {H : Hp} {E : XK}
    {x : Str} {C fI : Addr} {fd : FuncData} {k : Nat} {ps : List Str} {sp : Sp} {np cpos pos : Pos} {e : Expr} {es : List Expr} {t : TA} (M : XM K C fI) (F : FnOk P w K mg base CX0 k fI fd ps sp)
    (sple : ∀ vs H (Q Q' : VK) E, (∀ v H', Q v H' → Q' v H') → sp vs H Q E → sp vs H Q' E)
    (hr : Room (k + 1) (cxOf (CX2 P w) P w K mg base N qual scope f cd A outer s H E).A) (hb : Binds K fd ps [])
    (hg : Gl (cxOf (CX2 P w) P w K mg base N qual scope f cd A outer s H E) x) (hm : mg x = some (.ref C))
    (ha : PA (cxOf (CX2 P w) P w K mg base N qual scope f cd A outer s H E) (e :: es) t) (hdb : (x == ("__debug__" : Str)) = false := by decide)
    (he : starEach (e :: es) (envOfC qual scope s.heap.objs.size f cd) = (false, eval e (envOfC qual scope s.heap.objs.size f cd)) :: starEach es (envOfC qual scope s.heap.objs.size f cd) := by rfl)
    (hpl : (backTo cpos (starEach es (envOfC qual scope s.heap.objs.size f cd))).any (·.1) = false := by rfl) :
    PS (cxOf (CX2 P w) P w K mg base N qual scope f cd A outer s H E) (.Raise (some (.Call (.Name x np) (e :: es) [] cpos)) none pos) (tRaiseI C sp E t) := by
  intro pins s1 σ H1 D I h
  obtain ⟨tl, N', nm, q, bs, hdct, sn, sub, ab, col, dd, k0, k1, k2, k3, k5, mN, hC, hN, hi, T⟩ := exc2_obj M.q I.ok.mod.kin
  rw [arm_exec_Raise]
  refine wpAny_bind (wpAny_standAt ?_)
  refine xinit_raise (C := C) (nm := nm) (q := q) (N := N') (bs := bs) (bm := tl) (hdct := hdct) (sn := sn) (sub := sub) (ab := ab) (col := col) (dd := dd) (k0 := k0) (k1 := k1) (k2 := k2) (k3 := k3) (k5 := k5) (newId := "ValueError.__new__")
    (T.hasType PySem.F.excBase_ValueError.hasBase) (I.ok.hd rfl) ?_
  refine wpAny_bind (wpAny_mono (Q := fun v s₁ => ∃ (e : Addr) (oc : Value) (od : Option Addr) (vs : Array Value) (osl : Array (Option Value)), v = .ref e ∧ s₁.heap.get? C = some (excClassObj nm q C N' bs tl hdct sn sub ab col dd k0 k1 k2 k3 k5 "ValueError.__new__") ∧ s₁.heap.get? e = some ⟨oc, od, .fields vs, osl⟩ ∧ oc = .ref C ∧ vs[1]? = some .none ∧ (cxOf (CX2 P w) P w K mg base N qual scope f cd A outer s H E).xe (.ref e) s₁) ?_ (fun v s3 h3 => wpAny_bind (wpAny_standAt (wpAny_pure h3))) fun _ _ z => z)
  refine wpAny_Call_Name_kw (ld_glob I hg hm ?_ hdb)
  refine PySem.W.callWith_K (h₀ := base) I.ok.mod.kin M.kp (thn (ha cpos pins _ σ H1 _ I h) fun us s2 ⟨vs, H2, I2, r, hz, q1⟩ => ⟨I2.kIn, ?_⟩) he hpl
  refine run_xmake (X := cxOf (CX2 P w) P w K mg base N qual scope f cd A outer s H E) M F hr hb I2 r (by show us.length ≤ 1000; rw [← r.length]; exact hz) fun a na => ?_
  refine sple _ _ _ _ _ (fun y H3 ⟨hy, dx, hne, h3, ho, q3⟩ => ⟨hy, dx, hne, h3, ho, fun s3 nw I3 => ?_⟩) (q1 a na)
  obtain ⟨⟨vs3, sl3, hx, ⟨t0, h0⟩, h1⟩, _, _⟩ := I3.hok a _ h3
  refine ⟨a, _, _, vs3, sl3, rfl, I3.bk _ _ hC, hx, rfl, h1, ?_⟩
  have hin : ∀ env ∈ envOfC qual scope s.heap.objs.size f cd :: outer, ∀ b, env.frame = some b → b ∈ a :: frs (envOfC qual scope s.heap.objs.size f cd :: outer) := fun env he b hb => List.mem_cons_of_mem _ (List.mem_filterMap.mpr ⟨env, he, hb⟩)
  have hfe : frs (envOfC qual scope s.heap.objs.size f cd :: outer) = s.heap.objs.size :: frs outer := rfl
  have ab : (PySem.W.hideAll s3.heap (a :: frs (envOfC qual scope s.heap.objs.size f cd :: outer))).get? a = none := PySem.W.hideAll_none _ (.head _)
  show wpAny (model P w) (A.deeper (envOfC qual scope s.heap.objs.size f cd)) (leaving (envOfC qual scope s.heap.objs.size f cd) (.ref a)) (fun _ s'' => CX2 P w outer H s E (.ref a) s'') (fun e' s'' => CX2 P w outer H s E e' s'') s3
  have L := wpAny_leaving_firstW (M := model P w) (A := A.deeper (envOfC qual scope s.heap.objs.size f cd)) (E := fun e' s'' => CX2 P w outer H s E e' s'') (Q := fun _ s' => Heap.LeftW (PySem.W.hideAll s3.heap (a :: frs (envOfC qual scope s.heap.objs.size f cd :: outer))) (envOfC qual scope s.heap.objs.size f cd :: outer) a (.ref C) (.ref t0) s3.heap s'.heap ∧ s'.os = s3.os ∧ s'.gens = s3.gens)
    I3.ok.frames (PySem.W.funFrames_hide I3.stack hin) rfl hx (fun b o q => PySem.W.of_hideAll _ q) ab rfl h1 h0 fun h' hL => ⟨hL, rfl, rfl⟩
  refine wpAny_mono (wpAny_kd (KD.leaving _ _) L) (fun _ s' ⟨⟨hL, hos, hgs⟩, dk⟩ => ?_) fun e' s' z => z.1
  obtain ⟨x1, ⟨_, _, x2⟩, x3, x4⟩ := hL
  have nwS : s.heap.get? a = none := by
    cases z : s.heap.get? a with
    | none => rfl
    | some o =>
      obtain ⟨o', ho'⟩ := I2.base.there a o z (by show a ∉ ([] : List Addr); simp)
      rw [nw] at ho'; cases ho'
  have fr0 : ∀ b ∈ frs outer, rem H3 a b = none := fun b hb => by
    obtain ⟨_, o, ho, _⟩ := I3.ok.funs.mem hb
    by_cases z : b = a
    · rw [z]; exact rem_same
    · rw [rem_ne z]; exact I3.base.free b o ho (I3.ok.frf b hb) (by show b ∉ ([] : List Addr); simp)
  have hB : ∀ b o, ((s.heap.get? b).isSome = true ∨ (rem H3 a b).isSome = true) → b ∉ frs outer → s3.heap.get? b = some o → (PySem.W.hideAll s3.heap (a :: frs (envOfC qual scope s.heap.objs.size f cd :: outer))).get? b = some o := fun b o hb hn e => by
    refine PySem.W.hideAll_get _ e ?_
    rw [hfe]
    intro z
    rcases List.mem_cons.mp z with z | z
    · rw [z] at hb
      rcases hb with hb | hb
      · rw [nwS] at hb; cases hb
      · rw [rem_same] at hb; cases hb
    rcases List.mem_cons.mp z with z | z
    · rcases hb with hb | hb
      · obtain ⟨o', ho'⟩ := Option.isSome_iff_exists.mp hb
        exact absurd (Heap.lt_size ho') (by rw [z]; exact Nat.lt_irrefl _)
      · have fL : H3 s.heap.objs.size = none := I3.free
        have : rem H3 a b = none := by
          by_cases y : b = a
          · rw [y]; exact rem_same
          · rw [rem_ne y, z]; exact fL
        rw [this] at hb; cases hb
    · exact hn z
  have up : ∀ b ∈ frs outer, ∀ o, s3.heap.get? b = some o → ∃ sl, s'.heap.get? b = some { o with slots := sl } := fun b hb o e => by
    obtain ⟨_, o', ho', nf⟩ := I3.funs.mem hb
    rw [ho'] at e; cases e
    exact x4 b _ ho' nf
  obtain ⟨u1, k1'⟩ := un_go (h2 := s'.heap) (un_rem (show Un (frs outer) [] H H3 s.heap s3.heap from I3.base) h3) (hok_rem I3.hok h3) fr0 hB x1 up
  obtain ⟨oe, vse, T', oT, ts, heo, hT'⟩ := id x3
  refine ⟨a, C, rem H3 a, rfl, ⟨hos.trans I3.os, by rw [hgs]; exact I3.bare, u1, k1', nwS, rem_same, _, t0, ⟨x1, ab, x2, x3⟩, fun b o hb hn e => ?_⟩, .inr ⟨dx, ⟨oe, heo, dk.dict hx heo⟩, rem_same, q3⟩⟩
  by_cases hz : ∃ o', s3.heap.get? b = some o'
  · obtain ⟨o', ho'⟩ := hz
    have q1 := hB b o' hb hn ho'
    have q2 := x1 b o' q1
    rw [q2] at e; cases e
    exact q1
  · refine absurd ?_ hz
    rcases hb with hb | hb
    · obtain ⟨o', ho'⟩ := Option.isSome_iff_exists.mp hb
      exact I3.base.there b o' ho' (by show b ∉ ([] : List Addr); simp)
    · obtain ⟨o', ho'⟩ := Option.isSome_iff_exists.mp hb
      by_cases y : b = a
      · rw [y]; exact ⟨_, hx⟩
      · rw [rem_ne y] at ho'
        exact there_of (I3.hok b o' ho')
end Far
set_option Elab.async false
set_option linter.all false
set_option maxRecDepth 100000
set_option maxHeartbeats 4000000
namespace Far
open PySem L2 HT PySem.Spec PySem.Calls PyProof.Rows
def XCau (C a : Addr) : Option Addr → Heap → Prop
  | none => IsExc C a
  | some dx => XHas C a dx
theorem xcau_ok {P : Program} {w : World} {H : Hp} {h : Heap} {C a : Addr} {d : Option Addr} (x : XCau C a d h) : ObjOk P w H h a (.ext (XCau C a d)) := by
  cases d with
  | none => exact isExc_ok x
  | some dx => exact xhas_ok x
theorem un_ext2 {P : Program} {w : World} {fs : List Addr} {H H' : Hp} {h h2 : Heap} {a : Addr} {φ : Heap → Prop} (u : Un fs [] H H' h h2) (ok0 : HOk P w H h) (ok : HOk P w H' h2) (new : h.get? a = none) (nt : H' a = none) (x : ObjOk P w (upd H' a (.ext φ)) h2 a (.ext φ)) :
    Un fs [] H (upd H' a (.ext φ)) h h2 ∧ HOk P w (upd H' a (.ext φ)) h2 := by
  have ne : ∀ {b : Addr} {o : HO}, H b = some o → b ≠ a := fun {b o} e z => by
    obtain ⟨ob, q⟩ := there_of (ok0 b o e)
    rw [z, new] at q; cases q
  refine ⟨⟨u.keep, u.slot, fun b o e n hx => ?_, u.there, fun b xs e => ?_, fun b o xs e => ?_, fun b ps e => ?_⟩, fun b o e => ?_⟩
  · rw [upd_ne fun z => by rw [z, new] at e; cases e]; exact u.free b o e n hx
  · rw [upd_ne (ne e)]; exact u.tups b xs e
  · rw [upd_ne (ne e)]; exact u.frzs b o xs e
  · obtain ⟨m, q⟩ := u.tbls b ps e
    exact ⟨m, by rw [upd_ne (ne e)]; exact q⟩
  · by_cases z : b = a
    · rw [z, upd_same] at e
      cases e
      rw [z]; exact x
    · rw [upd_ne z] at e
      exact (ok b o e).stay (fun _ _ _ q => q) (fun c q => by rw [upd_ne fun y => by rw [y, nt] at q; cases q]; exact q) fun c xs q => by rw [upd_ne fun y => by rw [y, nt] at q; cases q]; exact q
abbrev EndsA (D : Ends) (i : Nat) : Ends := { D with nx := fun σ2 H2 => D.nx (σ2.set i none) H2, bk := fun σ2 H2 => D.bk (σ2.set i none) H2, ct := fun σ2 H2 => D.ct (σ2.set i none) H2 }
def tTryD (K : PySem.W.Frag) (C0 : Addr) (i : Nat) (tb : (L2.St → XK) → TS) (ts : TS) : TS := fun D σ H =>
  tb (fun σ' v d H' => ∃ C, v = .ref C ∧ XK' K C ∧ subIn K C C0 = true ∧ ∀ a, H' a = none → ts (EndsA D i) (σ'.set i (some (.ref a))) (upd H' a (.ext (XCau C a d)))) D σ H
theorem ps_tryD {X : Cx} {body : List Stmt} {b₀ : Stmt} {suite : List Stmt} {x n : Str} {C0 : Addr} {i : Nat} {np hpos pos : Pos} {tb : (L2.St → XK) → TS} {ts : TS} (hst : X.stack = X.env :: X.outer) (hf : X.env.frame = some X.env.locals)
    (xc : XC X.K C0) (hg : Gl X x) (hm : X.mg x = some (.ref C0)) (hN : X.N.Nodup) (hi : X.N[i]? = some n) (hk : X.env.scope.names.lookup n = some .local)
    (hb : ∀ (pn : List (Addr × Obj)) (xe : Value → Shared → Prop) (E : L2.St → XK), PassesS (CX2 X.prog X.w) { X with pn := pn, xe := xe } E → PSs { X with pn := pn, xe := xe } body (tb E))
    (hs : ∀ (A' : Around) (xe : Value → Shared → Prop), PSs { X with A := A', calm := false, xe := xe } (b₀ :: suite) ts) (hdb : (x == ("__debug__" : Str)) = false := by decide) :
    PS X (.Try body [.ExceptHandler (some (.Name x np)) (some n) (b₀ :: suite) hpos] [] [] pos) (tTryD X.K C0 i tb ts) := by
  intro pins s σ H D I h
  refine wpAny_Try_except ?_
  have okI := I.ok
  obtain ⟨xe', hxe⟩ : ∃ xe' : Value → Shared → Prop, xe' = fun e s₁ => wpAny (model X.prog X.w) X.A (noteFrame e X.env) (fun _ s₂ => wpAny (model X.prog X.w) X.A (setFlight e none) (fun _ s₃ =>
      wpAny (model X.prog X.w) X.A (handleBy e X.env [.ExceptHandler (some (.Name x np)) (some n) (b₀ :: suite) hpos]) (SP X pins D) X.xe s₃) X.xe s₂) X.xe s₁ := ⟨_, rfl⟩
  have J : Inv { X with pn := X.pn ++ pins, xe := xe' } [] σ H s :=
    inv_re (X := X) I (ok_re okI rfl okI.hd) fun p hp => by simpa using hp
  have back : ∀ {pins1 : List (Addr × Obj)} {σ' : L2.St} {H' : Hp} {s' : Shared} {xe : Value → Shared → Prop}, Inv { X with pn := X.pn ++ pins, xe := xe } pins1 σ' H' s' → Inv X pins σ' H' s' := fun {_ _ _ _ _} J' =>
    inv_re (X := X) J' okI fun p hp => List.mem_append_left _ hp
  refine wpAny_mono (hb (X.pn ++ pins) xe' (fun σ' v d H' => ∃ C, v = .ref C ∧ XK' X.K C ∧ subIn X.K C C0 = true ∧ ∀ a, H' a = none →
    ts (EndsA D i) (σ'.set i (some (.ref a))) (upd H' a (.ext (XCau C a d)))) ?_ [] s σ H D J h) (fun fl s1 h1 => ?_) fun e s1 z => by rw [hxe] at z; exact z
  · intro pins1 σ1 H1 s1 ev s' I1 ⟨a, C', H', he, F, wish⟩
    subst he
    show xe' (.ref a) s'
    rw [hxe]
    obtain ⟨d, hd, C, hv, xcC, hsub, q⟩ : ∃ d : Option Addr, (∀ dx, d = some dx → ∃ oe, s'.heap.get? a = some oe ∧ oe.dict = some dx) ∧ ∃ C, Value.ref C' = .ref C ∧ XK' X.K C ∧ subIn X.K C C0 = true ∧ ∀ a, H' a = none →
        ts (EndsA D i) (σ1.set i (some (.ref a))) (upd H' a (.ext (XCau C a d))) := by
      rcases wish with z | ⟨dx, ho, _, z⟩
      · exact ⟨none, fun _ y => (by cases y), z⟩
      · exact ⟨some dx, fun dx' y => (by cases y; exact ho), z⟩
    obtain rfl : C' = C := by cases hv; rfl
    obtain ⟨os, bare, un, hok, new, nt, B, t, hfl, hB⟩ := F
    change Un (frs X.stack) [] H1 H' s1.heap s'.heap at un
    change Heap.FlyingW B X.stack a (.ref C') (.ref t) s'.heap at hfl
    change ∀ b o, _ → b ∉ frs X.stack → _ → _ at hB
    have nf : ∀ b ∈ frs X.stack, H' b = none := fun b hb => by
      obtain ⟨_, o, ho, _⟩ := I1.stack.mem hb
      exact un.free b o ho (I1.stkFree b hb) (by simp)
    have hup : ∀ {h2 : Heap}, s'.heap.UpToSlots h2 → ∀ b ∈ frs X.stack, ∀ o, s'.heap.get? b = some o → ∃ sl, h2.get? b = some { o with slots := sl } := fun {h2} up b hb o e => by
      obtain ⟨_, o', ho', nfl⟩ := hfl.2.2.1.mem hb
      rw [ho'] at e; cases e
      exact up b _ ho' nfl
    have inv : ∀ {h2 : Heap} (A2 : Around) (c2 : Bool) (xe2 : Value → Shared → Prop) (_ : A2.frames = X.A.frames) (_ : c2 = true → A2.handled = none), B.StaysIn h2 → s'.heap.UpToSlots h2 → Inv { X with A := A2, calm := c2, xe := xe2 } pins σ1 H' { s' with heap := h2 } := fun {h2} A2 c2 xe2 hA hc st up => by
      obtain ⟨u2, k2⟩ := un_go (h2 := h2) un hok nf hB st (hup up)
      have I2 := I1.call' (s' := { s' with heap := h2 }) (ch := []) os u2 k2 bare (fun b z => absurd z (by simp))
      exact inv_re (X := X) (back I2) (ok_re okI hA hc) fun p hp => hp
    have invE : ∀ {h2 : Heap} (A2 : Around) (c2 : Bool) (xe2 : Value → Shared → Prop) (_ : A2.frames = X.A.frames) (_ : c2 = true → A2.handled = none), B.StaysIn h2 → s'.heap.UpToSlots h2 → XCau C' a d h2 → Inv { X with A := A2, calm := c2, xe := xe2 } pins σ1 (upd H' a (.ext (XCau C' a d))) { s' with heap := h2 } := fun {h2} A2 c2 xe2 hA hc st up ix => by
      obtain ⟨u2, k2⟩ := un_go (h2 := h2) un hok nf hB st (hup up)
      obtain ⟨u3, k3⟩ := un_ext2 u2 I1.hok k2 new nt (xcau_ok ix)
      have I2 := I1.call' (s' := { s' with heap := h2 }) (ch := []) os u3 k3 bare (fun b z => absurd z (by simp))
      exact inv_re (X := X) (back I2) (ok_re okI hA hc) fun p hp => hp
    have hfl' := hfl
    rw [hst] at hfl'
    refine wpAny_mono (wpAny_kd (KD.noteFrame _ _) (wpAny_looks_onW (L := X.env.locals) (Q := fun _ s4 => ∃ h4, s4 = { s' with heap := h4 } ∧ Heap.HeldW B (X.env :: X.outer) a (.ref C') (.ref t) X.env.locals h4 ∧ s'.heap.UpToSlots h4) (by rw [← hst]; exact okI.frames) hf hfl' fun h4 p1 p2 => ⟨h4, rfl, p1, p2⟩)) (fun _ s4 ⟨⟨h4, e4, held4, sm4⟩, dk4⟩ => ?_) fun _ _ z => z.1
    subst e4
    refine wpAny_mono (wpAny_kd (KD.setFlight _ _) (wpAny_landsW (Q := fun _ s5 => ∃ h5, s5 = { s' with heap := h5 } ∧ Heap.FlyingW B (X.env :: X.outer) a (.ref C') (.ref t) h5 ∧ h4.UpToSlots h5) held4 fun h5 p1 p2 => ⟨h5, rfl, p1, p2⟩)) (fun _ s5 ⟨⟨h5, e5, hfl5, sm5⟩, dk5⟩ => ?_) fun _ _ z => z.1
    subst e5
    have I5 := inv (h2 := h5) (X.A.mark (some (.ref a))) false X.xe rfl (fun z => nomatch z) hfl5.1 (sm4.trans sm5)
    obtain ⟨ob, hob, hobc⟩ := hfl5.there
    refine wpAny_handleBy_cons (codeAny_handlers_test (ld_glob I5 hg hm ?_ hdb)) (by intro z; cases z)
    obtain ⟨tl, N', nm, q', bs, hdct, sn, sub, ab, col, dd, k0, k1, k2, k3, k5, mN, hC, hNs, T⟩ := xcC.ob _ I5.kIn
    obtain ⟨tl0, N0', nm0, q0', bs0, hdct0, sn0, sub0, ab0, col0, dd0, j0, j1, j2, j3, j5, mN0, hC0, hNs0, hni0, T0⟩ := xc.obj I5.kIn
    refine excMatches_own hC hC0 hob hobc (T0.hasType (by decide)) (sub_of hsub I5.kIn hC) (codeAny_handlers_suite_as ?_)
    refine wpAny_mono (wpAny_kd (KD.setFlight _ _) (lands_againW (Q := fun _ s6 => ∃ h6, s6 = { s' with heap := h6 } ∧ Heap.FlyingW B (X.env :: X.outer) a (.ref C') (.ref t) h6 ∧ h5.UpToSlots h6) hfl5 fun h6 p1 p2 => ⟨h6, rfl, p1, p2⟩)) (fun _ s6 ⟨⟨h6, e6, hfl6, sm6⟩, dk6⟩ => ?_) fun _ _ z => z.1
    subst e6
    have dk : DK s'.heap h6 := (dk4.trans dk5).trans dk6
    have ix : XCau C' a d h6 := by
      obtain ⟨_, _, _, oe, vse, T', oT, ts', heo, hcls, hdt, _⟩ := id hfl6
      cases d with
      | none => exact ⟨oe, heo, hcls.1⟩
      | some dx =>
        obtain ⟨o1, g1, e1⟩ := hd dx rfl
        have e2 := dk.dict g1 heo
        rw [e1] at e2
        obtain ⟨oc, od, odt, osl⟩ := oe
        simp only at e2 hdt
        obtain ⟨hc1, _⟩ := hcls
        simp only at hc1
        subst e2 hdt hc1
        exact ⟨vse, osl, heo⟩
    have I6 := invE (h2 := h6) (X.A.mark (some (.ref a))) false (fun (y : Value) (s₃ : Shared) => True) rfl (fun z => nomatch z) hfl6.1 ((sm4.trans sm5).trans sm6) ix
    refine store_ok (X := X) (v := .ref a) (inv_re (X := X) I6 okI fun p hp => hp) hN hi (.inl hk) rfl (fun s7 I7 => ?_) (.inr hk)
    refine wpAny_mono (hs (X.A.mark (some (.ref a))) _ pins s7 _ _ _ (inv_re (X := X) I7 (ok_re okI rfl fun z => nomatch z) fun p hp => hp) (q a nt)) (fun fl s8 h8 => ?_) fun _ _ z => z
    have bk : ∀ {σ' : L2.St} {H'' : Hp} {xe : Value → Shared → Prop} {A2 : Around}, Inv { X with A := A2, calm := false, xe := xe } pins σ' H'' s8 → Inv X pins σ' H'' s8 := fun {_ _ _ _} J' =>
      inv_re (X := X) J' okI fun p hp => hp
    cases fl with
    | next => obtain ⟨σ', H'', J', z⟩ := h8; exact name_goes (bk J') hN hi hk fun s9 J9 => ⟨_, H'', J9, z⟩
    | brk => obtain ⟨σ', H'', J', z⟩ := h8; exact name_goes (bk J') hN hi hk fun s9 J9 => ⟨_, H'', J9, z⟩
    | cont => obtain ⟨σ', H'', J', z⟩ := h8; exact name_goes (bk J') hN hi hk fun s9 J9 => ⟨_, H'', J9, z⟩
    | ret u => obtain ⟨v, σ', H'', J', r, z⟩ := h8; exact name_goes (bk J') hN hi hk fun s9 J9 => ⟨v, _, H'', J9, r, z⟩
  · cases fl with
    | next => obtain ⟨σ', H'', J', z⟩ := h1; exact wpAny_execs_nil ⟨σ', H'', back J', z⟩
    | brk => obtain ⟨σ', H'', J', z⟩ := h1; exact ⟨σ', H'', back J', z⟩
    | cont => obtain ⟨σ', H'', J', z⟩ := h1; exact ⟨σ', H'', back J', z⟩
    | ret u => obtain ⟨v, σ', H'', J', r, z⟩ := h1; exact ⟨v, σ', H'', back J', r, z⟩
end Far
set_option Elab.async false
set_option linter.all false
set_option maxRecDepth 100000
set_option maxHeartbeats 4000000
namespace Far
open PySem L2 HT PySem.Spec PySem.Calls PyProof.Rows
theorem XCau.exc {C a : Addr} {d : Option Addr} {h : Heap} (x : XCau C a d h) : IsExc C a h := by
  cases d with
  | none => exact x
  | some dx => obtain ⟨vs, sl, e⟩ := x; exact ⟨_, e, rfl⟩
structure XI2 (K : PySem.W.Frag) (C : Addr) : Prop where
  xk : XK' K C
  fga : PySem.W.findIn K (.ref C) "__getattribute__" = some (some (.builtin "BaseException.__getattribute__"))
  fge : PySem.W.findIn K (.ref C) "__getattr__" = some none
  fcl : PySem.W.findIn K (.ref C) "__class__" = some (some (.builtin "object.__class__"))
theorem kitx_cau {K : PySem.W.Frag} {C a : Addr} {d : Option Addr} (x : XI2 K C) : PySem.W.KitX K (.ref a) (.ref C) (XCau C a d) where
  ty := fun M h X I => by
    obtain ⟨ob, e, c⟩ := XCau.exc I
    exact c ▸ (PySem.W.Looks.ld e).andThen .now
  it := fun M h X I => by
    obtain ⟨tl, N', nm, q', bs, hdct, sn, sub, ab, col, dd, k0, k1, k2, k3, k5, mN, hC, hNs, T⟩ := x.xk.ob _ X
    intro A' Q' E' s' k q
    unfold isType loadHead
    exact wpAny_bind (wpAny_loadPart (k _ _ hC) (wpAny_pure q))
  ne := fun h tp dd its n sl X htp => by
    obtain ⟨tl, N', nm, q', bs, hdct, sn, sub, ab, col, dd, k0, k1, k2, k3, k5, mN, hC, hNs, T⟩ := x.xk.ob _ X
    refine Bool.eq_false_iff.mpr fun q => ?_
    have e : C = tp := Value.ref.inj (beq_iff_eq.mp q)
    subst e
    have z := congrArg Obj.cls (Option.some.inj (hC.symm.trans htp))
    have z2 : Value.type "type" = Value.type "tuple" := z
    injection z2 with z3
    exact absurd z3 (by decide)
  ca := fun {prog w A E Q s} X I k => by
    obtain ⟨h, g, d', t, os⟩ := s
    obtain ⟨tl, N', nm, q', bs, hdct, sn, sub, ab, col, dd, k0, k1, k2, k3, k5, mN, hC, hNs, T⟩ := x.xk.ob _ X
    obtain ⟨ob, e, c⟩ := XCau.exc I
    exact xcls_attr X x.fga x.fge x.fcl hC (T.hasType (by decide)) (T.hasType (by decide)) e c k
def rIsC (K : PySem.W.Frag) : List V → Hp → VK → Prop := fun vs H Q => ∃ (a C : Addr) (d : Option Addr) (c : V) (cv : Value) (b : Bool), vs = [.ref a, c] ∧ H a = some (.ext (XCau C a d)) ∧ XI2 K C ∧ clsOf c = some cv ∧ PySem.W.kitOne K (.ref C) cv = some b ∧ Q (.bl b) H
theorem cr_isC {X : Cx} : CallR X (.builtin "isinstance") (rIsC X.K) := by
  intro pins s σ H vs us Q I r h
  obtain ⟨a, C, d, c, cv, b, rfl, hH, xi, ec, e, q⟩ := h
  obtain ⟨u, v, rfl, ru, rv⟩ := Vals.two r
  cases (show u = Value.ref a from ru)
  rw [clsOf_rel rv ec]
  exact PySem.W.kia_one (kitx_cau xi) I.kIn (I.hok a _ hH).1 e (by intro z; cases z) fun tk => ⟨.bl b, H, I.tok tk, rfl, q⟩
def rIsCT (K : PySem.W.Frag) : List V → Hp → VK → Prop := fun vs H Q => ∃ (a C tp : Addr) (d : Option Addr) (cs : List V) (cvs : List Value) (b : Bool), vs = [.ref a, .ref tp] ∧ H a = some (.ext (XCau C a d)) ∧ XI2 K C ∧ SqT K H tp cs ∧ cs.map clsOf = cvs.map some ∧ PySem.W.kitAny K (.ref C) cvs = some b ∧ Q (.bl b) H
theorem cr_isCT {X : Cx} : CallR X (.builtin "isinstance") (rIsCT X.K) := by
  intro pins s σ H vs us Q I r h
  obtain ⟨a, C, tp, d, cs, cvs, b, rfl, hH, xi, hs, ec, e, q⟩ := h
  obtain ⟨u, v, rfl, ru, rv⟩ := Vals.two r
  cases (show u = Value.ref a from ru)
  cases (show v = Value.ref tp from rv)
  obtain ⟨its, ri, ⟨o, ho, hc, n, hd⟩, hz⟩ := I.tuple hs
  have ei := clsOf_all ri ec
  subst ei
  obtain ⟨oc, od, odt, osl⟩ := o
  simp only at hc hd
  subst hc hd
  exact PySem.W.kia_tup (kitx_cau xi) I.kIn (I.hok a _ hH).1 ho e (by intro z; cases z) fun tk => ⟨.bl b, H, I.tok tk, rfl, q⟩
theorem XM.xk {K : PySem.W.Frag} {C f : Addr} (m : XM K C f) : XK' K C := ⟨fun h X => by
  obtain ⟨tl, N', nm, q', bs, hdct, sn, sub, ab, col, dd, k0, k1, k2, k3, k5, mN, hC, hNs, _, T⟩ := exc2_obj m.q X
  exact ⟨tl, N', nm, q', bs, hdct, sn, sub, ab, col, dd, k0, k1, k2, k3, k5, mN, hC, hNs, T⟩⟩
theorem XC.xk {K : PySem.W.Frag} {C : Addr} (m : XC K C) : XK' K C := ⟨fun h X => by
  obtain ⟨tl, N', nm, q', bs, hdct, sn, sub, ab, col, dd, k0, k1, k2, k3, k5, mN, hC, hNs, _, T⟩ := m.obj X
  exact ⟨tl, N', nm, q', bs, hdct, sn, sub, ab, col, dd, k0, k1, k2, k3, k5, mN, hC, hNs, T⟩⟩
end Far
set_option Elab.async false
set_option linter.all false
set_option maxRecDepth 100000
set_option maxHeartbeats 4000000
namespace Far
open PySem L2
def spXInit (C : Addr) : Sp := fun vs H Q _ => ∃ (a : Addr) (i : Int), vs = [.ref a, .int i] ∧ H a = some (.ext (XNew C a)) ∧ i.natAbs.log2 < 1920 ∧ ∀ dx, H dx = none → dx ≠ a → Q .non (upd (upd H dx (.xd [("place", .int i)])) a (.ext (XOwn C a dx)))
abbrev n_ntInit : List Str := ["self", "place"]
theorem sc_ntInit : FnScope n_ntInit ["self", "place"] (defScope sNTInit) := ⟨rfl, rfl, rfl, by decide +kernel, rfl, by decide +kernel, by decide +kernel⟩
section
variable {P : Program} {w : World} {K : PySem.W.Frag} {mg : Str → Option Value} {base : Heap} {C : Addr}
theorem ok_ntInit {f : Addr} {fd : FuncData} (F : Fun K "__init__" "NoTurn.__init__" sNTInit f fd) {CN CF : Addr} (mF : mg "FarError" = some (.ref CF)) (xb : XB K CF) (xk : XK' K CN) (xo : XO K CN) (na : NoAttr K CN "place") :
    FnOk P w K mg base CX0 1 f fd ["self", "place"] (spXInit CN) := by
  refine F.ok sc_ntInit (fun vs H Q E h => ?_) (fun cdv Ar outer s H vs Q E hr h => ?_)
  · obtain ⟨a, i, rfl, _⟩ := h
    rfl
  · obtain ⟨a, i, rfl, ha, hi, q⟩ := h
    refine ⟨_, pss_cons (ps_expr (pe_vinit xb rfl mF (pa_cons (pv 0) (pa_cons (pe_fstr (by decide) (pv 1)) pa_nil)))) (pss_one (ps_xset (pv 0) (pv 1) rfl)), ?_⟩
    exact ⟨_, rfl, _, rfl, i, rfl, hi, by decide, fun y => ⟨a, CN, y, rfl, ha, xk, _, rfl, _, rfl, a, CN, rfl, ha, xo, na, fun dx h1 h2 => q dx h1 h2⟩⟩
end
end Far
set_option Elab.async false
set_option linter.all false
set_option maxRecDepth 100000
set_option maxHeartbeats 4000000
namespace Far
open PySem L2
def vN : V → Nat
  | .int i => i.toNat
  | _ => 0
def walkF (P : Play) : Wlk → List V → Nat → Option Nat
  | _, [], _ => none
  | w, v :: r, i => if leftB P w v = true then walkF P (moveW P "good" w (vN v)) r (i + 1) else some i
def walkE (P : Play) : Wlk → List V → Wlk
  | w, [] => w
  | w, v :: r => if leftB P w v = true then walkE P (moveW P "good" w (vN v)) r else w
def spWalkedE (K : PySem.W.Frag) (CN : Addr) : Sp := fun vs H Q E => ∃ (pv : V) (P : Play) (wa : Addr) (us : List V), vs = [pv, .ref wa] ∧ IsPlay K H pv P ∧ PlayOk P ∧ SqT K H wa us ∧ us.length ≤ 100 ∧ (∀ u ∈ us, ∃ b, (b = false → ∀ i, u ≠ .int i) ∧ ∀ H', Same H H' → WholeIs K H' u b) ∧
  (walkF P (walk0 P) us 0 = none → ∀ (T L1 L2 : Addr) (rows : List Addr) H', H T = none → (L1 :: L2 :: rows).Nodup → (∀ a ∈ L1 :: L2 :: rows, H a = none) → Same H H' → H' T = some (.tup [.ref L1, .ref L2]) → H' L1 = some (.lst (rows.map V.ref)) → H' L2 = some (.lst ((leftL (walkE P (walk0 P) us).b).map V.int)) → LsAt H' rows ((walkE P (walk0 P) us).mvs.map fun m => m.told.map gotV) → Q (.ref T) H') ∧
  ∀ i, walkF P (walk0 P) us 0 = some i → ∀ (dx : Addr) H', Same H H' → H dx = none → H' dx = some (.xd [("place", .int (i : Int))]) → E (.ref CN) (some dx) H'
theorem xinit_le {CN : Addr} (vs : List V) (H : Hp) (Q Q' : VK) (E : XK) (h : ∀ v H', Q v H' → Q' v H') (s : spXInit CN vs H Q E) : spXInit CN vs H Q' E := by
  obtain ⟨a, i, e, ha, hi, q⟩ := s
  exact ⟨a, i, e, ha, hi, fun dx h1 h2 => h _ _ (q dx h1 h2)⟩
section
variable {P : Program} {w : World} {K : PySem.W.Frag} {mg : Str → Option Value} {base : Heap} {C : Addr}
theorem ok_walkedE {f : Addr} {fd : FuncData} (F : Fun K "walked" "walked" sWalked f fd) (T : TxtW K mg C) {CN f_nt : Addr} {d_nt : FuncData} (M_nt : XM K CN f_nt) (G_nt : FnOk P w K mg base CX0 1 f_nt d_nt ["self", "place"] (spXInit CN)) (b_nt : Binds K d_nt ["self", "place"] []) (m_nt : mg "NoTurn" = some (.ref CN))
    {f_Walk : Addr} {d_Walk : FuncData} (G_Walk : FnOk P w K mg base CX0 1 f_Walk d_Walk ["self", "play", "rules"] (spWInit K C)) (b_Walk : Binds K d_Walk ["self", "play", "rules"] []) (M_Walk : Mk K C f_Walk)
    {f_has_left : Addr} {d_has_left : FuncData} (G_has_left : FnOk P w K mg base CX0 2 f_has_left d_has_left ["self", "who"] (spHasLeft K C)) (b_has_left : Binds K d_has_left ["self", "who"] []) (m_has_left : Meth K C "has_left" f_has_left)
    {f_move : Addr} {d_move : FuncData} (G_move : FnOk P w K mg base CX0 5 f_move d_move ["self", "who"] (spMove K C)) (b_move : Binds K d_move ["self", "who"] []) (m_move : Meth K C "move" f_move)
    {f_outcome : Addr} {d_outcome : FuncData} (G_outcome : FnOk P w K mg base CX0 1 f_outcome d_outcome ["self"] (spOutcome K C)) (b_outcome : Binds K d_outcome ["self"] []) (m_outcome : Meth K C "outcome" f_outcome) :
    FnOk P w K mg base (CX2 P w) 6 f fd ["play", "weaving"] (spWalkedE K CN) := by
  refine F.ok2 sc_walked (fun vs H Q E h => ?_) (fun cdv Ar outer s H vs Q E hr h => ?_)
  · obtain ⟨pvv, P, wa, us, rfl, _⟩ := h
    rfl
  · obtain ⟨pvv, P, wa, us, rfl, hP, ok, hwa, hlen, hwh, q, qe⟩ := h
    refine ⟨_, pss_cons (ps_set (i := 2) sc_walked.nd rfl (Or.inl rfl) (pe_make M_Walk G_Walk (hr.mono (by decide)) rfl T.mgWalk b_Walk .nil pass0 (pa_cons (pv 0) (pa_cons (pe_str) pa_nil)))) (pss_cons (ps_for PassesOwn.leaving rfl (pi_enumT rfl T.enumerate (pa_cons (pv 1) pa_nil)) (pg_tup rfl (pgs_cons (pg_name (i := 3) sc_walked.nd rfl (Or.inl rfl)) (pgs_cons (pg_name (i := 4) sc_walked.nd rfl (Or.inl rfl)) pgs_nil))) (pss_cons (ps_if (pt_not (pt_val (pe_meth (pv 2) T.cl m_has_left G_has_left (hr.mono (by decide)) b_has_left .nil pass0 (pa_cons (pv 4) pa_nil)))) (pss_one (ps_raiseI M_nt G_nt xinit_le (hr.mono (by decide)) b_nt rfl m_nt (pa_cons (pv 3) pa_nil))) pss_nil) (pss_one (ps_expr (pe_meth (pv 2) T.cl m_move G_move (hr.mono (by decide)) b_move .nil pass0 (pa_cons (pv 4) pa_nil)))))) (pss_one (ps_ret (pe_meth0 (pv 2) T.cl m_outcome G_outcome (hr.mono (by decide)) b_outcome .nil pass0)))), ?_⟩
    have ot := ok.t
    have od := ok.d
    have hn3 : nW P ≤ 3 := by unfold nW; omega
    refine ⟨_, rfl, fun xp dx nx ndx nex => ?_⟩
    have s0 : Same H (upd (upd H dx (.own xp)) xp (.ins C dx [])) := fun b o e => by
      rw [upd_ne (ne_of_none e nx), upd_ne (ne_of_none e ndx)]
      exact e
    refine ⟨xp, dx, pvv, P, "good", rfl, upd_same, hP.kt (KT.same s0), by omega, by omega, fun x H1 hxp hxd hxj A1 k1 hfr => ⟨rfl, ?_⟩⟩
    have s1 : Same H H1 := fun b o e => k1 b o (s0 b o e) (ne_of_none e nx)
    have fr0 : ∀ a ∈ addrW x, H a = none := fun a ha => s0.free (hfr a ha)
    have frp : H x.p = none := by rw [hxp]; exact nx
    rw [← hxp]
    refine ⟨_, rfl, wa, _, rfl, KT.same s1 _ _ hwa, ?_⟩
    refine for_enumT (K := K) (a := wa) (xs := us) (fun i σ H3 => ∃ (v3 v4 : Option V) (wk : Wlk), σ = [some pvv, some (.ref wa), some (.ref x.p), v3, v4] ∧ Same H H3 ∧ WalkAt K C H3 x P "good" wk ∧ SInv P wk ∧ walkF P (walk0 P) us 0 = walkF P wk (us.drop i) i ∧ walkE P (walk0 P) us = walkE P wk (us.drop i))
      ⟨none, none, _, rfl, s1, A1, SInv.start P, rfl, rfl⟩ (fun i σ H3 _ ⟨_, _, _, _, s3, _⟩ => KT.same s3 _ _ hwa) ?_ ?_
    · rintro i y T1 σ H3 hy ⟨v3, v4, wk, rfl, s3, A3, I3, e1, e2⟩ hT1
      have hil := (List.getElem?_eq_some_iff.mp hy).1
      have hdr : us.drop i = y :: us.drop (i + 1) := by
        rw [List.drop_eq_getElem_cons hil]
        congr 1
        exact Option.some.inj ((List.getElem?_eq_getElem hil).symm.trans hy)
      rw [hdr] at e1 e2
      have s4 := same_new hT1 (.tup [V.int ((i : Nat) : Int), y])
      have hT4 : (upd H3 T1 (.tup [V.int ((i : Nat) : Int), y])) T1 = some (.tup [V.int ((i : Nat) : Int), y]) := upd_same
      have A4 := A3.same s4
      have s34 := s3.trans s4
      generalize upd H3 T1 (.tup [V.int ((i : Nat) : Int), y]) = H4 at *
      refine ⟨T1, _, rfl, SqT.of hT4, rfl, _, _, rfl, _, _, rfl, rfl, ?_⟩
      obtain ⟨b, hbn, hb⟩ := hwh y (List.mem_of_getElem? hy)
      have hb4 := hb H4 s34
      have hlb : (b && leftB P wk y) = leftB P wk y := by
        cases b with
        | true => exact Bool.true_and _
        | false =>
          have : leftB P wk y = false := by
            cases y with
            | int j => exact absurd rfl (hbn rfl j)
            | _ => rfl
          rw [this]; rfl
      refine ⟨_, rfl, x.p, x.dx, _, rfl, A4.ob, wl_no _ _ _ _ (by decide +kernel), _, rfl, x, P, _, wk, _, b, rfl, A4, hb4, _, rfl, ?_⟩
      rw [hlb]
      cases el : leftB P wk y with
      | false =>
        refine iteT ?_
        rw [show walkF P wk (y :: us.drop (i + 1)) i = some i by unfold walkF; rw [el]; rfl] at e1
        refine ⟨_, rfl, (by show 1 ≤ 1000; omega), fun a na => ⟨a, ((i : Nat) : Int), rfl, upd_same, ?_, fun dx' h1 h2 => ⟨rfl, dx', h2, upd_same, ⟨_, by rw [upd_ne h2]; exact upd_same⟩, qe i e1 dx' _ (fun c o e => ?_) ?_ ?_⟩⟩⟩
        · have : ((i : Nat) : Int).natAbs.log2 ≤ i := by rw [Int.natAbs_natCast]; exact Nat.log2_le_self i
          omega
        · have e4 := s34 c o e
          have n1 : c ≠ a := fun z => by rw [z, na] at e4; cases e4
          have n2 : c ≠ dx' := fun z => by rw [z] at e4; rw [upd_ne h2, e4] at h1; cases h1
          rw [rem_ne n1, upd_ne n1, upd_ne n2, upd_ne n1]
          exact e4
        · rw [upd_ne h2] at h1
          exact s34.free h1
        · rw [rem_ne h2, upd_ne h2]; exact upd_same
      | true =>
        refine iteF ?_
        cases y with
        | int j =>
          have el2 := el
          unfold leftB at el2
          rw [Bool.and_eq_true, Bool.and_eq_true, decide_eq_true_eq, decide_eq_true_eq] at el2
          obtain ⟨⟨h0, hn⟩, hl⟩ := el2
          obtain ⟨h, rfl⟩ := Int.eq_ofNat_of_zero_le h0
          rw [Int.toNat_natCast] at hl
          have hhn : h < nW P := by omega
          refine ⟨_, rfl, x.p, x.dx, _, rfl, A4.ob, wl_no _ _ _ _ (by decide +kernel), _, rfl, x, P, _, wk, h, rfl, A4, hhn, I3.rdy ok hhn hl, fun H5 A5 k5 => ?_⟩
          refine ⟨_, _, moveW P "good" wk h, rfl, fun b o e => ?_, A5, I3.move hhn hl, ?_, ?_⟩
          · refine k5 b o (s34 b o e) (fun z => ?_) (fun z => ?_)
            · rw [z, frp] at e; cases e
            · rw [fr0 b z] at e; cases e
          · rw [e1]
            show (if leftB P wk (V.int (h : Int)) = true then walkF P (moveW P "good" wk ((h : Int).toNat)) _ (i + 1) else some i) = _
            rw [if_pos el, Int.toNat_natCast]
          · rw [e2]
            show (if leftB P wk (V.int (h : Int)) = true then walkE P (moveW P "good" wk ((h : Int).toNat)) _ else wk) = _
            rw [if_pos el, Int.toNat_natCast]
        | _ => cases el
    · rintro σ H3 ⟨v3, v4, wk, rfl, s3, A3, I3, e1, e2⟩
      rw [List.drop_length] at e1 e2
      have e2' : walkE P (walk0 P) us = wk := e2
      have hn := I3.own.near
      have hbx := I3.own.box
      have hps := I3.own.past
      have hbl : wk.b.boxes.length ≤ 100 := by split at hbx <;> omega
      have hf1 := I3.far1
      refine ⟨_, rfl, x.p, x.dx, _, rfl, A3.ob, wl_no _ _ _ _ (by decide +kernel), x, P, _, _, rfl, A3, by omega, I3.far0, hn.1, hn.2, hbl, by omega, fun T1 L1 L2 rows H4 eT nd hfr4 s4 hT hL1 hL2 hrs => ?_⟩
      rw [← e2'] at hL2 hrs
      exact q e1 T1 L1 L2 rows H4 (s3.free eT) nd (fun a ha => s3.free (hfr4 a ha)) (s3.trans s4) hT hL1 hL2 hrs
end
end Far
set_option Elab.async false
set_option linter.all false
set_option maxRecDepth 100000
set_option maxHeartbeats 4000000
namespace Far
open PySem L2
def itS (P : Play) (r : Str) (h : Nat) : Nat → Bx × Mv → Bx × Mv
  | 0, g => g
  | k + 1, g => itS P r h k (moveS P r h g.1 g.2)
theorem left_cons {b : Bx} (h : b.far < b.near) : leftL b = boxB b b.far :: leftL { b with far := b.far + 1 } := by
  unfold leftL
  obtain ⟨n, hn⟩ : ∃ n : Nat, b.near - b.far = (n : Int) + 1 := ⟨(b.near - b.far - 1).toNat, by omega⟩
  rw [show (b.near - b.far).toNat = n + 1 by omega, show (b.near - (b.far + 1)).toNat = n by omega, List.range_succ_eq_map, List.map_cons, List.map_map]
  congr 1
  · show boxB b (b.far + ((0 : Nat) : Int)) = _
    rw [show b.far + ((0 : Nat) : Int) = b.far by omega]
  · refine List.map_congr_left fun k _ => ?_
    show boxB b (b.far + ((k + 1 : Nat) : Int)) = boxB b (b.far + 1 + (k : Int))
    congr 1
    omega
theorem left_snoc {b : Bx} (h : b.far < b.near) : leftL b = leftL { b with near := b.near - 1 } ++ [boxB b (b.near - 1)] := by
  unfold leftL
  obtain ⟨n, hn⟩ : ∃ n : Nat, b.near - b.far = (n : Int) + 1 := ⟨(b.near - b.far - 1).toNat, by omega⟩
  rw [show (b.near - b.far).toNat = n + 1 by omega, show (b.near - 1 - b.far).toNat = n by omega, List.range_succ, List.map_append]
  congr 1
  show [boxB b (b.far + (n : Int))] = _
  rw [show b.far + (n : Int) = b.near - 1 by omega]
theorem put_box {b : Bx} {i : Int} (n0 : 0 ≤ b.near) (n1 : b.near ≤ b.boxes.length) : boxB (putB b i) b.near = i ∧ ∀ k : Int, 0 ≤ k → k < b.near → boxB (putB b i) k = boxB b k := by
  unfold putB boxB
  split
  · rename_i e
    refine ⟨?_, fun k k0 k1 => ?_⟩
    · show (b.boxes ++ [i]).getD b.near.toNat 0 = i
      rw [List.getD_eq_getElem?_getD, List.getElem?_append_right (by omega), show b.near.toNat - b.boxes.length = 0 by omega]
      rfl
    · show (b.boxes ++ [i]).getD k.toNat 0 = _
      rw [List.getD_eq_getElem?_getD, List.getElem?_append_left (by omega), List.getD_eq_getElem?_getD]
  · refine ⟨?_, fun k k0 k1 => ?_⟩
    · show (b.boxes.set b.near.toNat i).getD b.near.toNat 0 = i
      rw [List.getD_eq_getElem?_getD, List.getElem?_set_self (by omega)]
      rfl
    · show (b.boxes.set b.near.toNat i).getD k.toNat 0 = _
      rw [List.getD_eq_getElem?_getD, List.getElem?_set_ne (by omega), List.getD_eq_getElem?_getD]
structure Al where
  rest : List Int
  told : List (List Got)
  wv : List Nat
  at_ : Nat
def takeMany (l : List Int) : Nat := if l.length = 1 then 5 else 3
def alStep (P : Play) (s : Al) (h : Nat) : Al :=
  if 0 < h then ⟨s.rest.tail, s.told.set h (s.told.getD h [] ++ [gotO s.rest.head?]), s.wv ++ List.replicate (if s.rest.isEmpty then 2 else 4) h, s.at_⟩
  else match P.1[s.at_]? with
    | some (.lay i) => ⟨s.rest ++ [i], s.told, s.wv ++ List.replicate 2 h, s.at_ + 1⟩
    | _ => ⟨s.rest.dropLast, s.told.set h (s.told.getD h [] ++ [gotO s.rest.getLast?]), s.wv ++ List.replicate (takeMany s.rest) h, s.at_ + 1⟩
def al0 (P : Play) : Al := ⟨[], List.replicate (nW P) [], [], 0⟩
structure AlM (P : Play) (s : Al) (w : Wlk) : Prop where
  I : SInv P w
  idle : ∀ h, (mvAt w h).small = 0
  rest : leftL w.b = s.rest
  fn : w.b.far ≤ w.b.near
  told : s.told = w.mvs.map fun m => m.told
  at_ : (mvAt w 0).past = s.at_
theorem legal_app {P : Play} {r : Str} : ∀ {w : Wlk} {a b : List Nat}, Legal P r w a → Legal P r (goW P r w a) b → Legal P r w (a ++ b)
  | _, [], _, _, h => h
  | w, x :: t, b, h1, h2 => ⟨h1.1, h1.2.1, legal_app (w := moveW P r w x) (a := t) h1.2.2 h2⟩
def alGo (P : Play) (s : Al) (os : List Nat) : Al := os.foldl (alStep P) s
end Far
set_option Elab.async false
set_option linter.all false
set_option maxRecDepth 100000
set_option maxHeartbeats 4000000
namespace Far
open PySem L2
def gotD : Got → PyData
  | .non => .none
  | .lost => .str "lost"
  | .got i => .int i
theorem ints_lay : ∀ l : List Int, PyData.canLayAll0 (l.map PyData.int) = true
  | [] => by simp only [List.map_nil, PyData.canLayAll0]
  | g :: r => by simp only [List.map_cons, PyData.canLayAll0, PyData.canLay0, ints_lay r, Bool.and_self]
theorem ints_depth : ∀ l : List Int, PyData.depthAll (l.map PyData.int) ≤ 1
  | [] => by simp [PyData.depthAll]
  | g :: r => by
    have := ints_depth r
    simp only [List.map_cons, PyData.depthAll, PyData.depth]; omega
def outD (t : List (List Got)) (l : List Int) : PyData := .tuple [.list (t.map fun l => PyData.list (l.map gotD)), .list (l.map PyData.int)]
theorem ints_shaped (l : List Int) : SeqAt.shaped (.list (l.map PyData.int)) = true := by
  unfold SeqAt.shaped
  have := ints_depth l
  have h : (PyData.list (l.map PyData.int)).depth ≤ 64 := by simp only [PyData.depth]; omega
  simp only [PyData.canLay0, ints_lay, Bool.true_and, decide_eq_true_eq]
  exact h
theorem ints_nil (l : List Int) : PyData.eqv (.list (l.map PyData.int)) (.list []) = l.isEmpty := by
  cases l with
  | nil => simp [PyData.eqv, PyData.eqvAll]
  | cons a r => simp [PyData.eqv, PyData.eqvAll]
end Far
set_option Elab.async false
set_option linter.all false
set_option maxRecDepth 100000
set_option maxHeartbeats 4000000
namespace HT
open PySem PySem.Spec PyProof.Rows PySem.SeqAt
open AutoSeq1 (wpAny_loadPart')
theorem tuple_mulW1 (l : Addr) (items : Array Value) (n : Nat) (dd : Option Addr) (sl : Array (Option Value)) (x : Int) (u : Tok) (h1 : -(2 ^ 63) ≤ x) (h2 : x < 2 ^ 63) (hc : (items.isEmpty || x == 1) = true) :
    Meets (Builtin.«tuple.__mul__» ⟨[.ref l, .int x u], []⟩) (fun _ R s => s.heap.get? l = some { cls := .type "tuple", dict := dd, data := .seq items n, slots := sl } ∧ R (.ok (.ret (Value.ref l))) s) :=
  .of_wp fun prog w A R s h => by
    obtain ⟨hp, g, d, tk, os⟩ := s; obtain ⟨hl, h⟩ := h
    have f1 := AutoSeq1.idx_int
    have fit : ¬ (decide (x < -2 ^ 63) || decide (x ≥ 2 ^ 63)) = true := by
      rw [decide_eq_false (by omega), decide_eq_false (by omega)]; decide
    wp_walk using wpAny_loadPart' hl
    refine wpAny_ite_false (decide_eq_false fit) ?_
    wp_walk using wpAny_loadPart' hl
    exact ⟨_, rfl, h⟩
theorem tuple_mulW2 (l : Addr) (items : Array Value) (n : Nat) (dd : Option Addr) (sl : Array (Option Value)) (x : Int) (u : Tok) (h1 : -(2 ^ 63) ≤ x) (h2 : x < 2 ^ 63) (hc : ¬ (items.isEmpty || x == 1) = true) (h0 : ¬ (decide (x ≤ 0) || items.isEmpty) = true)
    (hcap : ¬ (items.size : Int) * x > (2 ^ 63 - 1) / 8) (hm : ¬ Builtin.Tuple.tupleTooMany ((items.size : Int) * x) = true) (hz : (List.foldl (fun x1 x2 => x1 ++ x2) #[] (List.replicate x.toNat items)).size ≤ sizeLine) :
    Meets (Builtin.«tuple.__mul__» ⟨[.ref l, .int x u], []⟩) (fun _ R s => s.heap.get? l = some { cls := .type "tuple", dict := dd, data := .seq items n, slots := sl } ∧ R (.ok (.ret (Value.ref s.heap.objs.size))) { s with heap := s.heap.push { cls := Value.type "tuple", data := Data.seq (List.foldl (fun x1 x2 => x1 ++ x2) #[] (List.replicate x.toNat items)) } }) :=
  .of_wp fun prog w A R s h => by
    obtain ⟨hp, g, d, tk, os⟩ := s; obtain ⟨hl, h⟩ := h
    have f1 := AutoSeq1.idx_int
    have fit : ¬ (decide (x < -2 ^ 63) || decide (x ≥ 2 ^ 63)) = true := by
      rw [decide_eq_false (by omega), decide_eq_false (by omega)]; decide
    wp_walk using wpAny_loadPart' hl
    refine wpAny_ite_false (decide_eq_false fit) ?_
    wp_walk using wpAny_loadPart' hl
    refine wpAny_ite_false (decide_eq_false hcap) ?_
    wp_walk using wpAny_loadPart' hl
    exact ⟨_, rfl, h⟩
theorem int_rmul_tup (a : Int) (t : Tok) (l : Addr) (items : Array Value) (n : Nat) (dd : Option Addr) (sl : Array (Option Value)) :
    Meets (Builtin.«int.__rmul__» ⟨[.int a t, .ref l], []⟩) (fun _ R s => s.heap.get? l = some { cls := .type "tuple", dict := dd, data := .seq items n, slots := sl } ∧ R (.ok (.ret Value.notImplemented)) s) :=
  .of_wp fun prog w A R s h => by obtain ⟨hp, g, d, tk, os⟩ := s; obtain ⟨hl, h⟩ := h; wp_walk; exact ⟨_, rfl, h⟩
theorem noFill_tuple_mul : fillsNumberSlot (.type "tuple") "mul" = pure false :=
  PySem.fillsNumberSlot_seq (id := "tuple.__mul__") (r := some (.builtin "tuple.__rmul__")) F.slot_tuple_mul.lookup (by decide +kernel) F.slot_tuple_rmul.lookup (by decide +kernel)
theorem repeat_tuple : seqRepeat? (.type "tuple") = pure (some (.builtin "tuple.__mul__")) := by
  unfold seqRepeat?
  rw [PySem.seqSlot_of (T := "tuple") (name := "__mul__") (id := "tuple.__mul__") F.slot_tuple_mul.lookup (by decide +kernel), PySem.seqSlot_of (T := "tuple") (name := "__rmul__") (id := "tuple.__rmul__") F.slot_tuple_rmul.lookup (by decide +kernel)]
  rfl
section
variable {prog : Program} {w : World} {A : Around} {E : Value → Shared → Prop} {s : Shared}
theorem cat_tupE {t b : Addr} {ws : List Value} {Q : Value → Shared → Prop} (ht : IsTup s.heap t #[]) (hb : IsTup s.heap b ws.toArray) (h1 : Q (.ref b) s) : wpAny (model prog w) A (binaryOp .Add (.ref t) (.ref b)) Q E s := by
  obtain ⟨⟨cls, dd, data, sl⟩, ho, hc, n, hd⟩ := id ht
  obtain ⟨⟨cls2, dd2, data2, sl2⟩, ho2, hc2, n2, hd2⟩ := id hb
  simp only at hc hd hc2 hd2
  subst hc hd hc2 hd2
  exact concat_meets ⟨_, ho, rfl⟩ ⟨_, ho2, rfl⟩ noFill_tuple_add seq_tuple_add PySem.F.slot_tuple_add PySem.F.entry_tuple_add (PySem.F.args_tuple_add_2 _ _)
    (tuple_addW0 t b #[] ws.toArray n n2 dd dd2 sl sl2 (by simp)) ⟨ho, ho2, h1⟩
end
end HT
namespace L2
open PySem PySem.Spec PyProof.Rows
section
variable {X : Cx}
def rCatA (K : PySem.W.Frag) : R2 := fun x y H Q => ∃ a b xs ys, x = .ref a ∧ y = .ref b ∧ SqT K H a xs ∧ SqT K H b ys ∧ xs.length + ys.length ≤ sizeLine ∧
  ∀ p H', Same H H' → SqT K H' p (xs ++ ys) → Q (.ref p) H'
theorem op_catA : OpR X (binaryOp .Add) (rCatA X.K) := by
  intro pins s σ H x y v u Q I rx ry h
  obtain ⟨a, b, xs, ys, rfl, rfl, ha, hb, hz, q⟩ := h
  by_cases hx : xs = []
  · subst hx
    cases rx
    cases ry
    obtain ⟨its, r1, p1, _⟩ := I.tuple ha
    obtain ⟨its2, r2, p2, _⟩ := I.tuple hb
    have e : its = [] := r1.nil_iff.mpr rfl
    subst e
    exact HT.cat_tupE p1 p2 ⟨.ref b, H, I, rfl, q b H (Same.refl H) hb⟩
  · refine op_catT pins s σ H (.ref a) (.ref b) v u Q I rx ry ⟨a, b, xs, ys, rfl, rfl, ha, hb, hx, hz, fun e => ?_, fun e p hp => ?_⟩
    · subst e
      exact q a H (Same.refl H) (by rw [List.append_nil]; exact ha)
    · exact q p _ (fun c o h => by rw [upd_ne (ne_of_none h hp)]; exact h) (SqT.of upd_same)
def rRepT (K : PySem.W.Frag) : R2 := fun x y H Q => ∃ a k xs, x = .ref a ∧ y = .int k ∧ SqT K H a xs ∧ xs ≠ [] ∧ 1 ≤ k ∧ k < 1000 ∧ xs.length * k.toNat ≤ 1000 ∧
  ∀ p H', Same H H' → SqT K H' p (List.replicate k.toNat xs).flatten → Q (.ref p) H'
theorem op_repT : OpR X (binaryOp .Mult) (rRepT X.K) := by
  intro pins s σ H x y v u Q I rx ry h
  obtain ⟨a, k, xs, rfl, rfl, ha, hx, k1, k2, hz, q⟩ := h
  cases rx
  obtain ⟨t, rfl⟩ := ry
  obtain ⟨its, r, p1, _⟩ := I.tuple ha
  obtain ⟨⟨cls, dd, data, sl⟩, ho, hc, n, hd⟩ := id p1
  simp only at hc hd
  subst hc hd
  have hl := r.length
  have hne : its ≠ [] := fun z => hx (r.nil_iff.mp z)
  have hemp : its.toArray.isEmpty = false := by cases its with | nil => exact absurd rfl hne | cons _ _ => rfl
  refine wpAny_binaryOp_repeat_ref (T := "tuple") (U := "int") (by decide) ⟨_, ho, rfl⟩ (fun s' => typeIs_int s' k t) HT.noFill_tuple_mul F.fills_int_mul F.slot_int_rmul HT.repeat_tuple F.slot_int_index.lookup
    (call_meets F.slot_int_rmul (typeIs_int s k t) F.entry_int_rmul (F.args_int_rmul_2 _ _) (HT.int_rmul_tup k t a its.toArray n dd sl)
      ⟨ho, rfl, ⟨_, ho, rfl⟩, ?_⟩)
  by_cases e1 : k = 1
  · subst e1
    refine call_meets F.slot_tuple_mul ⟨_, ho, rfl⟩ F.entry_tuple_mul (F.args_tuple_mul_2 _ _) (HT.tuple_mulW1 a its.toArray n dd sl 1 t (by decide) (by decide) (by rw [hemp]; rfl)) ⟨ho, ?_⟩
    refine ⟨.ref a, H, I, rfl, q a H (Same.refl H) ?_⟩
    rw [show (List.replicate (1 : Int).toNat xs).flatten = xs by simp]
    exact ha
  · have f0 : List.foldl (fun x1 x2 => x1 ++ x2) #[] (List.replicate k.toNat its.toArray) = (List.replicate k.toNat its).flatten.toArray := by
      have := foldl_rep its k.toNat []
      rw [List.nil_append] at this
      exact this
    have hsz : (List.replicate k.toNat its).flatten.length ≤ 1000 := by rw [len_rep, ← hl, Nat.mul_comm]; exact hz
    have hs1 : (its.toArray.size : Int) * k ≤ 1000 := by
      rw [List.size_toArray, ← hl]
      have : k = (k.toNat : Int) := by omega
      rw [this]
      exact_mod_cast hz
    have hln : (1000 : Int) < sizeLine := by decide
    refine call_meets F.slot_tuple_mul ⟨_, ho, rfl⟩ F.entry_tuple_mul (F.args_tuple_mul_2 _ _) (HT.tuple_mulW2 a its.toArray n dd sl k t (by omega) (by omega) (by rw [hemp, Bool.false_or]; simpa using e1) (by rw [hemp, Bool.or_false]; simp; omega) (by omega) (by unfold Builtin.Tuple.tupleTooMany; rw [decide_eq_false (by omega)]; decide) (by rw [f0, List.size_toArray]; exact Nat.le_of_lt (small1000 hsz))) ⟨ho, ?_⟩
    rw [f0]
    refine ⟨.ref s.heap.objs.size, _, I.laid (t' := s.toks) (o := .tup (List.replicate k.toNat xs).flatten) (fun b ob q => Heap.get?_push_of_some _ q) (Nat.le_refl _) ?_, rfl, ?_⟩
    · exact ⟨by rw [len_rep, Nat.mul_comm]; exact Nat.le_of_lt (small1000 hz), _, r.rep k.toNat, TupN.new _ _⟩
    · have hf := I.hok.fresh (Nat.le_refl s.heap.objs.size)
      exact q _ _ (fun c o h => by rw [upd_ne (ne_of_none h hf)]; exact h) (SqT.of upd_same)
def rSlA (K : PySem.W.Frag) : V → Option Int → Option Int → Hp → VK → Prop := fun x lo hi H Q => ∃ a xs, x = .ref a ∧ SqT K H a xs ∧ ∀ p H', Same H H' → SqT K H' p (cutV xs lo hi) → Q (.ref p) H'
theorem sl_tupA : SlR X (rSlA X.K) := by
  intro pins s σ H x v vl vu lo hi sl Q I rx hs pl pu h
  obtain ⟨a, xs, rfl, hx, q⟩ := h
  exact sl_tupW pins s σ H _ v vl vu lo hi sl Q I rx hs pl pu ⟨a, xs, rfl, hx, fun e => q a H (Same.refl H) (by rw [e]; exact hx), fun p hp => q p _ (fun c o h => by rw [upd_ne (ne_of_none h hp)]; exact h) (SqT.of upd_same)⟩
end
end L2
set_option Elab.async false
set_option linter.all false
set_option maxRecDepth 100000
set_option maxHeartbeats 4000000
namespace Far
open PySem L2
def boxL (b : Bx) : List V := b.boxes.map V.int ++ List.replicate (8 - b.boxes.length) .non
theorem boxL_len {b : Bx} (h : b.boxes.length ≤ 8) : (boxL b).length = 8 := by unfold boxL; rw [List.length_append, List.length_map, List.length_replicate]; omega
theorem boxL_at {b : Bx} {i : Int} (h0 : 0 ≤ i) (h1 : i < b.boxes.length) : atI (boxL b) i = some (.int (boxB b i)) := by
  refine at_of (j := i.toNat) (Int.toNat_of_nonneg h0).symm ?_
  unfold boxL
  rw [List.getElem?_append_left (by rw [List.length_map]; omega)]
  exact map_at (getD_get 0 (by omega))
theorem boxL_any {b : Bx} {i : Int} (h : b.boxes.length ≤ 7) (h0 : -1 ≤ i) (h1 : i < b.boxes.length) : ∃ v, atI (boxL b) i = some v := by
  have hl := boxL_len (b := b) (by omega)
  by_cases c : 0 ≤ i
  · exact ⟨_, boxL_at c h1⟩
  · have e : i = -1 := by omega
    subst e
    unfold atI ixN
    rw [hl, if_neg (by decide), if_pos (by decide)]
    exact ⟨_, List.getElem?_eq_getElem (by rw [hl]; decide)⟩
theorem boxL_put {b : Bx} {i : Int} (h : b.boxes.length ≤ 7) (h0 : 0 ≤ b.near) (h1 : b.near ≤ b.boxes.length) : boxL (putB b i) = (boxL b).take b.near.toNat ++ V.int i :: (boxL b).drop (b.near.toNat + 1) := by
  have hl := boxL_len (b := b) (by omega)
  have e : ∀ l : List V, b.near.toNat < l.length → l.take b.near.toNat ++ V.int i :: l.drop (b.near.toNat + 1) = l.set b.near.toNat (V.int i) := fun l hl => by rw [List.set_eq_take_append_cons_drop, if_pos hl]
  rw [e _ (by rw [hl]; omega)]
  unfold putB
  split
  · rename_i c
    show List.map V.int (b.boxes ++ [i]) ++ List.replicate (8 - (b.boxes ++ [i]).length) V.non = _
    unfold boxL
    rw [List.set_append, if_neg (by rw [List.length_map]; omega), List.length_map, show b.near.toNat - b.boxes.length = 0 by omega, List.length_append, List.length_singleton]
    obtain ⟨k, hk⟩ : ∃ k, 8 - b.boxes.length = k + 1 := ⟨7 - b.boxes.length, by omega⟩
    rw [hk, show 8 - (b.boxes.length + 1) = k by omega, List.replicate_succ, List.map_append, List.append_assoc]
    rfl
  · show List.map V.int (b.boxes.set b.near.toNat i) ++ List.replicate (8 - (b.boxes.set b.near.toNat i).length) V.non = _
    unfold boxL
    rw [List.set_append, if_pos (by rw [List.length_map]; omega), List.map_set, List.length_set]
def IsPart (K : PySem.W.Frag) (H : Hp) (v : V) (m : Mv) : Prop := ∃ a ta, v = .ref a ∧ SqT K H a [natV m.past, natV m.small, .int (fO m), optI m.held, .ref ta] ∧ SqT K H ta (m.told.map gotV)
def IsLS (K : PySem.W.Frag) (H : Hp) (v : V) (w : Wlk) : Prop := ∃ a ba pa ps, v = .ref a ∧ SqT K H a [.int w.b.near, .int w.b.far, .ref ba, .ref pa] ∧ SqT K H ba (boxL w.b) ∧ SqT K H pa ps ∧ Paired (IsPart K H) ps w.mvs
theorem IsPart.kt {K : PySem.W.Frag} {H H' : Hp} (k : KT K H H') {v : V} {m : Mv} (h : IsPart K H v m) : IsPart K H' v m := let ⟨a, ta, e, q, r⟩ := h; ⟨a, ta, e, k _ _ q, k _ _ r⟩
theorem ppart {K : PySem.W.Frag} {H H' : Hp} (k : KT K H H') {xs : List V} {l : List Mv} (r : Paired (IsPart K H) xs l) : Paired (IsPart K H') xs l := Paired.mapP r fun _ _ h => IsPart.kt k h
theorem IsLS.kt {K : PySem.W.Frag} {H H' : Hp} (k : KT K H H') {v : V} {w : Wlk} (h : IsLS K H v w) : IsLS K H' v w := let ⟨a, ba, pa, ps, e, h1, h2, h3, h4⟩ := h; ⟨a, ba, pa, ps, e, k _ _ h1, k _ _ h2, k _ _ h3, ppart k h4⟩
theorem IsLS.same {K : PySem.W.Frag} {H H' : Hp} (k : Same H H') {v : V} {w : Wlk} (h : IsLS K H v w) : IsLS K H' v w := h.kt (KT.same k)
def PartIs (K : PySem.W.Frag) (H : Hp) (pv wv : V) (m m' : Mv) : Prop :=
  (wv = .non ∧ IsPart K H pv m') ∨ ∃ ga gs, wv = .ref ga ∧ SqT K H ga (gs.map gotV) ∧ IsPart K H pv m ∧ m' = ⟨m.past + 1, 0, none, none, m.told ++ gs⟩
def spLFirst (K : PySem.W.Frag) : Sp := fun vs H Q _ => ∃ (pvv : V) (P : Play), vs = [pvv] ∧ IsPlay K H pvv P ∧ nW P ≤ 100 ∧ ∀ v H', Same H H' → IsLS K H' v (walk0 P) → Q v H'
def spLTakeP (K : PySem.W.Frag) : Sp := fun vs H Q _ => ∃ (ba : Addr) (pvv : V) (P : Play) (b : Bx) (m : Mv), vs = [.str "good", .int b.near, .int b.far, .ref ba, pvv] ∧ SqT K H ba (boxL b) ∧ IsPart K H pvv m ∧ OwnOk P b m ∧ P.1[m.past]? = some .take ∧ b.boxes.length ≤ 7 ∧
  ∀ T pv' wv H', Same H H' → H' T = some (.tup [.int (takeS "good" b m).1.near, .int (takeS "good" b m).1.far, pv', wv]) → PartIs K H' pv' wv m (takeS "good" b m).2 → Q (.ref T) H'
def spLTryP (K : PySem.W.Frag) : Sp := fun vs H Q _ => ∃ (ba : Addr) (pvv : V) (b : Bx) (m : Mv) (d : Nat), vs = [.str "good", .int b.near, .int b.far, .ref ba, pvv] ∧ SqT K H ba (boxL b) ∧ IsPart K H pvv m ∧ ThOk b.boxes.length d m ∧
  ∀ T pv' wv H', Same H H' → H' T = some (.tup [.int (tryS "good" b m).1.far, pv', wv]) → PartIs K H' pv' wv m (tryS "good" b m).2 → Q (.ref T) H'
def spLStep (K : PySem.W.Frag) : Sp := fun vs H Q _ => ∃ (pvv sv : V) (P : Play) (w : Wlk) (h : Nat), vs = [pvv, .str "good", sv, natV h] ∧ IsPlay K H pvv P ∧ PlayOk P ∧ IsLS K H sv w ∧ SInv P w ∧ h < nW P ∧
  (hasLeft P w h = false → ∀ H', Same H H' → Q .non H') ∧ (hasLeft P w h = true → ∀ v H', Same H H' → IsLS K H' v (moveW P "good" w h) → Q v H')
theorem bare_no : decide (V.str "good" = V.str "bare") = false := by decide +kernel
theorem blind_no : decide (V.str "good" = V.str "blind") = false := by decide +kernel
theorem cut_to {xs : List V} {n : Nat} (h : n ≤ xs.length) : cutV xs none (some (n : Int)) = xs.take n := by
  unfold cutV
  rw [HT.sIx_nat, Nat.min_eq_left h, show HT.sIx xs.length 0 none = 0 from rfl, List.drop_zero, Nat.sub_zero]
theorem cut_fromN {xs : List V} {n : Nat} : cutV xs (some (n : Int)) none = xs.drop n := by
  by_cases h : n ≤ xs.length
  · exact cut_from h
  · unfold cutV
    rw [HT.sIx_nat, Nat.min_eq_right (by omega), List.drop_eq_nil_of_le (Nat.le_refl _), List.drop_eq_nil_of_le (by omega), List.take_nil]
end Far
set_option Elab.async false
set_option linter.all false
set_option maxRecDepth 100000
set_option maxHeartbeats 4000000
set_option pp.maxSteps 500
namespace Far
open PySem L2
theorem set_getP {α : Type} {l : List α} {h : Nat} (hl : h < l.length) (m' : α) : l.take h ++ [m'] ++ l.drop (h + 1) = l.set h m' := by
  rw [List.set_eq_take_append_cons_drop, if_pos hl, List.append_assoc]; rfl
section
variable {P : Program} {w : World} {K : PySem.W.Frag} {mg : Str → Option Value} {base : Heap} {C : Addr}
theorem natd {m k : Nat} : decide (natV m = V.int (k : Int)) = decide (m = k) := by
  by_cases e : m = k
  · subst e; exact (decide_eq_true rfl).trans (decide_eq_true rfl).symm
  · rw [decide_eq_false e, decide_eq_false]
    intro z
    injection z with z
    omega
abbrev n_lFirst : List Str := ["play"]
theorem sc_lFirst : FnScope n_lFirst ["play"] (defScope sLFirst) := ⟨rfl, rfl, rfl, by decide +kernel, rfl, by decide +kernel, by decide +kernel⟩
theorem ok_lFirst {f : Addr} {fd : FuncData} (F : Fun K "_law_first" "_law_first" sLFirst f fd) (T : TxtW K mg C) :
    FnOk P w K mg base CX0 1 f fd ["play"] (spLFirst K) := by
  refine F.ok sc_lFirst (fun vs H Q E h => ?_) (fun cdv Ar outer s H vs Q E hr h => ?_)
  · obtain ⟨pvv, P, rfl, _⟩ := h
    rfl
  · obtain ⟨pvv, P, rfl, hP, hn, q⟩ := h
    refine ⟨_, pss_one (ps_ret (pe_tup (pa_cons (pe_int) (pa_cons (pe_int) (pa_cons (pe_op op_repT (pe_tup (pa_cons (pe_non) pa_nil)) (pe_int)) (pa_cons (pe_op op_repT (pe_tup (pa_cons (pe_tup (pa_cons (pe_int) (pa_cons (pe_int) (pa_cons (pe_int) (pa_cons (pe_non) (pa_cons (pe_tup (pa_nil)) pa_nil)))))) pa_nil)) (pe_op op_add (pe_int) (pe_callB call_len_seq rfl T.len PySem.boot_len (pa_cons (pe_ix ix_tup (pv 0) (pe_int) (fun _ _ => rfl)) pa_nil)))) pa_nil)))))), ?_⟩
    obtain ⟨a, da, ta, ds, rfl, h1, h2, h3, h4⟩ := id hP
    refine ⟨(by show 1 ≤ sizeLine; decide), fun p1 q1 => ?_⟩
    have r1 := same_new q1 (.tup [.non])
    refine ⟨p1, _, _, rfl, rfl, SqT.of upd_same, (by intro z; cases z), by decide, by decide, by decide, fun bx H2 s2 hbx => ?_⟩
    have s02 := r1.trans s2
    refine ⟨(by show 0 ≤ sizeLine; decide), fun p2 q2 => ?_⟩
    have r2 := same_new q2 (.tup [])
    have g2 : (upd H2 p2 (.tup [])) p2 = some (.tup []) := upd_same
    have hbx2 := KT.same (K := K) r2 _ _ hbx
    have s03 := s02.trans r2
    generalize upd H2 p2 (.tup []) = H3 at *
    refine ⟨(by show 5 ≤ sizeLine; decide), fun p3 q3 => ?_⟩
    have r3 := same_new q3 (.tup [.int 0, .int 0, .int 0, .non, .ref p2])
    have g3 : (upd H3 p3 (.tup [.int 0, .int 0, .int 0, .non, .ref p2])) p3 = some (.tup [.int 0, .int 0, .int 0, .non, .ref p2]) := upd_same
    have g2' := r3 _ _ g2
    have hbx3 := KT.same (K := K) r3 _ _ hbx2
    have s04 := s03.trans r3
    show _ ∧ _
    generalize upd H3 p3 (.tup [.int 0, .int 0, .int 0, .non, .ref p2]) = H4 at *
    refine ⟨(by show 1 ≤ sizeLine; decide), fun p4 q4 => ?_⟩
    have r4 := same_new q4 (.tup [.ref p3])
    have hl2 : (P.2.map natV).length = P.2.length := List.length_map ..
    have kt5 : KT K H (upd H4 p4 (.tup [.ref p3])) := KT.same (s04.trans r4)
    refine ⟨_, rfl, a, _, _, _, rfl, rfl, kt5 _ _ h1, atI_nat (j := 1) rfl, ta, _, rfl, .inr (kt5 _ _ h4), _, _, rfl, rfl, ?_⟩
    rw [hl2]
    refine ⟨p4, _, _, rfl, rfl, SqT.of upd_same, (by intro z; cases z), by omega, by unfold nW at hn; omega, by unfold nW at hn; show 1 * (1 + (P.2.length : Int)).toNat ≤ 1000; omega, fun pp H6 s6 hpp => ?_⟩
    have s06 := s04.trans (r4.trans s6)
    refine ⟨(by show 4 ≤ sizeLine; decide), fun T1 eT => ?_⟩
    have r7 := same_new eT (.tup [.int 0, .int 0, .ref bx, .ref pp])
    have k47 : KT K H4 (upd H6 T1 (.tup [.int 0, .int 0, .ref bx, .ref pp])) := KT.same (r4.trans (s6.trans r7))
    refine q _ _ (s06.trans r7) ⟨T1, bx, pp, List.replicate (nW P) (.ref p3), rfl, SqT.of upd_same, k47 _ _ hbx3, ?_, ?_⟩
    · have e : (List.replicate (1 + (P.2.length : Int)).toNat ([V.ref p3] : List V)).flatten = List.replicate (nW P) (.ref p3) := by
        rw [rep_flat, show (1 + (P.2.length : Int)).toNat = nW P by unfold nW; omega]
      have := KT.same (K := K) r7 _ _ hpp
      rw [e] at this
      exact this
    · have hp : IsPart K (upd H6 T1 (.tup [.int 0, .int 0, .ref bx, .ref pp])) (.ref p3) mv0 := ⟨p3, p2, rfl, k47 _ _ (SqT.of g3), k47 _ _ (SqT.of g2')⟩
      show Paired _ (List.replicate (nW P) (V.ref p3)) (List.replicate (nW P) mv0)
      generalize nW P = n
      induction n with
      | zero => exact .nil
      | succ n ih => exact .cons hp ih
abbrev n_lTakeP : List Str := ["rules", "near", "far", "box", "part", "number", "phase", "f", "x", "told", "kept_thing"]
theorem sc_lTakeP : FnScope n_lTakeP ["rules", "near", "far", "box", "part"] (defScope sLTakeP) := ⟨rfl, rfl, rfl, by decide +kernel, rfl, by decide +kernel, by decide +kernel⟩
theorem ok_lTakeP {f : Addr} {fd : FuncData} (F : Fun K "_law_take_part" "_law_take_part" sLTakeP f fd) (T : TxtW K mg C) :
    FnOk P w K mg base CX0 1 f fd ["rules", "near", "far", "box", "part"] (spLTakeP K) := by
  refine F.ok sc_lTakeP (fun vs H Q E h => ?_) (fun cdv Ar outer s H vs Q E hr h => ?_)
  · obtain ⟨ba, pvv, P, b, m, rfl, _⟩ := h
    rfl
  · obtain ⟨ba, pvv, P, b, m, rfl, hba, hpt, ow, htk, hb7, q⟩ := h
    refine ⟨_, pss_cons (ps_asg (pv 4) (pg_tup rfl (pgs_cons (pg_name (i := 5) sc_lTakeP.nd rfl (Or.inl rfl)) (pgs_cons (pg_name (i := 6) sc_lTakeP.nd rfl (Or.inl rfl)) (pgs_cons (pg_name (i := 7) sc_lTakeP.nd rfl (Or.inl rfl)) (pgs_cons (pg_name (i := 8) sc_lTakeP.nd rfl (Or.inl rfl)) (pgs_cons (pg_name (i := 9) sc_lTakeP.nd rfl (Or.inl rfl)) pgs_nil))))))) (pss_cons (ps_if (pt_cmpR op_eq (pv 6) (pe_int) (nomark _)) (pss_one (ps_ret (pe_tup (pa_cons (pe_op op_sub (pv 1) (pe_int)) (pa_cons (pv 2) (pa_cons (pe_tup (pa_cons (pv 5) (pa_cons (pe_int) (pa_cons (pv 7) (pa_cons (pv 8) (pa_cons (pv 9) pa_nil)))))) (pa_cons (pe_non) pa_nil))))))) pss_nil) (pss_cons (ps_if (pt_cmpR op_eq (pv 6) (pe_int) (nomark _)) (pss_one (ps_ret (pe_tup (pa_cons (pv 1) (pa_cons (pv 2) (pa_cons (pe_tup (pa_cons (pv 5) (pa_cons (pe_int) (pa_cons (pv 2) (pa_cons (pv 8) (pa_cons (pv 9) pa_nil)))))) (pa_cons (pe_non) pa_nil))))))) pss_nil) (pss_cons (ps_if (pt_cmpR op_eq (pv 6) (pe_int) (nomark _)) (pss_cons (ps_if (pt_cmpR op_eq (pv 1) (pv 7) (nomark _)) (pss_one (ps_ret (pe_tup (pa_cons (pv 1) (pa_cons (pv 2) (pa_cons (pe_tup (pa_cons (pv 5) (pa_cons (pe_op op_add (pe_int) (pe_callTy call_int1 (by rfl) T.int (by decide +kernel) (pa_cons (pe_cmpR op_eq (pv 0) (pe_str) (nomark _)) pa_nil))) (pa_cons (pv 7) (pa_cons (pe_ix ix_tup (pv 3) (pv 1) (fun _ _ => rfl)) (pa_cons (pv 9) pa_nil)))))) (pa_cons (pe_non) pa_nil))))))) pss_nil) (pss_one (ps_ret (pe_tup (pa_cons (pe_callB (call_max2 rfl) rfl T.max (by decide +kernel) (pa_cons (pv 1) (pa_cons (pv 7) pa_nil))) (pa_cons (pv 2) (pa_cons (pv 4) (pa_cons (pe_tup (pa_cons (pe_ix ix_list (pe_lst (pa_cons (pe_non) (pa_cons (pe_ix ix_tup (pv 3) (pv 1) (fun _ _ => rfl)) pa_nil))) (pe_callTy call_int1 (by rfl) T.int (by decide +kernel) (pa_cons (pe_cmpR op_gt (pv 1) (pv 7) (nomark _)) pa_nil)) (fun _ _ => rfl)) pa_nil)) pa_nil)))))))) pss_nil) (pss_cons (ps_if (pt_cmpR op_eq (pv 6) (pe_int) (nomark _)) (pss_cons (ps_set (i := 10) sc_lTakeP.nd rfl (Or.inl rfl) (pv 8)) (pss_cons (ps_if (pt_cmpR op_ne (pv 2) (pv 7) (nomark _)) (pss_one (ps_set (i := 10) sc_lTakeP.nd rfl (Or.inl rfl) (pe_non))) pss_nil) (pss_one (ps_ret (pe_tup (pa_cons (pv 1) (pa_cons (pe_op op_add (pv 2) (pe_callTy call_int1 (by rfl) T.int (by decide +kernel) (pa_cons (pe_cmpR op_eq (pv 2) (pv 7) (nomark _)) pa_nil))) (pa_cons (pe_tup (pa_cons (pv 5) (pa_cons (pe_int) (pa_cons (pv 7) (pa_cons (pv 10) (pa_cons (pv 9) pa_nil)))))) (pa_cons (pe_non) pa_nil))))))))) pss_nil) (pss_one (ps_ret (pe_tup (pa_cons (pe_op op_add (pv 7) (pe_int)) (pa_cons (pv 2) (pa_cons (pv 4) (pa_cons (pe_tup (pa_cons (pv 8) pa_nil)) pa_nil))))))))))), ?_⟩
    obtain ⟨a, ta, rfl, h1, h2⟩ := id hpt
    refine ⟨_, rfl, a, _, rfl, h1, rfl, _, _, rfl, _, _, rfl, _, _, rfl, _, _, rfl, _, _, rfl, rfl, ?_⟩
    have mk5 : ∀ (H1 : Hp) (s : Same H H1) (n : Nat) (f : Int) (he : Option Int) (p : Addr) (hp : H1 p = none) (m' : Mv), m'.past = m.past → m'.small = n → fO m' = f → m'.held = he → m'.told = m.told → IsPart K (upd H1 p (.tup [natV m.past, natV n, .int f, optI he, .ref ta])) (.ref p) m' := fun H1 s n f he p hp m' e1 e2 e3 e4 e5 =>
      ⟨p, ta, rfl, by rw [e1, e2, e3, e4]; exact SqT.of upd_same, by rw [e5]; exact KT.same (s.trans (same_new hp _)) _ _ h2⟩
    refine ⟨_, rfl, rfl, _, rfl, ?_⟩
    rw [show decide (natV m.small = V.int 0) = decide (m.small = 0) from natd (k := 0)]
    unfold takeS at q
    refine ite2 (fun e => ?_) (fun e => ?_)
    · have e' := of_decide_eq_true e
      rw [if_pos e'] at q
      refine ⟨_, rfl, _, _, rfl, rfl, _, rfl, _, rfl, _, rfl, _, rfl, _, rfl, (by show 5 ≤ sizeLine; decide), fun p1 q1 => ?_⟩
      have hp := mk5 H (Same.refl H) 1 (fO m) m.held p1 q1 { m with small := 1 } rfl rfl rfl rfl rfl
      have r1 := same_new q1 (.tup [natV m.past, natV 1, .int (fO m), optI m.held, .ref ta])
      refine ⟨(by show 4 ≤ sizeLine; decide), fun T1 eT => ?_⟩
      have r2 := same_new eT (.tup [.int (b.near - 1), .int b.far, .ref p1, .non])
      exact q T1 _ _ _ (r1.trans r2) upd_same (.inl ⟨rfl, hp.kt (KT.same r2)⟩)
    have e0 : ¬ m.small = 0 := fun z => e (decide_eq_true z)
    rw [if_neg e0] at q
    obtain ⟨t4, n0, n1, hf⟩ := ow.take htk (by omega)
    refine ⟨_, rfl, rfl, _, rfl, ?_⟩
    rw [show decide (natV m.small = V.int 1) = decide (m.small = 1) from natd (k := 1)]
    refine ite2 (fun e => ?_) (fun e => ?_)
    · have e' := of_decide_eq_true e
      rw [if_pos e'] at q
      refine ⟨_, rfl, _, rfl, _, rfl, _, rfl, _, rfl, _, rfl, (by show 5 ≤ sizeLine; decide), fun p1 q1 => ?_⟩
      have hp := mk5 H (Same.refl H) 2 b.far m.held p1 q1 { m with small := 2, fr := some b.far } rfl rfl rfl rfl rfl
      have r1 := same_new q1 (.tup [natV m.past, natV 2, .int b.far, optI m.held, .ref ta])
      refine ⟨(by show 4 ≤ sizeLine; decide), fun T1 eT => ?_⟩
      have r2 := same_new eT (.tup [.int b.near, .int b.far, .ref p1, .non])
      exact q T1 _ _ _ (r1.trans r2) upd_same (.inl ⟨rfl, hp.kt (KT.same r2)⟩)
    have e1 : ¬ m.small = 1 := fun z => e (decide_eq_true z)
    rw [if_neg e1] at q
    obtain ⟨f, hfr, g0, g1, g2⟩ := hf (by omega)
    have efo : fO m = f := by unfold fO; rw [hfr]; rfl
    refine ⟨_, rfl, rfl, _, rfl, ?_⟩
    rw [show decide (natV m.small = V.int 2) = decide (m.small = 2) from natd (k := 2)]
    refine ite2 (fun e => ?_) (fun e => ?_)
    · have e' := of_decide_eq_true e
      rw [if_pos e'] at q
      unfold thirdS at q
      refine ⟨_, rfl, _, rfl, rfl, _, rfl, ?_⟩
      refine ite2 (fun c => ?_) (fun c => ?_)
      · have c' : b.near = fO m := by injection of_decide_eq_true c
        rw [if_neg (by omega), if_neg (by omega)] at q
        have hbx := boxL_at (b := b) (i := b.near) (by omega) n1
        refine ⟨_, rfl, _, rfl, _, rfl, _, rfl, rfl, .inr ⟨_, rfl, _, _, rfl, rfl, ?_⟩⟩
        rw [bare_no]
        refine ⟨_, rfl, _, rfl, _, rfl, ba, _, _, _, rfl, rfl, hba, hbx, _, rfl, (by show 5 ≤ sizeLine; decide), fun p1 q1 => ?_⟩
        have hp := mk5 H (Same.refl H) 3 (fO m) (some (boxB b b.near)) p1 q1 { m with small := 3, held := some (boxB b b.near) } rfl rfl rfl rfl rfl
        have r1 := same_new q1 (.tup [natV m.past, natV 3, .int (fO m), optI (some (boxB b b.near)), .ref ta])
        refine ⟨(by show 4 ≤ sizeLine; decide), fun T1 eT => ?_⟩
        have r2 := same_new eT (.tup [.int b.near, .int b.far, .ref p1, .non])
        exact q T1 _ _ _ (r1.trans r2) upd_same (.inl ⟨rfl, hp.kt (KT.same r2)⟩)
      · have c' : ¬ b.near = fO m := fun z => c (decide_eq_true (congrArg V.int z))
        obtain ⟨bv, hbv⟩ := boxL_any hb7 n0 n1
        refine ⟨_, rfl, _, rfl, _, _, rfl, _, rfl, _, rfl, _, rfl, _, rfl, ba, _, _, _, rfl, rfl, hba, hbv, (by show 2 ≤ sizeLine; decide), fun L eL => ?_⟩
        have r1 := same_new eL (.lst [.non, bv])
        have gL : (upd H L (.lst [.non, bv])) L = some (.lst [.non, bv]) := upd_same
        generalize upd H L (.lst [.non, bv]) = H1 at *
        refine ⟨_, rfl, _, rfl, _, _, rfl, rfl, .inr ⟨_, rfl, ?_⟩⟩
        cases c2 : decide (fO m < b.near) with
        | true =>
          have c2' := of_decide_eq_true c2
          rw [if_neg (by omega), if_pos c2'] at q
          have hbx := boxL_at (b := b) (i := b.near) (by omega) n1
          rw [hbv] at hbx
          cases hbx
          refine ⟨L, _, _, _, rfl, rfl, SqL.of gL, atI_nat (j := 1) rfl, (by show 1 ≤ sizeLine; decide), fun p1 q1 => ?_⟩
          have r2 := same_new q1 (.tup [.int (boxB b b.near)])
          have g2 : (upd H1 p1 (.tup [.int (boxB b b.near)])) p1 = some (.tup [.int (boxB b b.near)]) := upd_same
          show _ ∧ _
          generalize upd H1 p1 (.tup [.int (boxB b b.near)]) = H2 at *
          refine ⟨(by show 4 ≤ sizeLine; decide), fun T1 eT => ?_⟩
          have em : (if fO m > b.near then fO m else b.near) = b.near := by rw [if_neg (by omega)]
          rw [em]
          have r3 := same_new eT (.tup [.int b.near, .int b.far, .ref a, .ref p1])
          exact q T1 _ _ _ (r1.trans (r2.trans r3)) upd_same (.inr ⟨p1, [.got (boxB b b.near)], rfl, SqT.of (r3 _ _ g2), hpt.kt (KT.same (r1.trans (r2.trans r3))), rfl⟩)
        | false =>
          have c2' := of_decide_eq_false c2
          rw [if_pos (by omega)] at q
          refine ⟨L, _, _, _, rfl, rfl, SqL.of gL, atI_nat (j := 0) rfl, (by show 1 ≤ sizeLine; decide), fun p1 q1 => ?_⟩
          have r2 := same_new q1 (.tup [.non])
          have g2 : (upd H1 p1 (.tup [.non])) p1 = some (.tup [.non]) := upd_same
          show _ ∧ _
          generalize upd H1 p1 (.tup [.non]) = H2 at *
          refine ⟨(by show 4 ≤ sizeLine; decide), fun T1 eT => ?_⟩
          have em : (if fO m > b.near then fO m else b.near) = fO m := by rw [if_pos (by omega)]
          rw [em]
          have r3 := same_new eT (.tup [.int (fO m), .int b.far, .ref a, .ref p1])
          exact q T1 _ _ _ (r1.trans (r2.trans r3)) upd_same (.inr ⟨p1, [.non], rfl, SqT.of (r3 _ _ g2), hpt.kt (KT.same (r1.trans (r2.trans r3))), rfl⟩)
    have e2 : ¬ m.small = 2 := fun z => e (decide_eq_true z)
    rw [if_neg e2] at q
    refine ⟨_, rfl, rfl, _, rfl, ?_⟩
    rw [show decide (natV m.small = V.int 3) = decide (m.small = 3) from natd (k := 3)]
    refine ite2 (fun e => ?_) (fun e => ?_)
    · have e' := of_decide_eq_true e
      rw [if_pos ⟨e', by decide +kernel⟩] at q
      unfold fourthS at q
      refine ⟨_, rfl, ?_⟩
      refine ⟨_, rfl, _, rfl, rfl, _, rfl, ?_⟩
      cases c : decide (V.int b.far = V.int (fO m)) with
      | true =>
        have c' : b.far = fO m := by injection of_decide_eq_true c
        rw [if_pos c'] at q
        refine iteF ?_
        refine ⟨_, rfl, _, rfl, _, rfl, _, rfl, rfl, .inr ⟨_, rfl, _, _, rfl, rfl, ?_⟩⟩
        rw [c]
        refine ⟨_, rfl, _, rfl, _, rfl, _, rfl, (by show 5 ≤ sizeLine; decide), fun p1 q1 => ?_⟩
        have hp := mk5 H (Same.refl H) 4 (fO m) m.held p1 q1 { m with small := 4 } rfl rfl rfl rfl rfl
        have r1 := same_new q1 (.tup [natV m.past, natV 4, .int (fO m), optI m.held, .ref ta])
        refine ⟨(by show 4 ≤ sizeLine; decide), fun T1 eT => ?_⟩
        have r2 := same_new eT (.tup [.int b.near, .int (b.far + 1), .ref p1, .non])
        exact q T1 _ _ _ (r1.trans r2) upd_same (.inl ⟨rfl, hp.kt (KT.same r2)⟩)
      | false =>
        have c' : ¬ b.far = fO m := fun z => of_decide_eq_false c (congrArg V.int z)
        rw [if_neg c'] at q
        refine iteT ?_
        refine ⟨_, rfl, _, rfl, _, rfl, _, rfl, rfl, .inr ⟨_, rfl, _, _, rfl, rfl, ?_⟩⟩
        rw [c]
        refine ⟨_, rfl, _, rfl, _, rfl, _, rfl, (by show 5 ≤ sizeLine; decide), fun p1 q1 => ?_⟩
        have hp := mk5 H (Same.refl H) 4 (fO m) none p1 q1 { m with small := 4, held := none } rfl rfl rfl rfl rfl
        have r1 := same_new q1 (.tup [natV m.past, natV 4, .int (fO m), optI none, .ref ta])
        refine ⟨(by show 4 ≤ sizeLine; decide), fun T1 eT => ?_⟩
        have ez : (fun i j : Int => V.int (i + j)) b.far (if false = true then 1 else 0) = V.int b.far := by show V.int (b.far + 0) = _; rw [Int.add_zero]
        rw [ez]
        have r2 := same_new eT (.tup [.int b.near, .int b.far, .ref p1, .non])
        exact q T1 _ _ _ (r1.trans r2) upd_same (.inl ⟨rfl, hp.kt (KT.same r2)⟩)
    have e3 : ¬ m.small = 3 := fun z => e (decide_eq_true z)
    rw [if_neg (fun z => e3 z.1)] at q
    refine ⟨_, rfl, _, _, rfl, rfl, _, rfl, _, rfl, _, rfl, (by show 1 ≤ sizeLine; decide), fun p1 q1 => ?_⟩
    have r1 := same_new q1 (.tup [optI m.held])
    have g1 : (upd H p1 (.tup [optI m.held])) p1 = some (.tup [optI m.held]) := upd_same
    show _ ∧ _
    generalize upd H p1 (.tup [optI m.held]) = H1 at *
    refine ⟨(by show 4 ≤ sizeLine; decide), fun T1 eT => ?_⟩
    have r2 := same_new eT (.tup [.int (fO m + 1), .int b.far, .ref a, .ref p1])
    exact q T1 _ _ _ (r1.trans r2) upd_same (.inr ⟨p1, [gotO m.held], rfl, by rw [List.map_cons, gotO_V]; exact SqT.of (r2 _ _ g1), hpt.kt (KT.same (r1.trans r2)), rfl⟩)
abbrev n_lTryP : List Str := ["rules", "near", "far", "box", "part", "number", "phase", "f", "x", "told"]
theorem sc_lTryP : FnScope n_lTryP ["rules", "near", "far", "box", "part"] (defScope sLTryP) := ⟨rfl, rfl, rfl, by decide +kernel, rfl, by decide +kernel, by decide +kernel⟩
theorem ok_lTryP {f : Addr} {fd : FuncData} (F : Fun K "_law_try_part" "_law_try_part" sLTryP f fd) (T : TxtW K mg C) :
    FnOk P w K mg base CX0 1 f fd ["rules", "near", "far", "box", "part"] (spLTryP K) := by
  refine F.ok sc_lTryP (fun vs H Q E h => ?_) (fun cdv Ar outer s H vs Q E hr h => ?_)
  · obtain ⟨ba, pvv, b, m, d, rfl, _⟩ := h
    rfl
  · obtain ⟨ba, pvv, b, m, d, rfl, hba, hpt, th, q⟩ := h
    refine ⟨_, pss_cons (ps_asg (pv 4) (pg_tup rfl (pgs_cons (pg_name (i := 5) sc_lTryP.nd rfl (Or.inl rfl)) (pgs_cons (pg_name (i := 6) sc_lTryP.nd rfl (Or.inl rfl)) (pgs_cons (pg_name (i := 7) sc_lTryP.nd rfl (Or.inl rfl)) (pgs_cons (pg_name (i := 8) sc_lTryP.nd rfl (Or.inl rfl)) (pgs_cons (pg_name (i := 9) sc_lTryP.nd rfl (Or.inl rfl)) pgs_nil))))))) (pss_cons (ps_if (pt_cmpR op_eq (pv 6) (pe_int) (nomark _)) (pss_one (ps_ret (pe_tup (pa_cons (pv 2) (pa_cons (pe_tup (pa_cons (pv 5) (pa_cons (pe_int) (pa_cons (pv 2) (pa_cons (pv 8) (pa_cons (pv 9) pa_nil)))))) (pa_cons (pe_non) pa_nil)))))) pss_nil) (pss_cons (ps_if (pt_cmpR op_eq (pv 6) (pe_int) (nomark _)) (pss_cons (ps_if (pt_cmpR op_le (pv 1) (pv 7) (nomark _)) (pss_one (ps_ret (pe_tup (pa_cons (pv 2) (pa_cons (pv 4) (pa_cons (pe_tup (pa_cons (pe_non) pa_nil)) pa_nil)))))) pss_nil) (pss_one (ps_ret (pe_tup (pa_cons (pv 2) (pa_cons (pe_tup (pa_cons (pv 5) (pa_cons (pe_int) (pa_cons (pv 7) (pa_cons (pv 8) (pa_cons (pv 9) pa_nil)))))) (pa_cons (pe_non) pa_nil))))))) pss_nil) (pss_cons (ps_if (pt_cmpR op_eq (pv 6) (pe_int) (nomark _)) (pss_one (ps_ret (pe_tup (pa_cons (pv 2) (pa_cons (pe_tup (pa_cons (pv 5) (pa_cons (pe_int) (pa_cons (pv 7) (pa_cons (pe_ix ix_tup (pv 3) (pv 7) (fun _ _ => rfl)) (pa_cons (pv 9) pa_nil)))))) (pa_cons (pe_non) pa_nil)))))) pss_nil) (pss_cons (ps_if (PW.pt (pw_or (pt_cmpR op_eq (pv 2) (pv 7) (nomark _)) (pw_or1 (pt_cmpR op_eq (pv 0) (pe_str) (nomark _))))) (pss_one (ps_ret (pe_tup (pa_cons (pe_op op_add (pv 7) (pe_int)) (pa_cons (pv 4) (pa_cons (pe_tup (pa_cons (pv 8) pa_nil)) pa_nil)))))) pss_nil) (pss_one (ps_ret (pe_tup (pa_cons (pv 2) (pa_cons (pv 4) (pa_cons (pe_tup (pa_cons (pe_str) pa_nil)) pa_nil)))))))))), ?_⟩
    obtain ⟨a, ta, rfl, h1, h2⟩ := id hpt
    refine ⟨_, rfl, a, _, rfl, h1, rfl, _, _, rfl, _, _, rfl, _, _, rfl, _, _, rfl, _, _, rfl, rfl, ?_⟩
    have mk5 : ∀ (H1 : Hp) (s : Same H H1) (n : Nat) (f : Int) (he : Option Int) (p : Addr) (hp : H1 p = none) (m' : Mv), m'.past = m.past → m'.small = n → fO m' = f → m'.held = he → m'.told = m.told → IsPart K (upd H1 p (.tup [natV m.past, natV n, .int f, optI he, .ref ta])) (.ref p) m' := fun H1 s n f he p hp m' e1 e2 e3 e4 e5 =>
      ⟨p, ta, rfl, by rw [e1, e2, e3, e4]; exact SqT.of upd_same, by rw [e5]; exact KT.same (s.trans (same_new hp _)) _ _ h2⟩
    refine ⟨_, rfl, rfl, _, rfl, ?_⟩
    rw [show decide (natV m.small = V.int 0) = decide (m.small = 0) from natd (k := 0)]
    unfold tryS at q
    refine ite2 (fun e => ?_) (fun e => ?_)
    · have e' := of_decide_eq_true e
      rw [if_pos e'] at q
      refine ⟨_, rfl, _, rfl, _, rfl, _, rfl, _, rfl, (by show 5 ≤ sizeLine; decide), fun p1 q1 => ?_⟩
      have hp := mk5 H (Same.refl H) 1 b.far m.held p1 q1 { m with small := 1, fr := some b.far } rfl rfl rfl rfl rfl
      have r1 := same_new q1 (.tup [natV m.past, natV 1, .int b.far, optI m.held, .ref ta])
      refine ⟨(by show 3 ≤ sizeLine; decide), fun T1 eT => ?_⟩
      have r2 := same_new eT (.tup [.int b.far, .ref p1, .non])
      exact q T1 _ _ _ (r1.trans r2) upd_same (.inl ⟨rfl, hp.kt (KT.same r2)⟩)
    have e0 : ¬ m.small = 0 := fun z => e (decide_eq_true z)
    rw [if_neg e0] at q
    obtain ⟨f, hfr, g0, g1, g2⟩ := th.fr (by omega)
    have efo : fO m = f := by unfold fO; rw [hfr]; rfl
    refine ⟨_, rfl, rfl, _, rfl, ?_⟩
    rw [show decide (natV m.small = V.int 1) = decide (m.small = 1) from natd (k := 1)]
    refine ite2 (fun e => ?_) (fun e => ?_)
    · have e' := of_decide_eq_true e
      rw [if_pos e'] at q
      refine ⟨_, rfl, _, rfl, _, _, rfl, rfl, _, rfl, ?_⟩
      refine ite2 (fun c => ?_) (fun c => ?_)
      · have c' := of_decide_eq_true c
        rw [if_pos c'] at q
        refine ⟨_, rfl, _, rfl, (by show 1 ≤ sizeLine; decide), fun p1 q1 => ?_⟩
        have r2 := same_new q1 (.tup [.non])
        have g2 : (upd H p1 (.tup [.non])) p1 = some (.tup [.non]) := upd_same
        show _ ∧ _
        generalize upd H p1 (.tup [.non]) = H2 at *
        refine ⟨(by show 3 ≤ sizeLine; decide), fun T1 eT => ?_⟩
        have r3 := same_new eT (.tup [.int b.far, .ref a, .ref p1])
        exact q T1 _ _ _ (r2.trans r3) upd_same (.inr ⟨p1, [.non], rfl, SqT.of (r3 _ _ g2), hpt.kt (KT.same (r2.trans r3)), rfl⟩)
      · have c' : ¬ b.near ≤ fO m := fun z => c (decide_eq_true z)
        rw [if_neg c'] at q
        refine ⟨_, rfl, _, rfl, _, rfl, _, rfl, _, rfl, (by show 5 ≤ sizeLine; decide), fun p1 q1 => ?_⟩
        have hp := mk5 H (Same.refl H) 2 (fO m) m.held p1 q1 { m with small := 2 } rfl rfl rfl rfl rfl
        have r1 := same_new q1 (.tup [natV m.past, natV 2, .int (fO m), optI m.held, .ref ta])
        refine ⟨(by show 3 ≤ sizeLine; decide), fun T1 eT => ?_⟩
        have r2 := same_new eT (.tup [.int b.far, .ref p1, .non])
        exact q T1 _ _ _ (r1.trans r2) upd_same (.inl ⟨rfl, hp.kt (KT.same r2)⟩)
    have e1 : ¬ m.small = 1 := fun z => e (decide_eq_true z)
    rw [if_neg e1] at q
    have g3 := g2 (by omega)
    refine ⟨_, rfl, rfl, _, rfl, ?_⟩
    rw [show decide (natV m.small = V.int 2) = decide (m.small = 2) from natd (k := 2)]
    refine ite2 (fun e => ?_) (fun e => ?_)
    · have e' := of_decide_eq_true e
      rw [if_pos e'] at q
      have hbx := boxL_at (b := b) (i := fO m) (by omega) (by omega)
      refine ⟨_, rfl, _, rfl, _, rfl, _, rfl, _, rfl, ba, _, _, _, rfl, rfl, hba, hbx, _, rfl, (by show 5 ≤ sizeLine; decide), fun p1 q1 => ?_⟩
      have hp := mk5 H (Same.refl H) 3 (fO m) (some (boxB b (fO m))) p1 q1 { m with small := 3, held := some (boxB b (fO m)) } rfl rfl rfl rfl rfl
      have r1 := same_new q1 (.tup [natV m.past, natV 3, .int (fO m), optI (some (boxB b (fO m))), .ref ta])
      refine ⟨(by show 3 ≤ sizeLine; decide), fun T1 eT => ?_⟩
      have r2 := same_new eT (.tup [.int b.far, .ref p1, .non])
      exact q T1 _ _ _ (r1.trans r2) upd_same (.inl ⟨rfl, hp.kt (KT.same r2)⟩)
    have e2 : ¬ m.small = 2 := fun z => e (decide_eq_true z)
    rw [if_neg e2] at q
    refine ⟨_, rfl, _, rfl, rfl, _, rfl, ?_⟩
    cases c : decide (V.int b.far = V.int (fO m)) with
    | true =>
      have c' : b.far = fO m := by injection of_decide_eq_true c
      rw [if_pos (.inr c')] at q
      refine iteT ?_
      refine iteT ?_
      refine ⟨_, rfl, _, _, rfl, rfl, _, rfl, _, rfl, (by show 1 ≤ sizeLine; decide), fun p1 q1 => ?_⟩
      have r1 := same_new q1 (.tup [optI m.held])
      have g1 : (upd H p1 (.tup [optI m.held])) p1 = some (.tup [optI m.held]) := upd_same
      show _ ∧ _
      generalize upd H p1 (.tup [optI m.held]) = H1 at *
      refine ⟨(by show 3 ≤ sizeLine; decide), fun T1 eT => ?_⟩
      have r2 := same_new eT (.tup [.int (fO m + 1), .ref a, .ref p1])
      exact q T1 _ _ _ (r1.trans r2) upd_same (.inr ⟨p1, [gotO m.held], rfl, by rw [List.map_cons, gotO_V]; exact SqT.of (r2 _ _ g1), hpt.kt (KT.same (r1.trans r2)), rfl⟩)
    | false =>
      have c' : ¬ b.far = fO m := fun z => of_decide_eq_false c (congrArg V.int z)
      rw [if_neg (fun z => z.elim (fun z => by revert z; decide +kernel) c')] at q
      refine iteF ?_
      refine ⟨_, rfl, rfl, _, rfl, ?_⟩
      rw [blind_no]
      refine iteF ?_
      refine ⟨_, rfl, _, rfl, (by show 1 ≤ sizeLine; decide), fun p1 q1 => ?_⟩
      have r2 := same_new q1 (.tup [.str "lost"])
      have g2 : (upd H p1 (.tup [.str "lost"])) p1 = some (.tup [.str "lost"]) := upd_same
      show _ ∧ _
      generalize upd H p1 (.tup [.str "lost"]) = H2 at *
      refine ⟨(by show 3 ≤ sizeLine; decide), fun T1 eT => ?_⟩
      have r3 := same_new eT (.tup [.int b.far, .ref a, .ref p1])
      exact q T1 _ _ _ (r2.trans r3) upd_same (.inr ⟨p1, [.lost], rfl, SqT.of (r3 _ _ g2), hpt.kt (KT.same (r2.trans r3)), rfl⟩)
end
end Far
set_option Elab.async false
set_option linter.all false
set_option maxRecDepth 100000
set_option maxHeartbeats 4000000
set_option pp.maxSteps 500
namespace Far
open PySem L2
section
variable {P : Program} {w : World} {K : PySem.W.Frag} {mg : Str → Option Value} {base : Heap} {C : Addr}
abbrev n_lStep : List Str := ["play", "rules", "state", "who", "near", "far", "box", "parts_here", "part", "most", "what"]
theorem sc_lStep : FnScope n_lStep ["play", "rules", "state", "who"] (defScope sLStep) := ⟨rfl, rfl, rfl, by decide +kernel, rfl, by decide +kernel, by decide +kernel⟩
theorem ok_lStep {f : Addr} {fd : FuncData} (F : Fun K "_law_small_step" "_law_small_step" sLStep f fd) (T : TxtW K mg C)
    {f__law_try_part : Addr} {d__law_try_part : FuncData} (G__law_try_part : FnOk P w K mg base CX0 1 f__law_try_part d__law_try_part ["rules", "near", "far", "box", "part"] (spLTryP K)) (b__law_try_part : Binds K d__law_try_part ["rules", "near", "far", "box", "part"] []) (k__law_try_part : PySem.W.keepIn K (.ref f__law_try_part) = true) (m__law_try_part : mg "_law_try_part" = some (.ref f__law_try_part))
    {f__law_take_part : Addr} {d__law_take_part : FuncData} (G__law_take_part : FnOk P w K mg base CX0 1 f__law_take_part d__law_take_part ["rules", "near", "far", "box", "part"] (spLTakeP K)) (b__law_take_part : Binds K d__law_take_part ["rules", "near", "far", "box", "part"] []) (k__law_take_part : PySem.W.keepIn K (.ref f__law_take_part) = true) (m__law_take_part : mg "_law_take_part" = some (.ref f__law_take_part)) :
    FnOk P w K mg base CX0 2 f fd ["play", "rules", "state", "who"] (spLStep K) := by
  refine F.ok sc_lStep (fun vs H Q E h => ?_) (fun cdv Ar outer s H vs Q E hr h => ?_)
  · obtain ⟨pvv, sv, P, w, h, rfl, _⟩ := h
    rfl
  · obtain ⟨pvv, sv, P, w, h, rfl, hP, ok, hS, I, hh, qn, qs⟩ := h
    refine ⟨_, pss_cons (ps_asg (pv 2) (pg_tup rfl (pgs_cons (pg_name (i := 4) sc_lStep.nd rfl (Or.inl rfl)) (pgs_cons (pg_name (i := 5) sc_lStep.nd rfl (Or.inl rfl)) (pgs_cons (pg_name (i := 6) sc_lStep.nd rfl (Or.inl rfl)) (pgs_cons (pg_name (i := 7) sc_lStep.nd rfl (Or.inl rfl)) pgs_nil)))))) (pss_cons (ps_set (i := 8) sc_lStep.nd rfl (Or.inl rfl) (pe_ix ix_tup (pv 7) (pv 3) (fun _ _ => rfl))) (pss_cons (ps_set (i := 9) sc_lStep.nd rfl (Or.inl rfl) (pe_ix ix_tup (pe_op op_catA (pe_tup (pa_cons (pe_callB call_len_seq rfl T.len PySem.boot_len (pa_cons (pe_ix ix_tup (pv 0) (pe_int) (fun _ _ => rfl)) pa_nil)) pa_nil)) (pe_ix ix_tup (pv 0) (pe_int) (fun _ _ => rfl))) (pv 3) (fun _ _ => rfl))) (pss_cons (ps_if (pt_cmpR op_eq (pe_ix ix_tup (pv 8) (pe_int) (fun _ _ => rfl)) (pv 9) (nomark _)) (pss_one (ps_ret (pe_non))) pss_nil) (pss_cons (ps_mid (ps_if (pt_cmpR op_gt (pv 3) (pe_int) (nomark _)) (pss_one (ps_asg (pe_call G__law_try_part (hr.mono (by decide)) rfl m__law_try_part k__law_try_part b__law_try_part .nil pass0 (pa_cons (pv 1) (pa_cons (pv 4) (pa_cons (pv 5) (pa_cons (pv 6) (pa_cons (pv 8) pa_nil)))))) (pg_tup rfl (pgs_cons (pg_name (i := 5) sc_lStep.nd rfl (Or.inl rfl)) (pgs_cons (pg_name (i := 8) sc_lStep.nd rfl (Or.inl rfl)) (pgs_cons (pg_name (i := 10) sc_lStep.nd rfl (Or.inl rfl)) pgs_nil)))))) (pss_one (ps_if (pt_cmpR op_eq (pe_ix ix_tup (pe_ix ix_tup (pe_ix ix_tup (pv 0) (pe_int) (fun _ _ => rfl)) (pe_ix ix_tup (pv 8) (pe_int) (fun _ _ => rfl)) (fun _ _ => rfl)) (pe_int) (fun _ _ => rfl)) (pe_str) (nomark _)) (pss_one (ps_asg (pe_call G__law_take_part (hr.mono (by decide)) rfl m__law_take_part k__law_take_part b__law_take_part .nil pass0 (pa_cons (pv 1) (pa_cons (pv 4) (pa_cons (pv 5) (pa_cons (pv 6) (pa_cons (pv 8) pa_nil)))))) (pg_tup rfl (pgs_cons (pg_name (i := 4) sc_lStep.nd rfl (Or.inl rfl)) (pgs_cons (pg_name (i := 5) sc_lStep.nd rfl (Or.inl rfl)) (pgs_cons (pg_name (i := 8) sc_lStep.nd rfl (Or.inl rfl)) (pgs_cons (pg_name (i := 10) sc_lStep.nd rfl (Or.inl rfl)) pgs_nil))))))) (pss_cons (ps_set (i := 10) sc_lStep.nd rfl (Or.inl rfl) (pe_non)) (pss_one (ps_if (pt_cmpR op_eq (pe_ix ix_tup (pv 8) (pe_int) (fun _ _ => rfl)) (pe_int) (nomark _)) (pss_cons (ps_set (i := 6) sc_lStep.nd rfl (Or.inl rfl) (pe_op op_catA (pe_op op_catA (pe_slice sl_tupA (pv 6) po_none (po_some (pv 4))) (pe_tup (pa_cons (pe_ix ix_tup (pe_ix ix_tup (pe_ix ix_tup (pv 0) (pe_int) (fun _ _ => rfl)) (pe_ix ix_tup (pv 8) (pe_int) (fun _ _ => rfl)) (fun _ _ => rfl)) (pe_int) (fun _ _ => rfl)) pa_nil))) (pe_slice sl_tupA (pv 6) (po_some (pe_op op_add (pv 4) (pe_int))) po_none))) (pss_one (ps_set (i := 8) sc_lStep.nd rfl (Or.inl rfl) (pe_op op_catA (pe_tup (pa_cons (pe_ix ix_tup (pv 8) (pe_int) (fun _ _ => rfl)) (pa_cons (pe_int) pa_nil))) (pe_slice sl_tupA (pv 8) (po_some (pe_int)) po_none))))) (pss_cons (ps_set (i := 4) sc_lStep.nd rfl (Or.inl rfl) (pe_op op_add (pv 4) (pe_int))) (pss_one (ps_set (i := 10) sc_lStep.nd rfl (Or.inl rfl) (pe_tup (pa_nil)))))))))))) (pss_cons (ps_mid (ps_if (pt_cmpR op_notN (pv 10) (pe_non) (nomark _)) (pss_one (ps_set (i := 8) sc_lStep.nd rfl (Or.inl rfl) (pe_tup (pa_cons (pe_op op_add (pe_ix ix_tup (pv 8) (pe_int) (fun _ _ => rfl)) (pe_int)) (pa_cons (pe_int) (pa_cons (pe_int) (pa_cons (pe_non) (pa_cons (pe_op op_catA (pe_ix ix_tup (pv 8) (pe_int) (fun _ _ => rfl)) (pv 10)) pa_nil)))))))) pss_nil)) (pss_one (ps_ret (pe_tup (pa_cons (pv 4) (pa_cons (pv 5) (pa_cons (pv 6) (pa_cons (pe_op op_catA (pe_op op_catA (pe_slice sl_tupA (pv 7) po_none (po_some (pv 3))) (pe_tup (pa_cons (pv 8) pa_nil))) (pe_slice sl_tupA (pv 7) (po_some (pe_op op_add (pv 3) (pe_int))) po_none)) pa_nil)))))))))))), ?_⟩
    obtain ⟨a, ba, pa, ps, rfl, s1, s2, s3, s4⟩ := id hS
    obtain ⟨pa0, da, ta, ds, rfl, h1, h2, h3, h4⟩ := id hP
    have hlen : h < w.mvs.length := by rw [I.len]; exact hh
    have hm : w.mvs[h]? = some (mvAt w h) := getD_get mv0 hlen
    obtain ⟨m, em⟩ : ∃ m, mvAt w h = m := ⟨_, rfl⟩
    obtain ⟨b, eb⟩ : ∃ b, w.b = b := ⟨_, rfl⟩
    rw [em] at hm
    rw [eb] at s1 s2
    obtain ⟨ptv, hptv, pt0, tt0, rfl, p1, p2⟩ := pget s4 hm
    have hpl := plen s4
    have hdl : ds.length = P.1.length := plen h3
    have hps : ps.length = nW P := by rw [hpl, I.len]
    have ob := I.own.box
    have op := I.own.past
    have od := ok.d
    have ot := ok.t
    have hbx : b.boxes.length ≤ 7 := by rw [← eb]; split at ob <;> omega
    have hn3 : nW P ≤ 3 := by unfold nW; omega
    refine ⟨_, rfl, a, _, rfl, s1, rfl, _, _, rfl, _, _, rfl, _, _, rfl, _, _, rfl, rfl, ?_⟩
    refine ⟨_, rfl, _, rfl, pa, _, _, _, rfl, rfl, s3, atI_nat hptv, ?_⟩
    refine ⟨_, rfl, pa0, _, _, _, rfl, rfl, h1, atI_nat (j := 0) rfl, da, _, rfl, .inr h2, (by show 1 ≤ sizeLine; decide), fun q1 e1 => ?_⟩
    have r1 := same_new e1 (.tup [V.int (ds.length : Int)])
    have g1 : (upd H q1 (.tup [V.int (ds.length : Int)])) q1 = some (.tup [V.int (ds.length : Int)]) := upd_same
    generalize upd H q1 (.tup [V.int (ds.length : Int)]) = H1 at *
    refine ⟨_, rfl, pa0, _, _, _, rfl, rfl, KT.same r1 _ _ h1, atI_nat (j := 1) rfl, q1, ta, _, _, rfl, rfl, SqT.of g1, KT.same r1 _ _ h4, ?_, fun q2 H2 r2 g2 => ?_⟩
    · rw [List.length_map]; exact Nat.le_of_lt (small1000 (by show 1 + P.2.length ≤ 1000; omega))
    have edu : [V.int (ds.length : Int)] ++ P.2.map natV = (dueL P).map natV := by rw [hdl]; rfl
    rw [edu] at g2
    have s02 := r1.trans r2
    have kt2 : KT K H H2 := KT.same s02
    refine ⟨_, rfl, q2, _, _, _, rfl, rfl, g2, atI_nat (map_at (getD_get 0 (show h < (dueL P).length from hh))), ?_⟩
    refine ⟨_, rfl, pt0, _, _, _, rfl, rfl, kt2 _ _ p1, atI_nat (j := 0) rfl, _, rfl, rfl, _, rfl, ?_⟩
    have edc : decide (natV m.past = natV ((dueL P).getD h 0)) = decide (m.past = (dueL P).getD h 0) := natd
    rw [edc]
    have hple : m.past ≤ (dueL P).getD h 0 := by
      rw [← em]
      by_cases z : 0 < h
      · exact (I.th h z hh).past
      · have : h = 0 := by omega
        subst this
        exact I.own.past
    refine ite2 (fun e => ?_) (fun e => ?_)
    · have e' := of_decide_eq_true e
      refine qn ?_ H2 s02
      unfold hasLeft
      rw [em]
      exact decide_eq_false (by omega)
    have e' : ¬ m.past = (dueL P).getD h 0 := fun z => e (decide_eq_true z)
    have hlt : m.past < (dueL P).getD h 0 := by omega
    have hleft : hasLeft P w h = true := by unfold hasLeft; rw [em]; exact decide_eq_true hlt
    have qs := qs hleft
    unfold moveW at qs
    rw [em, eb] at qs
    obtain ⟨b', m', ebm⟩ : ∃ b' m', moveS P "good" h b m = (b', m') := ⟨_, _, rfl⟩
    rw [ebm] at qs
    refine ⟨fun σ' H3 => ∃ (ba' : Addr) (pv' wv : V), σ' = [some (.ref pa0), some (.str "good"), some (.ref a), some (natV h), some (.int b'.near), some (.int b'.far), some (.ref ba'), some (.ref pa), some pv', some (natV ((dueL P).getD h 0)), some wv] ∧ Same H H3 ∧ SqT K H3 ba' (boxL b') ∧ PartIs K H3 pv' wv m m', ?_, ?_⟩
    · refine ⟨_, rfl, _, _, rfl, rfl, _, rfl, ?_⟩
      refine ite2 (fun c => ?_) (fun c => ?_)
      · have c' : 0 < h := by have := of_decide_eq_true c; omega
        have es : moveS P "good" h b m = tryS "good" b m := by unfold moveS; rw [if_pos c']
        rw [es] at ebm
        have t := I.th h c' hh
        rw [em, eb] at t
        obtain ⟨_, tb, tn, _, _⟩ := try_ok (r := "good") t hlt (by rw [← eb]; exact I.far0) (by rw [← eb]; exact I.far1) (by rw [← eb]; exact I.own.near.2)
        rw [ebm] at tb tn
        refine ⟨_, rfl, _, rfl, _, rfl, _, rfl, _, rfl, ba, _, b, m, _, rfl, kt2 _ _ s2, ⟨pt0, tt0, rfl, kt2 _ _ p1, kt2 _ _ p2⟩, t, fun T1 pv' wv H3 s23 hT1 hpi => ?_⟩
        rw [ebm] at hT1 hpi
        refine ⟨T1, _, rfl, SqT.of hT1, rfl, _, _, rfl, _, _, rfl, _, _, rfl, rfl, ?_⟩
        have ebx : boxL b' = boxL b := by unfold boxL; rw [show b'.boxes = b.boxes from tb]
        refine ⟨ba, pv', wv, ?_, s02.trans s23, by rw [ebx]; exact KT.same s23 _ _ (kt2 _ _ s2), hpi⟩
        rw [show b'.near = b.near from tn]
        rfl
      · have c' : h = 0 := by
          cases h with
          | zero => rfl
          | succ k => exact absurd (decide_eq_true (by show (0 : Int) < ((k + 1 : Nat) : Int); omega)) c
        subst c'
        have es : moveS P "good" 0 b m = ownS P "good" b m := by unfold moveS; rw [if_neg (by omega)]
        rw [es] at ebm
        have hd0 : m.past < P.1.length := hlt
        obtain ⟨d, hd⟩ : ∃ d, P.1[m.past]? = some d := ⟨_, List.getElem?_eq_getElem hd0⟩
        obtain ⟨dv, hdv, ad, rfl, hdd⟩ := pget h3 hd
        have own := I.own
        rw [em, eb] at own
        unfold ownS at ebm
        rw [hd] at ebm
        refine ⟨_, rfl, pa0, _, _, _, rfl, rfl, kt2 _ _ h1, atI_nat (j := 0) rfl, _, rfl, pt0, _, _, _, rfl, rfl, kt2 _ _ p1, atI_nat (j := 0) rfl, da, _, _, _, rfl, rfl, kt2 _ _ h2, atI_nat hdv, ?_⟩
        cases d with
        | take =>
          have ebm : takeS "good" b m = (b', m') := ebm
          refine ⟨ad, _, _, _, rfl, rfl, kt2 _ _ hdd, atI_nat (j := 0) rfl, rfl, _, rfl, ?_⟩
          refine iteT ?_
          have tb : b'.boxes = b.boxes := by
            have : (takeS "good" b m).1.boxes = b.boxes := by
              unfold takeS thirdS fourthS
              repeat' split
              all_goals rfl
            rw [ebm] at this
            exact this
          refine ⟨_, rfl, _, rfl, _, rfl, _, rfl, _, rfl, ba, _, P, b, m, rfl, kt2 _ _ s2, ⟨pt0, tt0, rfl, kt2 _ _ p1, kt2 _ _ p2⟩, own, hd, hbx, fun T1 pv' wv H3 s23 hT1 hpi => ?_⟩
          rw [ebm] at hT1 hpi
          refine ⟨T1, _, rfl, SqT.of hT1, rfl, _, _, rfl, _, _, rfl, _, _, rfl, _, _, rfl, rfl, ?_⟩
          have ebx : boxL b' = boxL b := by unfold boxL; rw [tb]
          exact ⟨ba, pv', wv, rfl, s02.trans s23, by rw [ebx]; exact KT.same s23 _ _ (kt2 _ _ s2), hpi⟩
        | lay i =>
          have ebm : layS i b m = (b', m') := ebm
          refine ⟨ad, _, _, _, rfl, rfl, kt2 _ _ hdd, atI_nat (j := 0) rfl, rfl, _, rfl, ?_⟩
          refine iteF ?_
          refine ⟨_, rfl, pt0, _, _, _, rfl, rfl, kt2 _ _ p1, atI_nat (j := 1) rfl, rfl, _, rfl, ?_⟩
          rw [show decide (natV m.small = V.int 0) = decide (m.small = 0) from natd (k := 0)]
          unfold layS at ebm
          refine ite2 (fun z => ?_) (fun z => ?_)
          · have z' := of_decide_eq_true z
            rw [if_pos z'] at ebm
            cases ebm
            obtain ⟨n0, n1⟩ := own.rest z'
            obtain ⟨k, hk⟩ := Int.eq_ofNat_of_zero_le n0
            have hbl := boxL_len (b := b) (by omega)
            refine ⟨_, rfl, _, rfl, _, rfl, ba, _, rfl, kt2 _ _ s2, fun c1 H3 s3' g3 => ?_⟩
            rw [hk, cut_to (by rw [hbl]; omega)] at g3
            have kt3 : KT K H H3 := KT.same (s02.trans s3')
            refine ⟨_, rfl, pa0, _, _, _, rfl, rfl, kt3 _ _ h1, atI_nat (j := 0) rfl, _, rfl, pt0, _, _, _, rfl, rfl, kt3 _ _ p1, atI_nat (j := 0) rfl, da, _, _, _, rfl, rfl, kt3 _ _ h2, atI_nat hdv, ad, _, _, _, rfl, rfl, kt3 _ _ hdd, atI_nat (j := 1) rfl, (by show 1 ≤ sizeLine; decide), fun c2 e2 => ?_⟩
            have r4 := same_new e2 (.tup [.int i])
            have g4 : (upd H3 c2 (.tup [.int i])) c2 = some (.tup [.int i]) := upd_same
            have g3' := KT.same (K := K) r4 _ _ g3
            generalize upd H3 c2 (.tup [.int i]) = H4 at *
            refine ⟨c1, c2, _, _, rfl, rfl, g3', SqT.of g4, ?_, fun c3 H5 s5 g5 => ?_⟩
            · rw [List.length_take, hbl]; exact Nat.le_of_lt (small1000 (by show min k 8 + 1 ≤ 1000; omega))
            have kt5 : KT K H H5 := KT.same (s02.trans (s3'.trans (r4.trans s5)))
            refine ⟨_, rfl, _, rfl, _, _, rfl, rfl, _, rfl, ba, _, rfl, kt5 _ _ s2, fun c4 H6 s6 g6 => ?_⟩
            rw [hk, show ((k : Int) + 1) = ((k + 1 : Nat) : Int) from rfl, cut_fromN] at g6
            refine ⟨c3, c4, _, _, rfl, rfl, KT.same s6 _ _ g5, g6, ?_, fun c5 H7 s7 g7 => ?_⟩
            · rw [List.length_append, List.length_take, List.length_drop, hbl]; exact Nat.le_of_lt (small1000 (by show min k 8 + 1 + (8 - (k + 1)) ≤ 1000; omega))
            have s07 := s02.trans (s3'.trans (r4.trans (s5.trans (s6.trans s7))))
            have kt7 : KT K H H7 := KT.same s07
            refine ⟨_, rfl, pt0, _, _, _, rfl, rfl, kt7 _ _ p1, atI_nat (j := 0) rfl, (by show 2 ≤ sizeLine; decide), fun c6 e6 => ?_⟩
            have r8 := same_new e6 (.tup [natV m.past, .int 1])
            have g8 : (upd H7 c6 (.tup [natV m.past, .int 1])) c6 = some (.tup [natV m.past, .int 1]) := upd_same
            have g7' := KT.same (K := K) r8 _ _ g7
            have s08 := s07.trans r8
            generalize upd H7 c6 (.tup [natV m.past, .int 1]) = H8 at *
            have kt8 : KT K H H8 := KT.same s08
            refine ⟨_, rfl, _, rfl, pt0, _, rfl, kt8 _ _ p1, fun c7 H9 s9 g9 => ?_⟩
            refine ⟨c6, c7, _, _, rfl, rfl, SqT.of (s9 _ _ g8), g9, (by show 2 + 3 ≤ sizeLine; decide), fun c8 H10 s10 g10 => ?_⟩
            have s010 := s08.trans (s9.trans s10)
            obtain ⟨_, _, _, p4, p5⟩ := putB_len (i := i) n0 n1
            refine ⟨c5, .ref c8, .non, ?_, s010, ?_, .inl ⟨rfl, c8, tt0, rfl, g10, KT.same s010 _ _ p2⟩⟩
            · rw [p4, p5]; rfl
            · have := KT.same (K := K) (s9.trans s10) _ _ g7'
              rw [boxL_put hbx n0 n1, hk, Int.toNat_natCast]
              rw [List.append_assoc] at this
              exact this
          · have z' : ¬ m.small = 0 := fun y => z (decide_eq_true y)
            rw [if_neg z'] at ebm
            cases ebm
            refine ⟨_, rfl, _, _, rfl, rfl, (by show 0 ≤ sizeLine; decide), fun c1 e1' => ?_⟩
            have r3 := same_new e1' (.tup [])
            exact ⟨ba, _, _, rfl, s02.trans r3, KT.same r3 _ _ (kt2 _ _ s2), .inr ⟨c1, [], rfl, SqT.of upd_same, ⟨pt0, tt0, rfl, KT.same r3 _ _ (kt2 _ _ p1), KT.same r3 _ _ (kt2 _ _ p2)⟩, by rw [List.append_nil]; rfl⟩⟩
    rintro σ' H3 ⟨ba', pv', wv, rfl, s03, hba', hpi⟩
    refine ⟨fun σ' H4 => ∃ (pv2 wv' : V), σ' = [some (.ref pa0), some (.str "good"), some (.ref a), some (natV h), some (.int b'.near), some (.int b'.far), some (.ref ba'), some (.ref pa), some pv2, some (natV ((dueL P).getD h 0)), some wv'] ∧ Same H3 H4 ∧ IsPart K H4 pv2 m', ?_, ?_⟩
    · refine ⟨_, rfl, rfl, _, rfl, ?_⟩
      rcases hpi with ⟨rfl, hpt⟩ | ⟨ga, gs, rfl, hga, ⟨pt1, tt1, rfl, y1, y2⟩, emm⟩
      · refine iteF ?_
        exact ⟨pv', _, rfl, Same.refl _, hpt⟩
      · refine iteT ?_
        have hgl : m.told.length + gs.length ≤ 10 := by
          have I' := I.move (r := "good") hh hleft
          have emv : mvAt (moveW P "good" w h) h = m' := by unfold moveW; rw [mvAt_to hlen, if_pos rfl, em, eb, ebm]
          have h6 := due_small ok h
          have ht : m'.told.length ≤ m'.past := by
            rw [← emv]
            by_cases z : 0 < h
            · exact (I'.th h z hh).told
            · have z0 : h = 0 := by omega
              subst z0
              exact I'.own.told
          rw [emm] at ht
          have ht' : (m.told ++ gs).length ≤ m.past + 1 := ht
          rw [List.length_append] at ht'
          omega
        refine ⟨_, rfl, pt1, _, _, _, rfl, rfl, y1, atI_nat (j := 0) rfl, _, _, rfl, rfl, _, rfl, pt1, _, _, _, rfl, rfl, y1, atI_nat (j := 4) rfl, _, rfl, tt1, ga, _, _, rfl, rfl, y2, hga, ?_, fun c1 H4 s4' g4 => ?_⟩
        · rw [List.length_map, List.length_map]; exact Nat.le_of_lt (small1000 (by omega))
        refine ⟨(by show 5 ≤ sizeLine; decide), fun c2 e2 => ?_⟩
        have r5 := same_new e2 (.tup [natV (m.past + 1), .int 0, .int 0, .non, .ref c1])
        refine ⟨.ref c2, _, rfl, s4'.trans r5, c2, c1, rfl, ?_, ?_⟩
        · rw [emm]; exact SqT.of upd_same
        · rw [emm, List.map_append]; exact KT.same r5 _ _ g4
    rintro σ' H4 ⟨pv2, wv', rfl, s34, hpt2⟩
    have kt4 : KT K H H4 := KT.same (s03.trans s34)
    refine ⟨_, rfl, _, rfl, _, rfl, _, rfl, _, rfl, _, rfl, pa, _, rfl, kt4 _ _ s3, fun c1 H5 s5 g5 => ?_⟩
    rw [cut_to (by omega)] at g5
    refine ⟨_, rfl, (by show 1 ≤ sizeLine; decide), fun c2 e2 => ?_⟩
    have r6 := same_new e2 (.tup [pv2])
    have g6 : (upd H5 c2 (.tup [pv2])) c2 = some (.tup [pv2]) := upd_same
    have g5' := KT.same (K := K) r6 _ _ g5
    have s06 := s03.trans (s34.trans (s5.trans r6))
    have s36 := s34.trans (s5.trans r6)
    have s46 := s5.trans r6
    generalize upd H5 c2 (.tup [pv2]) = H6 at *
    refine ⟨c1, c2, _, _, rfl, rfl, g5', SqT.of g6, ?_, fun c3 H7 s7 g7 => ?_⟩
    · rw [List.length_take]; exact Nat.le_of_lt (small1000 (by show min h ps.length + 1 ≤ 1000; omega))
    have kt7 : KT K H H7 := KT.same (s06.trans s7)
    refine ⟨_, rfl, _, rfl, _, _, rfl, rfl, _, rfl, pa, _, rfl, kt7 _ _ s3, fun c4 H8 s8 g8 => ?_⟩
    rw [show ((h : Int) + 1) = ((h + 1 : Nat) : Int) from rfl, cut_fromN] at g8
    refine ⟨c3, c4, _, _, rfl, rfl, KT.same s8 _ _ g7, g8, ?_, fun c5 H9 s9 g9 => ?_⟩
    · rw [List.length_append, List.length_take, List.length_drop]; exact Nat.le_of_lt (small1000 (by show min h ps.length + 1 + (ps.length - (h + 1)) ≤ 1000; omega))
    refine ⟨(by show 4 ≤ sizeLine; decide), fun T1 eT => ?_⟩
    have r10 := same_new eT (.tup [.int b'.near, .int b'.far, .ref ba', .ref c5])
    have s610 := s7.trans (s8.trans (s9.trans r10))
    have kt10 : KT K H (upd H9 T1 (.tup [.int b'.near, .int b'.far, .ref ba', .ref c5])) := KT.same (s06.trans s610)
    refine qs _ _ (s06.trans s610) ⟨T1, ba', c5, ps.set h pv2, rfl, SqT.of upd_same, KT.same (s36.trans s610) _ _ hba', ?_, ?_⟩
    · rw [← set_getP (by omega) pv2]
      exact KT.same r10 _ _ g9
    · exact pset (hpt2.kt (KT.same (s46.trans s610))) h (ppart kt10 s4)
end
end Far
set_option Elab.async false
set_option linter.all false
set_option maxRecDepth 100000
set_option maxHeartbeats 4000000
set_option pp.maxSteps 500
namespace Far
open PySem L2
def refV : Option Nat → V
  | none => .non
  | some i => .int (i : Int)
def spLDue (K : PySem.W.Frag) : Sp := fun vs H Q _ => ∃ (pv : V) (P : Play) (wa : Addr) (us : List V), vs = [pv, .ref wa] ∧ IsPlay K H pv P ∧ PlayOk P ∧ SqT K H wa us ∧ us.length ≤ 100 ∧ (∀ u ∈ us, ∃ b, (b = false → ∀ i, u ≠ .int i) ∧ ∀ H', Same H H' → WholeIs K H' u b) ∧
  ∀ H', Same H H' → Q (refV (walkF P (walk0 P) us 0)) H'
section
variable {P : Program} {w : World} {K : PySem.W.Frag} {mg : Str → Option Value} {base : Heap} {C : Addr}
abbrev n_lDue : List Str := ["play", "weaving", "state", "number", "who"]
theorem sc_lDue : FnScope n_lDue ["play", "weaving"] (defScope sLDue) := ⟨rfl, rfl, rfl, by decide +kernel, rfl, by decide +kernel, by decide +kernel⟩
theorem ok_lDue {f : Addr} {fd : FuncData} (F : Fun K "_law_due" "_law_due" sLDue f fd) (T : TxtW K mg C)
    {f__law_first : Addr} {d__law_first : FuncData} (G__law_first : FnOk P w K mg base CX0 1 f__law_first d__law_first ["play"] (spLFirst K)) (b__law_first : Binds K d__law_first ["play"] []) (k__law_first : PySem.W.keepIn K (.ref f__law_first) = true) (m__law_first : mg "_law_first" = some (.ref f__law_first))
    {f__law_small_step : Addr} {d__law_small_step : FuncData} (G__law_small_step : FnOk P w K mg base CX0 2 f__law_small_step d__law_small_step ["play", "rules", "state", "who"] (spLStep K)) (b__law_small_step : Binds K d__law_small_step ["play", "rules", "state", "who"] []) (k__law_small_step : PySem.W.keepIn K (.ref f__law_small_step) = true) (m__law_small_step : mg "_law_small_step" = some (.ref f__law_small_step)) :
    FnOk P w K mg base CX0 3 f fd ["play", "weaving"] (spLDue K) := by
  refine F.ok sc_lDue (fun vs H Q E h => ?_) (fun cdv Ar outer s H vs Q E hr h => ?_)
  · obtain ⟨pv, P, wa, us, rfl, _⟩ := h
    rfl
  · obtain ⟨pvv, P, wa, us, rfl, hP, ok, hwa, hlen, hwh, q⟩ := h
    refine ⟨_, pss_cons (ps_set (i := 2) sc_lDue.nd rfl (Or.inl rfl) (pe_call G__law_first (hr.mono (by decide)) rfl m__law_first k__law_first b__law_first .nil pass0 (pa_cons (pv 0) pa_nil))) (pss_cons (ps_for PassesOwn.never rfl (pi_enumT rfl T.enumerate (pa_cons (pv 1) pa_nil)) (pg_tup rfl (pgs_cons (pg_name (i := 3) sc_lDue.nd rfl (Or.inl rfl)) (pgs_cons (pg_name (i := 4) sc_lDue.nd rfl (Or.inl rfl)) pgs_nil))) (pss_cons (ps_if (PW.pt (pw_or (pt_not (pt_val (pe_callB (cr_isE (T := "int")) rfl T.isinstance (by decide +kernel) (pa_cons (pv 4) (pa_cons (pe_bltn (v := .ty "int") rfl T.int (by decide +kernel) rfl) pa_nil))))) (pw_or (pt_val (pe_callB (cr_isE (T := "bool")) rfl T.isinstance (by decide +kernel) (pa_cons (pv 4) (pa_cons (pe_bltn (v := .ty "bool") rfl T.bool (by decide +kernel) rfl) pa_nil)))) (pw_or1 (pt_not (pt_chain op_le op_le (pe_int) (pv 4) (pe_callB call_len_seq rfl T.len PySem.boot_len (pa_cons (pe_ix ix_tup (pv 0) (pe_int) (fun _ _ => rfl)) pa_nil)))))))) (pss_one (ps_ret (pv 3))) pss_nil) (pss_cons (ps_set (i := 2) sc_lDue.nd rfl (Or.inl rfl) (pe_call G__law_small_step (hr.mono (by decide)) rfl m__law_small_step k__law_small_step b__law_small_step .nil pass0 (pa_cons (pv 0) (pa_cons (pe_str) (pa_cons (pv 2) (pa_cons (pv 4) pa_nil)))))) (pss_one (ps_if (pt_cmpR op_isN (pv 2) (pe_non) (nomark _)) (pss_one (ps_ret (pv 3))) pss_nil))))) (pss_one (ps_ret (pe_non)))), ?_⟩
    have ot := ok.t
    have hn3 : nW P ≤ 3 := by unfold nW; omega
    obtain ⟨pa, da, ta, dvs, rfl, h1, h2, h3, h4⟩ := id hP
    refine ⟨_, rfl, _, P, rfl, hP, by omega, fun sv0 H1 s1 hs0 => ?_⟩
    refine ⟨_, rfl, wa, _, rfl, KT.same s1 _ _ hwa, ?_⟩
    refine for_enumT (K := K) (a := wa) (xs := us) (fun i σ H3 => ∃ (sv : V) (v3 v4 : Option V) (wk : Wlk), σ = [some (.ref pa), some (.ref wa), some sv, v3, v4] ∧ Same H H3 ∧ IsLS K H3 sv wk ∧ SInv P wk ∧ walkF P (walk0 P) us 0 = walkF P wk (us.drop i) i)
      ⟨sv0, none, none, _, rfl, s1, hs0, SInv.start P, rfl⟩ (fun i σ H3 _ ⟨_, _, _, _, _, s3, _⟩ => KT.same s3 _ _ hwa) ?_ ?_
    · rintro i y T1 σ H3 hy ⟨sv, v3, v4, wk, rfl, s3, A3, I3, e1⟩ hT1
      have hil := (List.getElem?_eq_some_iff.mp hy).1
      have hdr : us.drop i = y :: us.drop (i + 1) := by
        rw [List.drop_eq_getElem_cons hil]
        congr 1
        exact Option.some.inj ((List.getElem?_eq_getElem hil).symm.trans hy)
      rw [hdr] at e1
      have s4 := same_new hT1 (.tup [V.int ((i : Nat) : Int), y])
      have hT4 : (upd H3 T1 (.tup [V.int ((i : Nat) : Int), y])) T1 = some (.tup [V.int ((i : Nat) : Int), y]) := upd_same
      have A4 := A3.same s4
      have s34 := s3.trans s4
      generalize upd H3 T1 (.tup [V.int ((i : Nat) : Int), y]) = H4 at *
      refine ⟨T1, _, rfl, SqT.of hT4, rfl, _, _, rfl, _, _, rfl, rfl, ?_⟩
      obtain ⟨b, hbn, hb⟩ := hwh y (List.mem_of_getElem? hy)
      obtain ⟨t, bi, bb, ty, k1, k2, hbb, hi⟩ := hb H4 s34
      have out : leftB P wk y = false → ∀ H', Same H H' → Q (V.int ((i : Nat) : Int)) H' := fun el => by
        rw [show walkF P wk (y :: us.drop (i + 1)) i = some i by unfold walkF; rw [el]; rfl] at e1
        rw [e1] at q
        exact q
      have nl : b = false → leftB P wk y = false := fun z => by
        cases y with
        | int j => exact absurd rfl (hbn z j)
        | _ => rfl
      have kt4 : KT K H H4 := KT.same s34
      refine ⟨_, rfl, _, t, bi, rfl, ty, k1, _, rfl, ?_⟩
      cases bi with
      | false => exact iteT (iteT ⟨_, rfl, out (nl hbb) H4 s34⟩)
      | true =>
        refine iteF ?_
        refine ⟨_, rfl, _, t, bb, rfl, ty, k2 rfl, _, rfl, ?_⟩
        cases bb with
        | true => exact iteT (iteT ⟨_, rfl, out (nl hbb) H4 s34⟩)
        | false =>
          refine iteF ?_
          obtain ⟨j, rfl⟩ := hi hbb
          refine ⟨_, rfl, _, _, rfl, rfl, _, rfl, ?_⟩
          cases e0 : decide ((0 : Int) ≤ j) with
          | false =>
            refine iteF ⟨_, rfl, ?_⟩
            refine iteT ⟨_, rfl, out ?_ H4 s34⟩
            show ((decide ((0 : Int) ≤ j) && decide (j < (nW P : Int))) && hasLeft P wk j.toNat) = false
            rw [e0]; rfl
          | true =>
            refine iteT ?_
            refine ⟨_, rfl, pa, _, _, _, rfl, rfl, kt4 _ _ h1, atI_nat (j := 1) rfl, ta, _, rfl, .inr (kt4 _ _ h4), _, _, rfl, rfl, _, rfl, ?_⟩
            rw [List.length_map]
            have eW : decide (j ≤ ((P.2.length : Nat) : Int)) = decide (j < (nW P : Int)) := by
              unfold nW
              by_cases z : j ≤ ((P.2.length : Nat) : Int)
              · rw [decide_eq_true z, decide_eq_true (by omega)]
              · rw [decide_eq_false z, decide_eq_false (by omega)]
            rw [eW]
            cases e2 : decide (j < (nW P : Int)) with
            | false =>
              refine iteT ⟨_, rfl, out ?_ H4 s34⟩
              show ((decide ((0 : Int) ≤ j) && decide (j < (nW P : Int))) && hasLeft P wk j.toNat) = false
              rw [e2, Bool.and_false]; rfl
            | true =>
              refine iteF ?_
              obtain ⟨h, rfl⟩ := Int.eq_ofNat_of_zero_le (of_decide_eq_true e0)
              have hhn : h < nW P := by have := of_decide_eq_true e2; omega
              have hlf : leftB P wk (V.int (h : Int)) = hasLeft P wk h := by
                show ((decide ((0 : Int) ≤ (h : Int)) && decide ((h : Int) < (nW P : Int))) && hasLeft P wk ((h : Nat) : Int).toNat) = _
                rw [e0, e2, Int.toNat_natCast]; rfl
              refine ⟨_, rfl, _, rfl, _, rfl, _, _, P, _, h, rfl, hP.kt kt4, ok, A4, I3, hhn, fun hl H5 s5 => ?_, fun hl v H5 s5 q5 => ?_⟩
              · refine ⟨_, rfl, rfl, _, rfl, ?_⟩
                refine iteT ⟨_, rfl, out (by rw [hlf]; exact hl) H5 (s34.trans s5)⟩
              · obtain ⟨va, _, _, _, rfl, _⟩ := id q5
                refine ⟨_, rfl, rfl, _, rfl, ?_⟩
                refine iteF ?_
                refine ⟨_, _, _, moveW P "good" wk h, rfl, s34.trans s5, q5, I3.move hhn hl, ?_⟩
                rw [e1]
                show (if leftB P wk (V.int (h : Int)) = true then walkF P (moveW P "good" wk ((h : Int).toNat)) _ (i + 1) else some i) = _
                rw [if_pos (hlf.trans hl), Int.toNat_natCast]
    · rintro σ H3 ⟨sv, v3, v4, wk, rfl, s3, A3, I3, e1⟩
      rw [List.drop_length] at e1
      have e0 : walkF P (walk0 P) us 0 = none := e1
      rw [e0] at q
      exact q H3 s3
end
end Far
set_option Elab.async false
set_option linter.all false
set_option maxRecDepth 100000
set_option maxHeartbeats 4000000
namespace Far
open PySem L2
def spLRefused (K : PySem.W.Frag) : Sp := fun vs H Q _ => ∃ (pv : V) (P : Play) (wa : Addr) (us : List V), vs = [pv, .ref wa] ∧ IsPlay K H pv P ∧ PlayOk P ∧ SqT K H wa us ∧ us.length ≤ 100 ∧ (∀ u ∈ us, ∃ b, (b = false → ∀ i, u ≠ .int i) ∧ ∀ H', Same H H' → WholeIs K H' u b) ∧
  ∀ H', Same H H' → Q (refV (walkF P (walk0 P) us 0)) H'
abbrev n_lRefused : List Str := ["play", "weaving", "caught", "e", "others"]
theorem sc_lRefused : FnScope n_lRefused ["play", "weaving"] (defScope sLRefused) := ⟨rfl, rfl, rfl, by decide +kernel, rfl, by decide +kernel, by decide +kernel⟩
structure XN (K : PySem.W.Frag) (CN : Addr) (cs : List Addr) : Prop where
  xi : XI2 K CN
  xo : XO K CN
  na : NoAttr K CN "place"
  no : PySem.W.kitAny K (.ref CN) (cs.map Value.ref) = some false
  me : PySem.W.kitOne K (.ref CN) (.ref CN) = some true
  ve : PySem.W.kitOne K (.ref CN) (.type "ValueError") = some true
section
variable {P : Program} {w : World} {K : PySem.W.Frag} {mg : Str → Option Value} {base : Heap} {C : Addr}
theorem ok_lRefused {f : Addr} {fd : FuncData} (F : Fun K "_law_refused" "_law_refused" sLRefused f fd) (T : TxtW K mg C) {CN CF c1 c2 c3 c4 c5 c6 c7 : Addr} (xF : XC K CF) (sN : subIn K CN CF = true) (xN : XN K CN [c1, c2, c3, c4, c5, c6, c7])
    (mF : mg "FarError" = some (.ref CF)) (mN : mg "NoTurn" = some (.ref CN)) (mV : mg "ValueError" = none) (m1 : mg "NoBack" = some (.ref c1)) (m2 : mg "NoJob" = some (.ref c2)) (m3 : mg "NoLine" = some (.ref c3)) (m4 : mg "NoOrder" = some (.ref c4)) (m5 : mg "NoSize" = some (.ref c5)) (m6 : mg "NoText" = some (.ref c6)) (m7 : mg "NoYard" = some (.ref c7))
    {f_walked : Addr} {d_walked : FuncData} (G_walked : FnOk P w K mg base (CX2 P w) 6 f_walked d_walked ["play", "weaving"] (spWalkedE K CN)) (b_walked : Binds K d_walked ["play", "weaving"] []) (k_walked : PySem.W.keepIn K (.ref f_walked) = true) (m_walked : mg "walked" = some (.ref f_walked)) :
    FnOk P w K mg base CX0 7 f fd ["play", "weaving"] (spLRefused K) := by
  refine F.ok sc_lRefused (fun vs H Q E h => ?_) (fun cdv Ar outer s H vs Q E hr h => ?_)
  · obtain ⟨pv, P, wa, us, rfl, _⟩ := h
    rfl
  · obtain ⟨pvv, P, wa, us, rfl, hP, ok, hwa, hlen, hwh, q⟩ := h
    refine ⟨_, pss_cons (ps_set (i := 2) sc_lRefused.nd rfl (Or.inl rfl) pe_non) (pss_cons (ps_tryD rfl rfl xF rfl mF sc_lRefused.nd (i := 3) rfl rfl
      (fun pn xe E hx => pss_one (ps_expr (pe_callS G_walked (hr.mono (by decide)) rfl m_walked k_walked b_walked .nil hx (pa_cons (pv 0) (pa_cons (pv 1) pa_nil)))))
      (fun A' xe => pss_one (ps_set (i := 2) sc_lRefused.nd rfl (Or.inl rfl) (pv 3))))
      (pss_cons (ps_if (pt_cmpR op_isN (pv 2) pe_non (nomark _)) (pss_one (ps_ret pe_non)) pss_nil)
      (pss_cons (ps_set (i := 4) sc_lRefused.nd rfl (Or.inl rfl) (pe_callB cr_isCT rfl T.isinstance (by decide +kernel) (pa_cons (pv 2) (pa_cons (pe_tup (pa_cons (pe_glob (v := .ref c1) rfl m1 rfl) (pa_cons (pe_glob (v := .ref c2) rfl m2 rfl) (pa_cons (pe_glob (v := .ref c3) rfl m3 rfl) (pa_cons (pe_glob (v := .ref c4) rfl m4 rfl) (pa_cons (pe_glob (v := .ref c5) rfl m5 rfl) (pa_cons (pe_glob (v := .ref c6) rfl m6 rfl) (pa_cons (pe_glob (v := .ref c7) rfl m7 rfl) pa_nil)))))))) pa_nil))))
      (pss_cons (ps_if (PW.pt (pw_or (pt_val (pv 4)) (pw_or (pt_not (pt_val (pe_callB cr_isC rfl T.isinstance (by decide +kernel) (pa_cons (pv 2) (pa_cons (pe_glob (v := .ref CN) rfl mN rfl) pa_nil))))) (pw_or1 (pt_not (pt_val (pe_callB cr_isC rfl T.isinstance (by decide +kernel) (pa_cons (pv 2) (pa_cons (pe_bltn (v := .ty "ValueError") rfl mV (by decide +kernel) rfl) pa_nil))))))))) (pss_one (ps_ret pe_str)) pss_nil)
      (pss_one (ps_ret (pe_xfld (pv 2) rfl))))))), ?_⟩
    refine ⟨_, rfl, _, rfl, pvv, P, wa, us, rfl, hP, ok, hwa, hlen, hwh, fun e0 T1 L1 L2 rows H1 _ _ _ s1 _ _ _ _ => ?_, fun i e0 dx H1 s1 nd hx => ?_⟩
    · rw [e0] at q
      refine ⟨_, rfl, rfl, _, rfl, ?_⟩
      exact iteT (q H1 s1)
    · rw [e0] at q
      refine ⟨CN, rfl, xN.xi.xk, sN, fun a na => ?_⟩
      have nda : dx ≠ a := fun z => by rw [← z, hx] at na; cases na
      refine ⟨_, rfl, ?_⟩
      have s2 : Same H (upd H1 a (.ext (XCau CN a (some dx)))) := fun c o e => by
        have := s1 c o e
        rw [upd_ne fun z => by rw [z, na] at this; cases this]; exact this
      have ha : (upd H1 a (.ext (XCau CN a (some dx)))) a = some (.ext (XCau CN a (some dx))) := upd_same
      have hd : (upd H1 a (.ext (XCau CN a (some dx)))) dx = some (.xd [("place", .int (i : Int))]) := by rw [upd_ne nda]; exact hx
      generalize upd H1 a (.ext (XCau CN a (some dx))) = H2 at *
      refine ⟨_, rfl, rfl, _, rfl, ?_⟩
      refine iteF ?_
      refine ⟨_, rfl, (by show 7 ≤ sizeLine; decide), fun tp etp => ?_⟩
      have t3 := same_new etp (.tup [.ref c1, .ref c2, .ref c3, .ref c4, .ref c5, .ref c6, .ref c7])
      have g3 : (upd H2 tp (.tup [.ref c1, .ref c2, .ref c3, .ref c4, .ref c5, .ref c6, .ref c7])) tp = some (.tup [.ref c1, .ref c2, .ref c3, .ref c4, .ref c5, .ref c6, .ref c7]) := upd_same
      have ha3 := t3 _ _ ha
      have hd3 := t3 _ _ hd
      have s3 := s2.trans t3
      generalize upd H2 tp (.tup [.ref c1, .ref c2, .ref c3, .ref c4, .ref c5, .ref c6, .ref c7]) = H3 at *
      refine ⟨a, CN, tp, some dx, _, _, false, rfl, ha3, xN.xi, SqT.of g3, rfl, xN.no, ?_⟩
      refine ⟨_, rfl, _, rfl, ?_⟩
      refine iteF ?_
      refine ⟨_, rfl, a, CN, some dx, _, _, true, rfl, ha3, xN.xi, rfl, xN.me, _, rfl, ?_⟩
      refine iteF ?_
      refine ⟨_, rfl, a, CN, some dx, _, _, true, rfl, ha3, xN.xi, rfl, xN.ve, _, rfl, ?_⟩
      refine iteF ?_
      exact ⟨_, rfl, a, CN, dx, _, _, rfl, ha3, hd3, xN.xo, xN.na, lk_eq, q H3 s3⟩
end
end Far
set_option Elab.async false
set_option linter.all false
set_option maxRecDepth 100000
set_option maxHeartbeats 4000000
set_option pp.maxSteps 500
namespace Far
open PySem L2
section
variable {P : Program} {w : World} {K : PySem.W.Frag} {mg : Str → Option Value} {base : Heap} {C : Addr}
abbrev n_mix : List Str := ["cell", "k", "prime", "one"]
theorem sc_mix : FnScope n_mix ["cell", "k"] (defScope sMix) := ⟨rfl, rfl, rfl, by decide +kernel, rfl, by decide +kernel, by decide +kernel⟩
theorem ok_mix {f : Addr} {fd : FuncData} (F : Fun K "_law_mix" "_law_mix" sMix f fd) (T : TxtW K mg C) :
    FnOk P w K mg base CX0 1 f fd ["cell", "k"] spMix := by
  refine F.ok sc_mix (fun vs H Q E h => ?_) (fun cdv Ar outer s H vs Q E hr h => ?_)
  · obtain ⟨c, k, rfl, _⟩ := h
    rfl
  · obtain ⟨c, k, rfl, k0, k1, q⟩ := h
    refine ⟨_, pss_cons (ps_set (i := 2) sc_mix.nd rfl (Or.inl rfl) (pe_ix ix_list (pe_lst (pa_cons (pe_int) (pa_cons (pe_int) (pa_cons (pe_int) (pa_cons (pe_int) (pa_cons (pe_int) (pa_cons (pe_int) (pa_cons (pe_int) pa_nil)))))))) (pe_op op_mod (pv 1) (pe_int)) (fun _ _ => rfl))) (pss_cons (ps_set (i := 3) sc_mix.nd rfl (Or.inl rfl) (pe_op op_mod (pe_op op_mul (pe_op op_add (pe_op op_mod (pv 0) (pe_int)) (pe_op op_mul (pe_int) (pe_op op_add (pv 1) (pe_int)))) (pe_op op_add (pe_op op_add (pe_op op_mul (pv 1) (pv 1)) (pe_op op_mul (pe_int) (pv 1))) (pe_int))) (pv 2))) (pss_cons (ps_set (i := 3) sc_mix.nd rfl (Or.inl rfl) (pe_op op_mod (pe_op op_pow (pv 3) (pe_int)) (pe_int))) (pss_cons (ps_set (i := 3) sc_mix.nd rfl (Or.inl rfl) (pe_op op_mod (pe_op op_add (pe_op op_add (pe_op op_mul (pv 3) (pe_int)) (pe_op op_mul (pe_int) (pv 1))) (pe_int)) (pv 2))) (pss_one (ps_ret (pe_op op_fdiv (pe_op op_mod (pe_op op_pow (pv 3) (pe_int)) (pe_int)) (pe_int))))))), ?_⟩
    refine ⟨(by show 7 ≤ sizeLine; decide), fun L eL => ?_⟩
    have s1 := same_new eL (.lst [.int 2147483647, .int 2147483629, .int 2147483587, .int 2147483579, .int 2147483563, .int 2147483549, .int 2147483543])
    have hL : (upd H L (.lst [.int 2147483647, .int 2147483629, .int 2147483587, .int 2147483579, .int 2147483563, .int 2147483549, .int 2147483543])) L = some (.lst [.int 2147483647, .int 2147483629, .int 2147483587, .int 2147483579, .int 2147483563, .int 2147483549, .int 2147483543]) := upd_same
    generalize upd H L (.lst [.int 2147483647, .int 2147483629, .int 2147483587, .int 2147483579, .int 2147483563, .int 2147483549, .int 2147483543]) = H1 at *
    have m0 := Int.emod_nonneg k (show (7 : Int) ≠ 0 by decide)
    have m1 := Int.emod_lt_of_pos k (show (0 : Int) < 7 by decide)
    obtain ⟨y, hy, hy'⟩ := at_int (xs := [V.int 2147483647, .int 2147483629, .int 2147483587, .int 2147483579, .int 2147483563, .int 2147483549, .int 2147483543]) m0 (by show k % 7 < 7; exact m1)
    obtain ⟨p, rfl, p0, p1⟩ : ∃ p : Int, y = .int p ∧ 2147483543 ≤ p ∧ p ≤ 2147483647 := by
      have hm := List.mem_of_getElem? hy
      simp only [List.mem_cons, List.not_mem_nil, or_false] at hm
      rcases hm with e | e | e | e | e | e | e <;> exact ⟨_, e, by decide, by decide⟩
    refine ⟨_, rfl, _, _, rfl, rfl, (by show (0 : Int) < 7; decide), L, _, _, _, rfl, rfl, SqL.of hL, hy', ?_⟩
    have c0 := Int.emod_nonneg c (show (998244353 : Int) ≠ 0 by decide)
    have c1 := Int.emod_lt_of_pos c (show (0 : Int) < 998244353 by decide)
    refine ⟨_, rfl, _, _, rfl, rfl, (by show (0 : Int) < 998244353; decide), _, rfl, _, _, rfl, rfl, _, _, rfl, rfl, .inl ⟨by decide, by decide⟩, _, _, rfl, rfl, _, rfl, _, rfl, _, _, rfl, rfl, .inl ⟨by omega, by omega⟩, _, rfl, _, _, rfl, rfl, .inl ⟨by decide, by decide⟩, _, _, rfl, rfl, _, _, rfl, rfl, _, _, rfl, rfl, .inl ⟨by omega, by omega⟩, _, rfl, _, _, rfl, rfl, by omega, ?_⟩
    obtain ⟨o1, ho1⟩ : ∃ o1, ((c % 998244353 + 104729 * (k + 1)) * (k * k + 7 * k + 13)) % p = o1 := ⟨_, rfl⟩
    have o10 := Int.emod_nonneg ((c % 998244353 + 104729 * (k + 1)) * (k * k + 7 * k + 13)) (show p ≠ 0 by omega)
    have o11 := Int.emod_lt_of_pos ((c % 998244353 + 104729 * (k + 1)) * (k * k + 7 * k + 13)) (show 0 < p by omega)
    rw [ho1] at o10 o11
    rw [show (fun i j : Int => V.int (i % j)) ((c % 998244353 + 104729 * (k + 1)) * (k * k + 7 * k + 13)) p = V.int o1 from congrArg V.int ho1]
    refine ⟨_, rfl, _, _, rfl, rfl, ⟨by decide, by decide, by omega⟩, _, _, rfl, rfl, (by show (0 : Int) < 1000000007; decide), ?_⟩
    have o20 := Int.emod_nonneg (o1 ^ (5 : Int).toNat) (show (1000000007 : Int) ≠ 0 by decide)
    have o21 := Int.emod_lt_of_pos (o1 ^ (5 : Int).toNat) (show (0 : Int) < 1000000007 by decide)
    obtain ⟨o2, ho2⟩ : ∃ o2, (o1 ^ (5 : Int).toNat) % 1000000007 = o2 := ⟨_, rfl⟩
    rw [ho2] at o20 o21
    rw [show (fun i j : Int => V.int (i % j)) (o1 ^ (5 : Int).toNat) 1000000007 = V.int o2 from congrArg V.int ho2]
    refine ⟨_, rfl, _, _, rfl, rfl, .inr ⟨by decide, by decide⟩, _, rfl, _, _, rfl, rfl, .inl ⟨by decide, by decide⟩, _, _, rfl, rfl, _, _, rfl, rfl, _, rfl, _, _, rfl, rfl, by omega, ?_⟩
    have o30 := Int.emod_nonneg (o2 * 48271 + 31 * k + 5) (show p ≠ 0 by omega)
    have o31 := Int.emod_lt_of_pos (o2 * 48271 + 31 * k + 5) (show 0 < p by omega)
    obtain ⟨o3, ho3⟩ : ∃ o3, (o2 * 48271 + 31 * k + 5) % p = o3 := ⟨_, rfl⟩
    rw [ho3] at o30 o31
    rw [show (fun i j : Int => V.int (i % j)) (o2 * 48271 + 31 * k + 5) p = V.int o3 from congrArg V.int ho3]
    refine ⟨_, rfl, _, _, rfl, rfl, ⟨by decide, by decide, by omega⟩, _, _, rfl, rfl, (by show (0 : Int) < 998244353; decide), _, _, rfl, rfl, ⟨by decide, by decide⟩, ?_⟩
    have o40 := Int.emod_nonneg (o3 ^ (3 : Int).toNat) (show (998244353 : Int) ≠ 0 by decide)
    have o41 := Int.emod_lt_of_pos (o3 ^ (3 : Int).toNat) (show (0 : Int) < 998244353 by decide)
    exact q _ H1 s1 ⟨by show 0 ≤ (o3 ^ (3 : Int).toNat) % 998244353 / 8; omega, by show (o3 ^ (3 : Int).toNat) % 998244353 / 8 < _; omega⟩
abbrev n_digits : List Str := ["cell", "many", "found", "left_over", "wide", "k"]
theorem sc_digits : FnScope n_digits ["cell", "many"] (defScope sDigits) := ⟨rfl, rfl, rfl, by decide +kernel, rfl, by decide +kernel, by decide +kernel⟩
theorem ok_digits {f : Addr} {fd : FuncData} (F : Fun K "_law_digits" "_law_digits" sDigits f fd) (T : TxtW K mg C)
    {f__law_mix : Addr} {d__law_mix : FuncData} (G__law_mix : FnOk P w K mg base CX0 1 f__law_mix d__law_mix ["cell", "k"] spMix) (b__law_mix : Binds K d__law_mix ["cell", "k"] []) (k__law_mix : PySem.W.keepIn K (.ref f__law_mix) = true) (m__law_mix : mg "_law_mix" = some (.ref f__law_mix)) :
    FnOk P w K mg base CX0 2 f fd ["cell", "many"] spDigits := by
  refine F.ok sc_digits (fun vs H Q E h => ?_) (fun cdv Ar outer s H vs Q E hr h => ?_)
  · obtain ⟨c, m, rfl, _⟩ := h
    rfl
  · obtain ⟨c, m, rfl, hm, q⟩ := h
    refine ⟨_, pss_cons (ps_set (i := 2) sc_digits.nd rfl (Or.inl rfl) (pe_lst (pa_nil))) (pss_cons (ps_set (i := 3) sc_digits.nd rfl (Or.inl rfl) (pe_callB call_abs rfl T.abs (by decide +kernel) (pa_cons (pv 0) pa_nil))) (pss_cons (ps_set (i := 4) sc_digits.nd rfl (Or.inl rfl) (pe_cmpR op_ge (pv 3) (pe_op op_pow (pe_int) (pe_int)) (nomark _))) (pss_cons (ps_for PassesOwn.never rfl (pi_range1 rfl T.range (pa_cons (pv 1) pa_nil)) (pg_name (i := 5) sc_digits.nd rfl (Or.inl rfl)) (pss_one (ps_if (PW.pt (pw_and (pt_val (pv 4)) (pw_and1 (pt_cmpR op_gt (pv 3) (pe_int) (nomark _))))) (pss_cons (ps_expr (pe_bm PySem.F.plainAttrs_list PySem.F.slot_list_append PySem.F.type_list_append mt_append (pv 2) (pa_cons (pe_op op_mod (pv 3) (pe_int)) pa_nil))) (pss_one (ps_set (i := 3) sc_digits.nd rfl (Or.inl rfl) (pe_op op_fdiv (pv 3) (pe_int))))) (pss_one (ps_expr (pe_bm PySem.F.plainAttrs_list PySem.F.slot_list_append PySem.F.type_list_append mt_append (pv 2) (pa_cons (pe_call G__law_mix (hr.mono (by decide)) rfl m__law_mix k__law_mix b__law_mix .nil pass0 (pa_cons (pv 0) (pa_cons (pv 5) pa_nil))) pa_nil))))))) (pss_one (ps_ret (pv 2)))))), ?_⟩
    refine ⟨(by show 0 ≤ sizeLine; decide), fun D eD => ?_⟩
    have s1 := same_new eD (.lst [])
    have hD : (upd H D (.lst [])) D = some (.lst []) := upd_same
    generalize upd H D (.lst []) = H1 at *
    refine ⟨_, rfl, _, rfl, ?_⟩
    refine ⟨_, rfl, _, _, rfl, rfl, ⟨by decide, by decide, by decide⟩, _, _, rfl, rfl, ?_⟩
    refine ⟨_, rfl, _, rfl, by omega, by omega, ?_⟩
    refine for_range (lo := 0) (n := ((m : Nat) : Int).toNat) (fun i σ H2 => ∃ (ds : List Int) (lf : Int) (wd : Bool) (v5 : Option V), σ = [some (.int c), some (natV m), some (.ref D), some (.int lf), some (.bl wd), v5] ∧ Same H H2 ∧ H2 D = some (.lst (ds.map V.int)) ∧ ds.length = i ∧ ∀ d ∈ ds, Dig d)
      ⟨[], _, _, none, rfl, s1, hD, rfl, fun d z => (nomatch z)⟩ ?_ ?_
    · rintro i σ H2 hi ⟨ds, lf, wd, v5, rfl, s2, hD2, hl, hb⟩
      rw [Int.toNat_natCast] at hi
      refine ⟨_, rfl, _, rfl, ?_⟩
      cases wd with
      | true =>
        refine iteT ?_
        refine ⟨_, rfl, _, _, rfl, rfl, _, rfl, ?_⟩
        cases eg : decide (0 < lf) with
        | true =>
          refine iteT ?_
          refine ⟨_, rfl, .inl ⟨rfl, _, SqL.of hD2⟩, _, rfl, _, _, rfl, rfl, (by show (0 : Int) < 10007; decide), D, _, _, rfl, rfl, hD2, small1000 (by rw [List.length_map]; omega), ?_⟩
          refine ⟨_, rfl, _, _, rfl, rfl, ⟨by decide, by decide⟩, ds ++ [lf % 10007], _, _, _, rfl, fun b o z => by rw [upd_ne (ne_of_none z eD)]; exact s2 b o z, by rw [upd_same, List.map_append]; rfl, by rw [List.length_append, hl]; rfl, fun d hd => ?_⟩
          rcases List.mem_append.mp hd with y | y
          · exact hb d y
          · rw [List.mem_singleton.mp y]; exact emod_dig (by decide) (by decide)
        | false =>
          refine iteF ?_
          refine ⟨_, rfl, .inl ⟨rfl, _, SqL.of hD2⟩, _, rfl, _, rfl, c, _, rfl, by omega, by omega, fun v H3 s3 hv => ?_⟩
          refine ⟨D, _, _, rfl, rfl, s3 _ _ hD2, small1000 (by rw [List.length_map]; omega), ds ++ [v], _, _, _, rfl, fun b o z => by rw [upd_ne (ne_of_none z eD)]; exact s3 _ _ (s2 b o z), by rw [upd_same, List.map_append]; rfl, by rw [List.length_append, hl]; rfl, fun d hd => ?_⟩
          rcases List.mem_append.mp hd with y | y
          · exact hb d y
          · rw [List.mem_singleton.mp y]; exact hv
      | false =>
        refine iteF ?_
        refine iteF ?_
        refine ⟨_, rfl, .inl ⟨rfl, _, SqL.of hD2⟩, _, rfl, _, rfl, c, _, rfl, by omega, by omega, fun v H3 s3 hv => ?_⟩
        refine ⟨D, _, _, rfl, rfl, s3 _ _ hD2, small1000 (by rw [List.length_map]; omega), ds ++ [v], _, _, _, rfl, fun b o z => by rw [upd_ne (ne_of_none z eD)]; exact s3 _ _ (s2 b o z), by rw [upd_same, List.map_append]; rfl, by rw [List.length_append, hl]; rfl, fun d hd => ?_⟩
        rcases List.mem_append.mp hd with y | y
        · exact hb d y
        · rw [List.mem_singleton.mp y]; exact hv
    · rintro σ H2 ⟨ds, lf, wd, v5, rfl, s2, hD2, hl, hb⟩
      rw [Int.toNat_natCast] at hl
      exact ⟨_, rfl, q D ds H2 eD s2 hD2 hl hb⟩
abbrev n_at : List Str := ["script", "k"]
theorem sc_at : FnScope n_at ["script", "k"] (defScope sAt) := ⟨rfl, rfl, rfl, by decide +kernel, rfl, by decide +kernel, by decide +kernel⟩
theorem ok_at {f : Addr} {fd : FuncData} (F : Fun K "_law_at" "_law_at" sAt f fd) (T : TxtW K mg C) :
    FnOk P w K mg base CX0 1 f fd ["script", "k"] (spAt K) := by
  refine F.ok sc_at (fun vs H Q E h => ?_) (fun cdv Ar outer s H vs Q E hr h => ?_)
  · obtain ⟨a, ns, k, rfl, _⟩ := h
    rfl
  · obtain ⟨a, ns, k, rfl, hS, k0, k1, q⟩ := h
    refine ⟨_, pss_cons (ps_if (pt_cmpR op_lt (pv 1) (pe_callB call_len_seq rfl T.len PySem.boot_len (pa_cons (pv 0) pa_nil)) (nomark _)) (pss_one (ps_ret (pe_ix ix_list (pv 0) (pv 1) (fun _ _ => rfl)))) pss_nil) (pss_one (ps_ret (pe_op op_add (pe_op op_add (pe_op op_mul (pe_int) (pv 1)) (pe_int)) (pe_callB call_len_seq rfl T.len PySem.boot_len (pa_cons (pv 0) pa_nil))))), ?_⟩
    refine ⟨_, rfl, _, rfl, a, _, rfl, .inl hS, _, _, rfl, rfl, _, rfl, ?_⟩
    refine ite2 (fun cc => ?_) (fun cc => ?_)
    · have c' : k < (((ns.map V.int).length : Nat) : Int) := of_decide_eq_true cc
      obtain ⟨v, hv, hv'⟩ := at_int k0 c'
      obtain ⟨z, _, rfl⟩ := mapAt' hv
      exact ⟨_, rfl, _, rfl, a, _, _, _, rfl, rfl, hS, hv', q z⟩
    · exact ⟨_, rfl, _, _, rfl, rfl, .inl ⟨by decide, by decide⟩, _, _, rfl, rfl, _, rfl, a, _, rfl, .inl hS, _, _, rfl, rfl, q _⟩
end
end Far
set_option Elab.async false
set_option linter.all false
set_option maxRecDepth 100000
set_option maxHeartbeats 4000000
namespace Far
open PySem L2
def Bd (x : Int) : Prop := -1298074214633706907132624082305024 < x ∧ x < 1298074214633706907132624082305024
structure BInv (w : Wlk) : Prop where
  box : ∀ x ∈ w.b.boxes, Bd x
  held : ∀ m ∈ w.mvs, ∀ x, m.held = some x → Bd x
  told : ∀ m ∈ w.mvs, ∀ x, Got.got x ∈ m.told → Bd x
theorem bd0 : Bd 0 := ⟨by decide, by decide⟩
theorem boxB_bd {b : Bx} (h : ∀ x ∈ b.boxes, Bd x) (i : Int) : Bd (boxB b i) := by
  unfold boxB
  rw [List.getD_eq_getElem?_getD]
  cases e : b.boxes[i.toNat]? with
  | none => exact bd0
  | some x => exact h x (List.mem_of_getElem? e)
def MBd (m : Mv) : Prop := (∀ x, m.held = some x → Bd x) ∧ ∀ x, Got.got x ∈ m.told → Bd x
theorem come_bd {m : Mv} (hm : MBd m) {g : Got} (hg : ∀ x, g = .got x → Bd x) : MBd (comeM m g) := by
  refine ⟨(fun x z => by cases z), fun x hx => ?_⟩
  rcases List.mem_append.mp hx with y | y
  · exact hm.2 x y
  · exact hg x (List.mem_singleton.mp y).symm
theorem gotO_bd {o : Option Int} (h : ∀ x, o = some x → Bd x) : ∀ x, gotO o = .got x → Bd x := fun x e => by
  cases o with
  | none => cases e
  | some y => cases e; exact h _ rfl
theorem move_bd {P : Play} {h : Nat} {b : Bx} {m : Mv} (hP : ∀ i, Deed.lay i ∈ P.1 → Bd i) (hb : ∀ x ∈ b.boxes, Bd x) (hm : MBd m) : (∀ x ∈ (moveS P "good" h b m).1.boxes, Bd x) ∧ MBd (moveS P "good" h b m).2 := by
  have hbx := boxB_bd hb
  have no : ∀ x, Got.non = .got x → Bd x := fun x z => by cases z
  have lo : ∀ x, Got.lost = .got x → Bd x := fun x z => by cases z
  have go : ∀ i, ∀ x, Got.got (boxB b i) = .got x → Bd x := fun i x z => by cases z; exact hbx i
  unfold moveS
  split
  · unfold tryS
    split
    · exact ⟨hb, hm⟩
    split
    · split
      · exact ⟨hb, come_bd hm no⟩
      · exact ⟨hb, hm⟩
    split
    · exact ⟨hb, fun x z => by cases z; exact hbx _, hm.2⟩
    split
    · exact ⟨hb, come_bd hm (gotO_bd hm.1)⟩
    · exact ⟨hb, come_bd hm lo⟩
  · have tk : (∀ x ∈ (takeS "good" b m).1.boxes, Bd x) ∧ MBd (takeS "good" b m).2 := by
      unfold takeS thirdS fourthS
      split
      · exact ⟨hb, hm⟩
      split
      · exact ⟨hb, hm⟩
      split
      · split
        · exact ⟨hb, come_bd hm no⟩
        split
        · exact ⟨hb, come_bd hm (go _)⟩
        · exact ⟨hb, fun x z => by cases z; exact hbx _, hm.2⟩
      split
      · split
        · exact ⟨hb, hm⟩
        · exact ⟨hb, (fun x z => by cases z), hm.2⟩
      · exact ⟨hb, come_bd hm (gotO_bd hm.1)⟩
    unfold ownS
    split
    · rename_i i e
      have hi := hP i (List.mem_of_getElem? e)
      unfold layS
      split
      · refine ⟨fun x hx => ?_, hm⟩
        have hx : x ∈ (putB b i).boxes := hx
        unfold putB at hx
        split at hx
        · rcases List.mem_append.mp hx with y | y
          · exact hb x y
          · rw [List.mem_singleton.mp y]; exact hi
        · rcases List.mem_or_eq_of_mem_set hx with y | y
          · exact hb x y
          · rw [y]; exact hi
      · exact ⟨hb, (fun x z => by cases z), hm.2⟩
    · exact tk
theorem BInv.move {P : Play} {w : Wlk} (hP : ∀ i, Deed.lay i ∈ P.1 → Bd i) (B : BInv w) {h : Nat} (hl : h < w.mvs.length) : BInv (moveW P "good" w h) := by
  have hmem : mvAt w h ∈ w.mvs := List.mem_of_getElem? (getD_get mv0 hl)
  obtain ⟨q1, q2, q3⟩ := move_bd (h := h) hP B.box (m := mvAt w h) ⟨B.held _ hmem, B.told _ hmem⟩
  unfold moveW
  refine ⟨q1, fun m hm => ?_, fun m hm => ?_⟩
  · rcases List.mem_or_eq_of_mem_set hm with y | y
    · exact B.held m y
    · rw [y]; exact q2
  · rcases List.mem_or_eq_of_mem_set hm with y | y
    · exact B.told m y
    · rw [y]; exact q3
theorem BInv.go {P : Play} (hP : ∀ i, Deed.lay i ∈ P.1 → Bd i) : ∀ {w : Wlk} {hs : List Nat}, SInv P w → BInv w → Legal P "good" w hs → BInv (goW P "good" w hs)
  | _, [], _, B, _ => B
  | w, a :: t, I, B, l => BInv.go hP (w := moveW P "good" w a) (hs := t) (I.move l.1 l.2.1) (B.move hP (by rw [I.len]; exact l.1)) l.2.2
theorem BInv.start (P : Play) : BInv (walk0 P) := by
  refine ⟨fun x z => (nomatch z), fun m hm => ?_, fun m hm => ?_⟩
  · rw [(List.mem_replicate.mp hm).2]; exact fun x z => by cases z
  · rw [(List.mem_replicate.mp hm).2]; exact fun x z => by cases z
theorem int_lenB {i : Int} (h : Bd i) : (PyData.shown (.int i)).length ≤ 120 := by
  have h2 : i.natAbs < 2 ^ 110 := by have := h.1; have := h.2; omega
  have h3 : (Nat.repr i.natAbs).length ≤ 110 := nat_repr_length_le (by decide) h2
  show (Str.ofString (toString i)).length ≤ 120
  rw [ofString_length]
  cases i with
  | ofNat n =>
    have e : toString (Int.ofNat n) = Nat.repr n := rfl
    rw [e]
    have : (Int.ofNat n).natAbs = n := rfl
    rw [this] at h3
    omega
  | negSucc n =>
    have e : toString (Int.negSucc n) = "-" ++ Nat.repr (n + 1) := rfl
    rw [e, String.length_append]
    have : (Int.negSucc n).natAbs = n + 1 := rfl
    rw [this] at h3
    have h4 : "-".length = 1 := rfl
    omega
theorem int_showB {i : Int} (h : Bd i) : i.natAbs.log2 < 1920 := by
  have h2 : i.natAbs < 2 ^ 110 := by have := h.1; have := h.2; omega
  by_cases z : i.natAbs = 0
  · rw [z]; decide
  · have := (Nat.log2_lt z).mpr h2
    omega
def ReprOk (d : PyData) : Prop := d.showable = true ∧ d.hasDict = false ∧ d.depth ≤ 60 ∧ d.shown.length ≤ sizeLine
theorem repr_len {d : PyData} (h : d.leavesShort 120 = true) (hb : d.bulk ≤ 10000) : d.shown.length ≤ sizeLine := by
  have h1 := PyData.shown_le_bulk 120 (by decide) d h
  have h2 : sizeLine = 16777216 := by decide
  omega
end Far
set_option Elab.async false
set_option linter.all false
set_option maxRecDepth 100000
set_option maxHeartbeats 4000000
set_option pp.maxSteps 500
namespace Far
open PySem L2
def spPlayD (K : PySem.W.Frag) : Sp := fun vs H Q _ => ∃ (sa : Addr) (ds : List Int) (most : Nat) (ta : Addr) (ts : List Nat), vs = [.ref sa, natV most, .ref ta] ∧ H sa = some (.lst (ds.map V.int)) ∧ (∀ d ∈ ds, Dig d) ∧ 2 + most ≤ ds.length ∧ most ≤ 100 ∧ SqT K H ta (ts.map natV) ∧
  ∀ v P H', Same H H' → IsPlay K H' v P → P.1.length ≤ most → P.2 = ts → (∀ i, Deed.lay i ∈ P.1 → Bd i) → Q v H'
section
variable {P : Program} {w : World} {K : PySem.W.Frag} {mg : Str → Option Value} {base : Heap} {C : Addr}
abbrev n_playD : List Str := ["some", "most", "tries", "deeds", "k", "one", "far", "way", "thing"]
theorem sc_playD : FnScope n_playD ["some", "most", "tries"] (defScope sPlayD) := ⟨rfl, rfl, rfl, by decide +kernel, rfl, by decide +kernel, by decide +kernel⟩
theorem ok_playD {f : Addr} {fd : FuncData} (F : Fun K "_law_play" "_law_play" sPlayD f fd) (T : TxtW K mg C) :
    FnOk P w K mg base CX0 1 f fd ["some", "most", "tries"] (spPlayD K) := by
  refine F.ok sc_playD (fun vs H Q E h => ?_) (fun cdv Ar outer s H vs Q E hr h => ?_)
  · obtain ⟨sa, ds, most, ta, ts, rfl, _⟩ := h
    rfl
  · obtain ⟨sa, ds, most, ta, ts, rfl, hsa, hdg, hlen, hm, hta, q⟩ := h
    refine ⟨_, pss_cons (ps_set (i := 3) sc_playD.nd rfl (Or.inl rfl) (pe_lst (pa_nil))) (pss_cons (ps_for PassesOwn.never rfl (pi_range1 rfl T.range (pa_cons (pe_op op_mod (pe_ix ix_list (pv 0) (pe_int) (fun _ _ => rfl)) (pe_op op_add (pv 1) (pe_int))) pa_nil)) (pg_name (i := 4) sc_playD.nd rfl (Or.inl rfl)) (pss_cons (ps_set (i := 5) sc_playD.nd rfl (Or.inl rfl) (pe_ix ix_list (pv 0) (pe_op op_add (pe_int) (pv 4)) (fun _ _ => rfl))) (pss_cons (ps_set (i := 6) sc_playD.nd rfl (Or.inl rfl) (pe_mid (pe_ix ix_list (pe_lst (pa_cons (pe_int) (pa_cons (pe_int) (pa_cons (pe_int) (pa_cons (pe_int) (pa_cons (pe_un un_neg (pe_int)) (pa_cons (pe_un un_neg (pe_int)) (pa_cons (pe_op op_pow (pe_int) (pe_int)) (pa_cons (pe_op op_sub (pe_op op_pow (pe_int) (pe_int)) (pe_int)) (pa_cons (pe_int) (pa_cons (pe_int) (pa_cons (pe_int) (pa_cons (pe_un un_neg (pe_int)) pa_nil))))))))))))) (pe_op op_mod (pe_op op_fdiv (pv 5) (pe_int)) (pe_int)) (fun _ _ => rfl)))) (pss_cons (ps_set (i := 7) sc_playD.nd rfl (Or.inl rfl) (pe_mid (pe_ix ix_list (pe_lst (pa_cons (pe_op op_mod (pe_ix ix_list (pv 0) (pe_int) (fun _ _ => rfl)) (pe_int)) (pa_cons (pe_op op_mod (pe_op op_fdiv (pv 5) (pe_int)) (pe_int)) pa_nil))) (pe_callTy call_int1 (by rfl) T.int (by decide +kernel) (pa_cons (pe_cmpR op_gt (pe_op op_mod (pe_ix ix_list (pv 0) (pe_int) (fun _ _ => rfl)) (pe_int)) (pe_int) (nomark _)) pa_nil)) (fun _ _ => rfl)))) (pss_cons (ps_set (i := 8) sc_playD.nd rfl (Or.inl rfl) (pe_mid (pe_ix ix_list (pe_lst (pa_cons (pv 4) (pa_cons (pe_op op_mod (pe_op op_fdiv (pv 5) (pe_int)) (pe_int)) (pa_cons (pe_op op_sub (pe_un un_neg (pe_int)) (pe_op op_mod (pe_op op_fdiv (pv 5) (pe_int)) (pe_int))) (pa_cons (pe_op op_sub (pe_op op_pow (pe_int) (pe_int)) (pv 5)) (pa_cons (pv 6) pa_nil)))))) (pv 7) (fun _ _ => rfl)))) (pss_one (ps_expr (pe_bm PySem.F.plainAttrs_list PySem.F.slot_list_append PySem.F.type_list_append mt_append (pv 3) (pa_cons (pe_mid (pe_ix ix_list (pe_lst (pa_cons (pe_tup (pa_cons (pe_str) (pa_cons (pv 8) pa_nil))) (pa_cons (pe_tup (pa_cons (pe_str) pa_nil)) (pa_cons (pe_tup (pa_cons (pe_str) (pa_cons (pv 8) pa_nil))) pa_nil)))) (pe_op op_mod (pe_op op_add (pv 5) (pe_op op_fdiv (pv 4) (pe_int))) (pe_int)) (fun _ _ => rfl))) pa_nil))))))))) (pss_one (ps_ret (pe_tup (pa_cons (pe_callTy call_tuple_of (by rfl) T.tuple (by decide +kernel) (pa_cons (pv 3) pa_nil)) (pa_cons (pv 2) pa_nil)))))), ?_⟩
    obtain ⟨d0, hd0, _⟩ := dig_at (j := 0) (by omega) hdg
    obtain ⟨d1, hd1, g1⟩ := dig_at (j := 1) (by omega) hdg
    refine ⟨(by show 0 ≤ sizeLine; decide), fun D eD => ?_⟩
    have s1 := same_new eD (.lst [])
    have hD : (upd H D (.lst [])) D = some (.lst []) := upd_same
    have hsa1 := s1 _ _ hsa
    generalize upd H D (.lst []) = H1 at *
    have hm0 := Int.emod_nonneg d0 (show ((most : Int) + 1) ≠ 0 by omega)
    have hm1 := Int.emod_lt_of_pos d0 (show (0 : Int) < (most : Int) + 1 by omega)
    obtain ⟨n, hn⟩ := Int.eq_ofNat_of_zero_le hm0
    have hnm : n ≤ most := by omega
    refine ⟨_, rfl, sa, _, _, _, rfl, rfl, SqL.of hsa1, atI_nat (j := 0) hd0, _, rfl, _, _, rfl, rfl, _, _, rfl, rfl, (by show (0 : Int) < (most : Int) + 1; omega), ?_⟩
    rw [show (fun i j : Int => V.int (i % j)) d0 ((most : Int) + 1) = natV n from congrArg V.int hn]
    refine ⟨_, rfl, by omega, by omega, ?_⟩
    refine for_range (lo := 0) (n := ((n : Nat) : Int).toNat) (fun i σ H2 => ∃ (xs : List V) (l : List Deed) (v4 v5 v6 v7 v8 : Option V), σ = [some (.ref sa), some (natV most), some (.ref ta), some (.ref D), v4, v5, v6, v7, v8] ∧ Same H H2 ∧ H2 D = some (.lst xs) ∧ Paired (IsDeed K H2) xs l ∧ l.length = i ∧ ∀ x, Deed.lay x ∈ l → Bd x)
      ⟨[], [], none, none, none, none, none, rfl, s1, hD, .nil, rfl, fun x z => (nomatch z)⟩ ?_ ?_
    · rintro i σ H2 hi ⟨xs, l, v4, v5, v6, v7, v8, rfl, s2, hD2, hp2, hl2, hbd2⟩
      rw [Int.toNat_natCast] at hi
      have hxl := plen hp2
      have hsa2 := s2 _ _ hsa
      obtain ⟨d, hd, gd⟩ := dig_at (j := 2 + i) (by omega) hdg
      obtain ⟨gd0, gd1⟩ := gd
      refine ⟨_, rfl, _, rfl, _, _, rfl, rfl, sa, _, _, _, rfl, rfl, SqL.of hsa2, at_of (j := 2 + i) (by omega) hd, ?_⟩
      refine ⟨fun v H' => ∃ z : Int, v = .int z ∧ Bd z ∧ Same H2 H', ?_, ?_⟩
      · refine ⟨_, rfl, _, rfl, _, _, rfl, rfl, ⟨by decide, by decide, by decide⟩, _, _, rfl, rfl, ⟨by decide, by decide, by decide⟩, _, _, rfl, rfl, _, rfl, (by show 12 ≤ sizeLine; decide), fun L eL => ?_⟩
        have t3 := same_new eL (.lst [.int 7, .int 10, .int 42, .int 99, .int (-6), .int (-99), .int (10 ^ 9), .int (10 ^ 30 - 1), .int 1, .int 100, .int 12, .int (-12)])
        have m0 := Int.emod_nonneg (d / 6) (show (12 : Int) ≠ 0 by decide)
        have m1 := Int.emod_lt_of_pos (d / 6) (show (0 : Int) < 12 by decide)
        obtain ⟨y, hy, hy'⟩ := at_int (xs := [V.int 7, .int 10, .int 42, .int 99, .int (-6), .int (-99), .int (10 ^ 9), .int (10 ^ 30 - 1), .int 1, .int 100, .int 12, .int (-12)]) m0 (by show d / 6 % 12 < 12; exact m1)
        refine ⟨_, rfl, _, _, rfl, rfl, ⟨by decide, by decide⟩, _, _, rfl, rfl, (by show (0 : Int) < 12; decide), L, _, _, _, rfl, rfl, SqL.of upd_same, hy', ?_⟩
        have hmem := List.mem_of_getElem? hy
        simp only [List.mem_cons, List.not_mem_nil, or_false] at hmem
        rcases hmem with e | e | e | e | e | e | e | e | e | e | e | e <;> exact ⟨_, e, ⟨by decide, by decide⟩, t3⟩
      rintro v H3 ⟨z, rfl, hbz, s3⟩
      have hsa3 := s3 _ _ hsa2
      refine ⟨fun v H' => ∃ k : Nat, v = natV k ∧ k < 5 ∧ Same H3 H', ?_, ?_⟩
      · have m0 := Int.emod_nonneg d1 (show (7 : Int) ≠ 0 by decide)
        have m1 := Int.emod_nonneg (d / 72) (show (5 : Int) ≠ 0 by decide)
        have m2 := Int.emod_lt_of_pos (d / 72) (show (0 : Int) < 5 by decide)
        refine ⟨_, rfl, sa, _, _, _, rfl, rfl, SqL.of hsa3, atI_nat (j := 1) hd1, _, _, rfl, rfl, (by show (0 : Int) < 7; decide), _, rfl, _, _, rfl, rfl, ⟨by decide, by decide⟩, _, _, rfl, rfl, (by show (0 : Int) < 5; decide), (by show 2 ≤ sizeLine; decide), fun L eL => ?_⟩
        have t4 := same_new eL (.lst [.int (d1 % 7), .int (d / 72 % 5)])
        refine ⟨_, rfl, sa, _, _, _, rfl, rfl, SqL.of (t4 _ _ hsa3), atI_nat (j := 1) hd1, _, _, rfl, rfl, (by show (0 : Int) < 7; decide), _, _, rfl, rfl, .inr ⟨_, rfl, ?_⟩⟩
        cases e : decide (4 < d1 % 7) with
        | true =>
          refine ⟨L, _, _, _, rfl, rfl, SqL.of upd_same, atI_nat (j := 1) rfl, (d / 72 % 5).toNat, ?_, by omega, t4⟩
          show V.int (d / 72 % 5) = V.int (((d / 72 % 5).toNat : Nat) : Int)
          rw [Int.toNat_of_nonneg m1]
        | false =>
          have e' := of_decide_eq_false e
          refine ⟨L, _, _, _, rfl, rfl, SqL.of upd_same, atI_nat (j := 0) rfl, (d1 % 7).toNat, ?_, by omega, t4⟩
          show V.int (d1 % 7) = V.int (((d1 % 7).toNat : Nat) : Int)
          rw [Int.toNat_of_nonneg m0]
      rintro v H4 ⟨wy, rfl, hwy, s4⟩
      refine ⟨fun v H' => ∃ z : Int, v = .int z ∧ Bd z ∧ Same H4 H', ?_, ?_⟩
      · refine ⟨_, rfl, _, rfl, _, _, rfl, rfl, ⟨by decide, by decide⟩, _, _, rfl, rfl, (by show (0 : Int) < 3; decide), _, rfl, _, rfl, _, _, rfl, rfl, ⟨by decide, by decide⟩, _, _, rfl, rfl, (by show (0 : Int) < 4; decide), _, _, rfl, rfl, _, _, rfl, rfl, ⟨by decide, by decide, by decide⟩, _, rfl, _, _, rfl, rfl, _, rfl, (by show 5 ≤ sizeLine; decide), fun L eL => ?_⟩
        obtain ⟨cs, hcs⟩ : ∃ cs : List V, cs = [V.int (0 + (i : Int)), .int (d / 6 % 3), .int (-1 - d / 6 % 4), .int (10 ^ (29 : Int).toNat - d), .int z] := ⟨_, rfl⟩
        have t5 := same_new eL (.lst cs)
        obtain ⟨y, hy⟩ : ∃ y, cs[wy]? = some y := ⟨_, List.getElem?_eq_getElem (by rw [hcs]; exact hwy)⟩
        have hmem := List.mem_of_getElem? hy
        rw [hcs] at t5
        refine ⟨_, rfl, L, _, _, _, rfl, rfl, SqL.of upd_same, atI_nat (by rw [hcs] at hy; exact hy), ?_⟩
        rw [hcs] at hmem
        simp only [List.mem_cons, List.not_mem_nil, or_false] at hmem
        have n3 := Int.emod_nonneg (d / 6) (show (3 : Int) ≠ 0 by decide)
        have n3' := Int.emod_lt_of_pos (d / 6) (show (0 : Int) < 3 by decide)
        have n4 := Int.emod_nonneg (d / 6) (show (4 : Int) ≠ 0 by decide)
        have n4' := Int.emod_lt_of_pos (d / 6) (show (0 : Int) < 4 by decide)
        have p29 : (10 : Int) ^ (29 : Int).toNat = 100000000000000000000000000000 := by decide
        rcases hmem with e | e | e | e | e
        · exact ⟨_, e, by unfold Bd; omega, t5⟩
        · exact ⟨_, e, by unfold Bd; omega, t5⟩
        · exact ⟨_, e, by unfold Bd; omega, t5⟩
        · exact ⟨_, e, by rw [p29]; unfold Bd; omega, t5⟩
        · exact ⟨_, e, hbz, t5⟩
      rintro v H5 ⟨th, rfl, hbt, s5⟩
      have s25 := s3.trans (s4.trans s5)
      have hD5 := s25 _ _ hD2
      refine ⟨_, rfl, .inl ⟨rfl, _, SqL.of hD5⟩, ?_⟩
      refine ⟨fun v H' => ∃ de : Deed, IsDeed K H' v de ∧ (∀ x, de = .lay x → Bd x) ∧ Same H5 H', ?_, ?_⟩
      · refine ⟨_, rfl, (by show 2 ≤ sizeLine; decide), fun p1 q1 => ⟨(by show 1 ≤ sizeLine; decide), fun p2 q2 => ⟨_, rfl, (by show 2 ≤ sizeLine; decide), fun p3 q3 => ⟨(by show 3 ≤ sizeLine; decide), fun L eL => ?_⟩⟩⟩⟩
        have r1 := same_new q1 (.tup [.str "lay", .int th])
        have g1' : (upd H5 p1 (.tup [.str "lay", .int th])) p1 = some (.tup [.str "lay", .int th]) := upd_same
        generalize upd H5 p1 (.tup [.str "lay", .int th]) = Ha at *
        have r2 := same_new q2 (.tup [.str "take"])
        have g2' : (upd Ha p2 (.tup [.str "take"])) p2 = some (.tup [.str "take"]) := upd_same
        generalize upd Ha p2 (.tup [.str "take"]) = Hb at *
        have r3 := same_new q3 (.tup [.str "lay", .int th])
        have g3' : (upd Hb p3 (.tup [.str "lay", .int th])) p3 = some (.tup [.str "lay", .int th]) := upd_same
        generalize upd Hb p3 (.tup [.str "lay", .int th]) = Hc at *
        have r4 := same_new eL (.lst [.ref p1, .ref p2, .ref p3])
        have g4' : (upd Hc L (.lst [.ref p1, .ref p2, .ref p3])) L = some (.lst [.ref p1, .ref p2, .ref p3]) := upd_same
        generalize upd Hc L (.lst [.ref p1, .ref p2, .ref p3]) = Hd at *
        have m0 := Int.emod_nonneg (d + (0 + (i : Int)) / 3) (show (3 : Int) ≠ 0 by decide)
        have m1 := Int.emod_lt_of_pos (d + (0 + (i : Int)) / 3) (show (0 : Int) < 3 by decide)
        obtain ⟨y, hy, hy'⟩ := at_int (xs := [V.ref p1, .ref p2, .ref p3]) m0 (by show (d + (0 + (i : Int)) / 3) % 3 < 3; exact m1)
        refine ⟨_, rfl, _, rfl, _, _, rfl, rfl, ⟨by decide, by decide⟩, _, _, rfl, rfl, _, _, rfl, rfl, (by show (0 : Int) < 3; decide), L, _, _, _, rfl, rfl, SqL.of g4', hy', ?_⟩
        have hmem := List.mem_of_getElem? hy
        simp only [List.mem_cons, List.not_mem_nil, or_false] at hmem
        have r14 := r1.trans (r2.trans (r3.trans r4))
        rcases hmem with e | e | e
        · exact ⟨.lay th, ⟨p1, e, SqT.of ((r2.trans (r3.trans r4)) _ _ g1')⟩, fun x z => by cases z; exact hbt, r14⟩
        · exact ⟨.take, ⟨p2, e, SqT.of ((r3.trans r4) _ _ g2')⟩, (fun x z => by cases z), r14⟩
        · exact ⟨.lay th, ⟨p3, e, SqT.of (r4 _ _ g3')⟩, fun x z => by cases z; exact hbt, r14⟩
      rintro v H6 ⟨de, hde, hbd, s6⟩
      have s26 := s25.trans s6
      have hD6 := s6 _ _ hD5
      have kt : KT K H6 (upd H6 D (.lst (xs ++ [v]))) := KT.but (But.put _ _ _) hD6
      refine ⟨D, _, _, rfl, rfl, hD6, small1000 (by omega), xs ++ [v], l ++ [de], _, _, _, _, _, rfl, fun b o e => ?_, upd_same, papp (pdeed ((KT.same s26).trans kt) hp2) (.cons (hde.kt kt) .nil), by rw [List.length_append, hl2]; rfl, fun x hx => ?_⟩
      rotate_left
      · rcases List.mem_append.mp hx with y | y
        · exact hbd2 x y
        · exact hbd x (List.mem_singleton.mp y).symm
      rw [upd_ne (ne_of_none e eD)]
      exact s26 _ _ (s2 b o e)
    · rintro σ H2 ⟨xs, l, v4, v5, v6, v7, v8, rfl, s2, hD2, hp2, hl2, hbd2⟩
      rw [Int.toNat_natCast] at hl2
      refine ⟨_, rfl, D, _, rfl, .inl ⟨SqL.of hD2, fun T1 e1 => ?_⟩⟩
      have r1 := same_new e1 (.tup xs)
      have g1' : (upd H2 T1 (.tup xs)) T1 = some (.tup xs) := upd_same
      generalize upd H2 T1 (.tup xs) = H3 at *
      refine ⟨_, rfl, (by show 2 ≤ sizeLine; decide), fun T2 e2 => ?_⟩
      have r2 := same_new e2 (.tup [.ref T1, .ref ta])
      have s13 := s2.trans (r1.trans r2)
      exact q _ (l, ts) _ s13 ⟨T2, T1, ta, xs, rfl, SqT.of upd_same, SqT.of (r2 _ _ g1'), pdeed (KT.same (r1.trans r2)) hp2, KT.same s13 _ _ hta⟩ (by show l.length ≤ most; omega) rfl hbd2
end
end Far
set_option Elab.async false
set_option linter.all false
set_option maxRecDepth 100000
set_option maxHeartbeats 4000000
namespace Far
open PySem L2
def gotI : Got → Option Int
  | .got i => some i
  | _ => none
def layI : Deed → Option Int
  | .lay i => some i
  | .take => none
def laid (P : Play) (n : Nat) : List Int := (P.1.take n).filterMap layI
def seg (b : Bx) (lo hi : Int) : List Int := (List.range (hi - lo).toNat).map fun k : Nat => boxB b (lo + (k : Int))
def inTake (P : Play) (m : Mv) : Prop := P.1[m.past]? = some .take ∧ 0 < m.small
def enB (P : Play) (b : Bx) (m : Mv) : Int := match P.1[m.past]? with
  | some .take => if m.small = 0 then b.near else b.near + 1
  | _ => b.near
def heldL : Option Int → List Int
  | some x => [x]
  | none => []
def pendL (P : Play) (m : Mv) : List Int := match P.1[m.past]? with
  | some .take => if m.small = 4 then heldL m.held else []
  | _ => []
theorem laid_take {P : Play} {n : Nat} (h : P.1[n]? = some .take) : laid P (n + 1) = laid P n := by
  unfold laid; rw [take_snoc h, List.filterMap_append]; simp [layI]
theorem laid_lay {P : Play} {n : Nat} {i : Int} (h : P.1[n]? = some (.lay i)) : laid P (n + 1) = laid P n ++ [i] := by
  unfold laid; rw [take_snoc h, List.filterMap_append]; simp [layI]
theorem seg_nil {b : Bx} {lo hi : Int} (h : hi ≤ lo) : seg b lo hi = [] := by unfold seg; rw [show (hi - lo).toNat = 0 by omega]; rfl
theorem seg_cons {b : Bx} {lo hi : Int} (h : lo < hi) : seg b lo hi = boxB b lo :: seg b (lo + 1) hi := left_cons (b := { b with near := hi, far := lo }) h
theorem seg_snoc {b : Bx} {lo hi : Int} (h : lo < hi) : seg b lo hi = seg b lo (hi - 1) ++ [boxB b (hi - 1)] := left_snoc (b := { b with near := hi, far := lo }) h
theorem seg_eq {b b' : Bx} {lo hi : Int} (h : ∀ i : Int, lo ≤ i → i < hi → boxB b' i = boxB b i) : seg b' lo hi = seg b lo hi := by
  unfold seg
  refine List.map_congr_left fun k hk => ?_
  have := List.mem_range.mp hk
  exact h _ (by omega) (by omega)
structure DOwn (P : Play) (b : Bx) (m : Mv) : Prop where
  fe : b.far ≤ enB P b m
  o2 : P.1[m.past]? = some .take → m.small = 2 → fO m ≤ b.far ∧ (fO m < b.near → b.far ≤ b.near)
  o3 : P.1[m.past]? = some .take → m.small = 3 → fO m = b.near ∧ m.held = some (boxB b b.near) ∧ fO m ≤ b.far
  o4 : P.1[m.past]? = some .take → m.small = 4 → fO m = b.near ∧ b.far = fO m + 1
  l1 : ∀ i, P.1[m.past]? = some (.lay i) → m.small = 1 → boxB b b.near = i
  tl : m.told.length + (laid P m.past).length = m.past
structure DTh (P : Play) (b : Bx) (m0 m : Mv) : Prop where
  a : 1 ≤ m.small → fO m ≤ b.far
  c : 2 ≤ m.small → fO m = b.far → fO m < enB P b m0 ∧ (P.1[m0.past]? = some .take → m0.small = 2 → fO m0 < b.near → fO m < b.near)
  d : m.small = 3 → fO m = b.far → m.held = some (boxB b (fO m))
  tl : m.told.length = m.past
theorem en_take {P : Play} {b : Bx} {m : Mv} (h : P.1[m.past]? = some .take) (h0 : m.small ≠ 0) : enB P b m = b.near + 1 := by unfold enB; rw [h]; exact if_neg h0
theorem en_rest {P : Play} {b : Bx} {m : Mv} (h0 : m.small = 0) : enB P b m = b.near := by
  unfold enB; split
  · exact if_pos h0
  · rfl
theorem en_lay {P : Play} {b : Bx} {m : Mv} {i : Int} (h : P.1[m.past]? = some (.lay i)) : enB P b m = b.near := by unfold enB; rw [h]
theorem en_ge {P : Play} {b : Bx} {m : Mv} : b.near ≤ enB P b m := by
  unfold enB; split
  · split <;> omega
  · exact Int.le_refl _
theorem pend_rest {P : Play} {m : Mv} (h0 : m.small ≠ 4) : pendL P m = [] := by
  unfold pendL; split
  · exact if_neg h0
  · rfl
theorem pend_lay {P : Play} {m : Mv} {i : Int} (h : P.1[m.past]? = some (.lay i)) : pendL P m = [] := by unfold pendL; rw [h]
theorem pend_four {P : Play} {m : Mv} (h : P.1[m.past]? = some .take) (h4 : m.small = 4) : pendL P m = heldL m.held := by unfold pendL; rw [h]; exact if_pos h4
theorem gotI_held (o : Option Int) : [gotO o].filterMap gotI = heldL o := by cases o <;> rfl
theorem try_d {P : Play} {b : Bx} {m0 m : Mv} (o : DOwn P b m0) (t : DTh P b m0 m) (s3 : m.small ≤ 3) :
    DOwn P (tryS "good" b m).1 m0 ∧ DTh P (tryS "good" b m).1 m0 (tryS "good" b m).2 ∧ (∀ k, DTh P b m0 k → DTh P (tryS "good" b m).1 m0 k) ∧
    ∃ gs, (tryS "good" b m).2.told = m.told ++ gs ∧ ∀ L, (L ++ pendL P m0 ++ seg b b.far (enB P b m0)).Perm (laid P m0.past) → (L ++ gs.filterMap gotI ++ pendL P m0 ++ seg (tryS "good" b m).1 (tryS "good" b m).1.far (enB P (tryS "good" b m).1 m0)).Perm (laid P m0.past) := by
  have htl := t.tl
  have come : ∀ g, gotI g = none → DOwn P b m0 ∧ DTh P b m0 (comeM m g) ∧ (∀ k, DTh P b m0 k → DTh P b m0 k) ∧ ∃ gs, (comeM m g).told = m.told ++ gs ∧ ∀ L, (L ++ pendL P m0 ++ seg b b.far (enB P b m0)).Perm (laid P m0.past) → (L ++ gs.filterMap gotI ++ pendL P m0 ++ seg b b.far (enB P b m0)).Perm (laid P m0.past) := fun g hg =>
    ⟨o, ⟨fun z => absurd z (by show ¬ 1 ≤ 0; omega), fun z => absurd z (by show ¬ 2 ≤ 0; omega), fun z => absurd z (by show ¬ 0 = 3; omega), by show (m.told ++ [g]).length = m.past + 1; rw [List.length_append, htl]; rfl⟩, fun _ k => k, [g], rfl, fun L hp => by rw [List.filterMap_cons, hg, List.filterMap_nil, List.append_nil]; exact hp⟩
  have stay : ∀ m', DTh P b m0 m' → m'.told = m.told → DOwn P b m0 ∧ DTh P b m0 m' ∧ (∀ k, DTh P b m0 k → DTh P b m0 k) ∧ ∃ gs, m'.told = m.told ++ gs ∧ ∀ L, (L ++ pendL P m0 ++ seg b b.far (enB P b m0)).Perm (laid P m0.past) → (L ++ gs.filterMap gotI ++ pendL P m0 ++ seg b b.far (enB P b m0)).Perm (laid P m0.past) := fun m' d e =>
    ⟨o, d, fun _ k => k, [], by rw [e, List.append_nil], fun L hp => by rw [List.filterMap_nil, List.append_nil]; exact hp⟩
  unfold tryS
  by_cases e0 : m.small = 0
  · rw [if_pos e0]
    exact stay _ ⟨fun _ => Int.le_refl _, fun z => absurd z (by show ¬ 2 ≤ 1; omega), fun z => absurd z (by show ¬ 1 = 3; omega), htl⟩ rfl
  rw [if_neg e0]
  have ha := t.a (by omega)
  by_cases e1 : m.small = 1
  · rw [if_pos e1]
    by_cases c : b.near ≤ fO m
    · rw [if_pos c]; exact come _ rfl
    · rw [if_neg c]
      refine stay _ ⟨fun _ => ha, fun _ _ => ⟨?_, fun _ _ _ => ?_⟩, fun z => absurd z (by show ¬ 2 = 3; omega), htl⟩ rfl
      · show fO m < _
        have := en_ge (P := P) (b := b) (m := m0)
        omega
      · show fO m < b.near; omega
  rw [if_neg e1]
  by_cases e2 : m.small = 2
  · rw [if_pos e2]
    refine stay _ ⟨fun _ => ha, fun _ e => t.c (by omega) e, fun _ _ => rfl, htl⟩ rfl
  rw [if_neg e2]
  have e3 : m.small = 3 := by omega
  by_cases c : b.far = fO m
  · rw [if_pos (.inr c)]
    obtain ⟨c1, c2⟩ := t.c (by omega) c.symm
    have hh := t.d e3 c.symm
    have een : ∀ f, enB P { b with far := f } m0 = enB P b m0 := fun f => rfl
    refine ⟨⟨?_, fun q z => ?_, fun q z => ?_, fun q z => ?_, o.l1, o.tl⟩, ⟨fun z => absurd z (by show ¬ 1 ≤ 0; omega), fun z => absurd z (by show ¬ 2 ≤ 0; omega), fun z => absurd z (by show ¬ 0 = 3; omega), by show (m.told ++ [_]).length = m.past + 1; rw [List.length_append, htl]; rfl⟩, fun k dk => ⟨fun z => ?_, fun z e => ?_, fun z e => ?_, dk.tl⟩, [gotO m.held], rfl, fun L hp => ?_⟩
    · show fO m + 1 ≤ enB P b m0; omega
    · obtain ⟨x1, x2⟩ := o.o2 q z
      refine ⟨by show fO m0 ≤ fO m + 1; omega, fun y => ?_⟩
      have := c2 q z y
      show fO m + 1 ≤ b.near; omega
    · obtain ⟨x1, x2, x3⟩ := o.o3 q z
      exact ⟨x1, x2, by show fO m0 ≤ fO m + 1; omega⟩
    · exfalso
      obtain ⟨x1, x2⟩ := o.o4 q z
      rw [en_take q (by omega)] at c1
      omega
    · have := dk.a z; show fO k ≤ fO m + 1; omega
    · have h1 := dk.a (by omega)
      have h2 : fO k = fO m + 1 := e
      omega
    · have h1 := dk.a (by omega)
      have h2 : fO k = fO m + 1 := e
      omega
    · rw [gotI_held, hh]
      show (L ++ [boxB b (fO m)] ++ pendL P m0 ++ seg b (fO m + 1) (enB P b m0)).Perm _
      rw [c, seg_cons c1] at hp
      refine List.Perm.trans ?_ hp
      rw [List.append_assoc, List.append_assoc, List.append_assoc]
      refine List.Perm.append_left L ?_
      rw [List.singleton_append]
      exact List.perm_middle.symm
  · rw [if_neg (fun z => z.elim (fun z => by revert z; decide +kernel) c)]
    exact come _ rfl
def OwnD (P : Play) (b : Bx) (m : Mv) (b' : Bx) (m' : Mv) : Prop :=
  DOwn P b' m' ∧ (∀ t, DTh P b m t → DTh P b' m' t) ∧
    ∃ gs, m'.told = m.told ++ gs ∧ ∀ L, (L ++ pendL P m ++ seg b b.far (enB P b m)).Perm (laid P m.past) → (L ++ gs.filterMap gotI ++ pendL P m' ++ seg b' b'.far (enB P b' m')).Perm (laid P m'.past)
theorem own_d {P : Play} {b : Bx} {m : Mv} (o : DOwn P b m) (k : OwnOk P b m) (hd : m.past < P.1.length) (f0 : 0 ≤ b.far) : OwnD P b m (ownS P "good" b m).1 (ownS P "good" b m).2 := by
  obtain ⟨d, hdd⟩ : ∃ d, P.1[m.past]? = some d := ⟨_, List.getElem?_eq_getElem hd⟩
  have htl := o.tl
  have hfe := o.fe
  unfold ownS
  rw [hdd]
  cases d with
  | lay i =>
    show OwnD P b m (layS i b m).1 (layS i b m).2
    have nt : ∀ {A : Prop}, P.1[m.past]? = some .take → A := fun z => by rw [hdd] at z; cases z
    rw [en_lay hdd] at hfe
    unfold layS
    by_cases e : m.small = 0
    · rw [if_pos e]
      obtain ⟨n0, n1⟩ := k.rest e
      obtain ⟨_, _, _, p4, p5⟩ := putB_len (i := i) n0 n1
      obtain ⟨q1, q2⟩ := put_box (i := i) n0 n1
      have hl' : P.1[({ m with small := 1 } : Mv).past]? = some (.lay i) := hdd
      refine ⟨⟨?_, fun q _ => nt q, fun q _ => nt q, fun q _ => nt q, fun j hj _ => ?_, htl⟩, fun t dt => ⟨fun z => ?_, fun z e => ?_, fun z e => ?_, dt.tl⟩, [], by rw [List.append_nil], fun L hp => ?_⟩
      · rw [en_lay hl', p4, p5]; exact hfe
      · have hj' : P.1[m.past]? = some (.lay j) := hj
        rw [hdd] at hj'
        cases hj'
        rw [p4]; exact q1
      · rw [p5]; exact dt.a z
      · rw [p5] at e
        obtain ⟨c1, _⟩ := dt.c z e
        rw [en_lay hdd] at c1
        rw [en_lay hl', p4]
        exact ⟨c1, fun q => nt q⟩
      · rw [p5] at e
        obtain ⟨c1, _⟩ := dt.c (by omega) e
        rw [en_lay hdd] at c1
        rw [dt.d z e, q2 _ (by omega) c1]
      · rw [List.filterMap_nil, List.append_nil, pend_lay hl', en_lay hl', p4, p5, seg_eq (b := b) (fun j j0 j1 => q2 j (by omega) j1)]
        rw [pend_lay hdd, en_lay hdd] at hp
        exact hp
    · rw [if_neg e]
      obtain ⟨e1, n0, n1⟩ := k.lay i hdd (by omega)
      have hi := o.l1 i hdd e1
      have er : (endM m).small = 0 := rfl
      refine ⟨⟨?_, fun _ z => absurd z (by show ¬ 0 = 2; omega), fun _ z => absurd z (by show ¬ 0 = 3; omega), fun _ z => absurd z (by show ¬ 0 = 4; omega), fun _ _ z => absurd z (by show ¬ 0 = 1; omega), ?_⟩, fun t dt => ⟨fun z => dt.a z, fun z e => ?_, fun z e => dt.d z e, dt.tl⟩, [], by rw [List.append_nil]; rfl, fun L hp => ?_⟩
      · rw [en_rest er]; show b.far ≤ b.near + 1; omega
      · show m.told.length + (laid P (m.past + 1)).length = m.past + 1
        rw [laid_lay hdd, List.length_append, List.length_singleton]; omega
      · obtain ⟨c1, _⟩ := dt.c z e
        rw [en_lay hdd] at c1
        rw [en_rest er]
        exact ⟨by show fO t < b.near + 1; omega, fun _ z => absurd z (by show ¬ 0 = 2; omega)⟩
      · show (L ++ [].filterMap gotI ++ pendL P (endM m) ++ seg b b.far (enB P { b with near := b.near + 1 } (endM m))).Perm (laid P (m.past + 1))
        rw [List.filterMap_nil, List.append_nil, pend_rest (by rw [er]; decide), List.append_nil, en_rest er, laid_lay hdd]
        show (L ++ seg b b.far (b.near + 1)).Perm _
        rw [seg_snoc (by omega), show b.near + 1 - 1 = b.near by omega, hi, ← List.append_assoc]
        rw [pend_lay hdd, en_lay hdd, List.append_nil] at hp
        exact hp.append_right _
  | take =>
    show OwnD P b m (takeS "good" b m).1 (takeS "good" b m).2
    have nl : ∀ {A : Prop} (i : Int), P.1[m.past]? = some (.lay i) → A := fun i z => by rw [hdd] at z; cases z
    have tlc : ∀ g, (comeM m g).told.length + (laid P (comeM m g).past).length = (comeM m g).past := fun g => by
      show (m.told ++ [g]).length + (laid P (m.past + 1)).length = m.past + 1
      rw [laid_take hdd, List.length_append, List.length_singleton]; omega
    unfold takeS
    by_cases e0 : m.small = 0
    · rw [if_pos e0]
      rw [en_rest e0] at hfe
      have ht' : P.1[({ m with small := 1 } : Mv).past]? = some .take := hdd
      have een : enB P { b with near := b.near - 1 } { m with small := 1 } = b.near := by
        rw [en_take ht' (by show ¬ 1 = 0; omega)]; show b.near - 1 + 1 = b.near; omega
      refine ⟨⟨by rw [een]; exact hfe, fun _ z => absurd z (by show ¬ 1 = 2; omega), fun _ z => absurd z (by show ¬ 1 = 3; omega), fun _ z => absurd z (by show ¬ 1 = 4; omega), fun i z _ => nl i z, htl⟩, fun t dt => ⟨fun z => dt.a z, fun z e => ?_, fun z e => dt.d z e, dt.tl⟩, [], by rw [List.append_nil], fun L hp => ?_⟩
      · obtain ⟨c1, _⟩ := dt.c z e
        rw [en_rest e0] at c1
        rw [een]
        exact ⟨c1, fun _ z => absurd z (by show ¬ 1 = 2; omega)⟩
      · rw [een, pend_rest (by show ¬ 1 = 4; omega), List.filterMap_nil, List.append_nil, List.append_nil]
        rw [en_rest e0, pend_rest (by omega), List.append_nil] at hp
        exact hp
    rw [if_neg e0]
    obtain ⟨t4, n0, n1, hf⟩ := k.take hdd (by omega)
    rw [en_take hdd e0] at hfe
    by_cases e1 : m.small = 1
    · rw [if_pos e1]
      have ht' : P.1[({ m with small := 2, fr := some b.far } : Mv).past]? = some .take := hdd
      have een : enB P b { m with small := 2, fr := some b.far } = b.near + 1 := en_take ht' (by show ¬ 2 = 0; omega)
      refine ⟨⟨by rw [een]; exact hfe, fun _ _ => ⟨Int.le_refl _, fun z => ?_⟩, fun _ z => absurd z (by show ¬ 2 = 3; omega), fun _ z => absurd z (by show ¬ 2 = 4; omega), fun i z _ => nl i z, htl⟩, fun t dt => ⟨fun z => dt.a z, fun z e => ?_, fun z e => dt.d z e, dt.tl⟩, [], by rw [List.append_nil], fun L hp => ?_⟩
      · have : b.far < b.near := z
        show b.far ≤ b.near
        omega
      · obtain ⟨c1, _⟩ := dt.c z e
        rw [en_take hdd e0] at c1
        rw [een]
        refine ⟨c1, fun _ _ y => ?_⟩
        have y' : b.far < b.near := y
        have e' : fO t = b.far := e
        show fO t < b.near
        omega
      · rw [een, pend_rest (by show ¬ 2 = 4; omega), List.filterMap_nil, List.append_nil, List.append_nil]
        rw [en_take hdd e0, pend_rest (by omega), List.append_nil] at hp
        exact hp
    rw [if_neg e1]
    by_cases e2 : m.small = 2
    · rw [if_pos e2]
      obtain ⟨x1, x2⟩ := o.o2 hdd e2
      unfold thirdS
      by_cases c1 : b.near < fO m
      · rw [if_pos c1]
        have een : enB P { b with near := fO m } (comeM m .non) = fO m := en_rest rfl
        refine ⟨⟨by rw [een]; show b.far ≤ fO m; omega, fun _ z => absurd z (by show ¬ 0 = 2; omega), fun _ z => absurd z (by show ¬ 0 = 3; omega), fun _ z => absurd z (by show ¬ 0 = 4; omega), fun _ _ z => absurd z (by show ¬ 0 = 1; omega), tlc _⟩, fun t dt => ⟨fun z => dt.a z, fun z e => ?_, fun z e => dt.d z e, dt.tl⟩, [.non], rfl, fun L hp => ?_⟩
        · obtain ⟨y1, _⟩ := dt.c z e
          rw [en_take hdd e0] at y1
          rw [een]
          exact ⟨by omega, fun _ z => absurd z (by show ¬ 0 = 2; omega)⟩
        · rw [een, pend_rest (by show ¬ 0 = 4; omega), show [Got.non].filterMap gotI = [] from rfl, List.append_nil, List.append_nil]
          show (L ++ seg b b.far (fO m)).Perm (laid P (m.past + 1))
          rw [laid_take hdd]
          rw [en_take hdd e0, pend_rest (by omega), List.append_nil, show b.near + 1 = fO m by omega] at hp
          exact hp
      rw [if_neg c1]
      by_cases c2 : fO m < b.near
      · rw [if_pos c2]
        have een : enB P b (comeM m (.got (boxB b b.near))) = b.near := en_rest rfl
        have y := x2 c2
        refine ⟨⟨by rw [een]; exact y, fun _ z => absurd z (by show ¬ 0 = 2; omega), fun _ z => absurd z (by show ¬ 0 = 3; omega), fun _ z => absurd z (by show ¬ 0 = 4; omega), fun _ _ z => absurd z (by show ¬ 0 = 1; omega), tlc _⟩, fun t dt => ⟨fun z => dt.a z, fun z e => ?_, fun z e => dt.d z e, dt.tl⟩, [.got (boxB b b.near)], rfl, fun L hp => ?_⟩
        · obtain ⟨_, y2⟩ := dt.c z e
          rw [een]
          exact ⟨y2 hdd e2 c2, fun _ z => absurd z (by show ¬ 0 = 2; omega)⟩
        · rw [een, pend_rest (by show ¬ 0 = 4; omega), show [Got.got (boxB b b.near)].filterMap gotI = [boxB b b.near] from rfl, List.append_nil]
          show (L ++ [boxB b b.near] ++ seg b b.far b.near).Perm (laid P (m.past + 1))
          rw [laid_take hdd]
          rw [en_take hdd e0, pend_rest (by omega), List.append_nil, seg_snoc (by omega), show b.near + 1 - 1 = b.near by omega] at hp
          refine List.Perm.trans ?_ hp
          rw [List.append_assoc]
          exact List.Perm.append_left L List.perm_append_comm
      · rw [if_neg c2]
        have ht' : P.1[({ m with small := 3, held := some (boxB b b.near) } : Mv).past]? = some .take := hdd
        have een : enB P b { m with small := 3, held := some (boxB b b.near) } = b.near + 1 := en_take ht' (by show ¬ 3 = 0; omega)
        refine ⟨⟨by rw [een]; exact hfe, fun _ z => absurd z (by show ¬ 3 = 2; omega), fun _ _ => ⟨by show fO m = b.near; omega, rfl, x1⟩, fun _ z => absurd z (by show ¬ 3 = 4; omega), fun i z _ => nl i z, htl⟩, fun t dt => ⟨fun z => dt.a z, fun z e => ?_, fun z e => dt.d z e, dt.tl⟩, [], by rw [List.append_nil], fun L hp => ?_⟩
        · obtain ⟨y1, _⟩ := dt.c z e
          rw [en_take hdd e0] at y1
          rw [een]
          exact ⟨y1, fun _ z => absurd z (by show ¬ 3 = 2; omega)⟩
        · rw [een, pend_rest (by show ¬ 3 = 4; omega), List.filterMap_nil, List.append_nil, List.append_nil]
          rw [en_take hdd e0, pend_rest (by omega), List.append_nil] at hp
          exact hp
    rw [if_neg e2]
    by_cases e3 : m.small = 3
    · rw [if_pos ⟨e3, by decide +kernel⟩]
      obtain ⟨x1, x2, x3⟩ := o.o3 hdd e3
      unfold fourthS
      by_cases c : b.far = fO m
      · rw [if_pos c]
        have ht' : P.1[({ m with small := 4 } : Mv).past]? = some .take := hdd
        have een : enB P { b with far := b.far + 1 } { m with small := 4 } = b.near + 1 := en_take ht' (by show ¬ 4 = 0; omega)
        refine ⟨⟨by rw [een]; show b.far + 1 ≤ b.near + 1; omega, fun _ z => absurd z (by show ¬ 4 = 2; omega), fun _ z => absurd z (by show ¬ 4 = 3; omega), fun _ _ => ⟨x1, by show b.far + 1 = fO m + 1; omega⟩, fun i z _ => nl i z, htl⟩, fun t dt => ⟨fun z => ?_, fun z e => ?_, fun z e => ?_, dt.tl⟩, [], by rw [List.append_nil], fun L hp => ?_⟩
        · have := dt.a z; show fO t ≤ b.far + 1; omega
        · have h1 := dt.a (by omega)
          have h2 : fO t = b.far + 1 := e
          omega
        · have h1 := dt.a (by omega)
          have h2 : fO t = b.far + 1 := e
          omega
        · rw [een, pend_four ht' rfl, List.filterMap_nil, List.append_nil]
          show (L ++ heldL m.held ++ seg b (b.far + 1) (b.near + 1)).Perm _
          rw [en_take hdd e0, pend_rest (by omega), List.append_nil, seg_cons (by omega), seg_nil (by omega)] at hp
          rw [x2, seg_nil (by omega), List.append_nil]
          rw [show b.far = b.near by omega] at hp
          exact hp
      · rw [if_neg c]
        have ht' : P.1[({ m with small := 4, held := none } : Mv).past]? = some .take := hdd
        have een : enB P b { m with small := 4, held := none } = b.near + 1 := en_take ht' (by show ¬ 4 = 0; omega)
        refine ⟨⟨by rw [een]; exact hfe, fun _ z => absurd z (by show ¬ 4 = 2; omega), fun _ z => absurd z (by show ¬ 4 = 3; omega), fun _ _ => ⟨x1, by show b.far = fO m + 1; omega⟩, fun i z _ => nl i z, htl⟩, fun t dt => ⟨fun z => dt.a z, fun z e => ?_, fun z e => dt.d z e, dt.tl⟩, [], by rw [List.append_nil], fun L hp => ?_⟩
        · obtain ⟨y1, _⟩ := dt.c z e
          rw [en_take hdd e0] at y1
          rw [een]
          exact ⟨y1, fun _ z => absurd z (by show ¬ 4 = 2; omega)⟩
        · rw [een, pend_four ht' rfl, List.filterMap_nil, List.append_nil]
          show (L ++ [] ++ seg b b.far (b.near + 1)).Perm _
          rw [List.append_nil]
          rw [en_take hdd e0, pend_rest (by omega), List.append_nil] at hp
          exact hp
    · rw [if_neg (fun z => e3 z.1)]
      have e4 : m.small = 4 := by clear hf; omega
      obtain ⟨x1, x2⟩ := o.o4 hdd e4
      have een : enB P { b with near := fO m + 1 } (comeM m (gotO m.held)) = fO m + 1 := en_rest rfl
      refine ⟨⟨by rw [een]; show b.far ≤ fO m + 1; omega, fun _ z => absurd z (by show ¬ 0 = 2; omega), fun _ z => absurd z (by show ¬ 0 = 3; omega), fun _ z => absurd z (by show ¬ 0 = 4; omega), fun _ _ z => absurd z (by show ¬ 0 = 1; omega), tlc _⟩, fun t dt => ⟨fun z => dt.a z, fun z e => ?_, fun z e => dt.d z e, dt.tl⟩, [gotO m.held], rfl, fun L hp => ?_⟩
      · obtain ⟨y1, _⟩ := dt.c z e
        rw [en_take hdd e0] at y1
        rw [een]
        exact ⟨by omega, fun _ z => absurd z (by show ¬ 0 = 2; omega)⟩
      · rw [een, pend_rest (by show ¬ 0 = 4; omega), gotI_held, List.append_nil]
        show (L ++ heldL m.held ++ seg b b.far (fO m + 1)).Perm (laid P (m.past + 1))
        rw [laid_take hdd]
        rw [en_take hdd e0, pend_four hdd e4, show b.near + 1 = fO m + 1 by omega] at hp
        exact hp
def gotsW (w : Wlk) : List Int := w.mvs.flatMap fun m => m.told.filterMap gotI
structure DInv (P : Play) (w : Wlk) : Prop where
  S : SInv P w
  own : DOwn P w.b (mvAt w 0)
  th : ∀ h, 0 < h → h < nW P → DTh P w.b (mvAt w 0) (mvAt w h)
  perm : (gotsW w ++ pendL P (mvAt w 0) ++ seg w.b w.b.far (enB P w.b (mvAt w 0))).Perm (laid P (mvAt w 0).past)
theorem flat_set {α β : Type} {f : α → List β} {m m' : α} {x : List β} (e : f m' = f m ++ x) : ∀ {l : List α} {h : Nat}, l[h]? = some m → ((l.set h m').flatMap f).Perm (l.flatMap f ++ x)
  | [], _, q => by simp at q
  | a :: t, 0, q => by
    have : a = m := by simpa using q
    subst this
    rw [List.set_cons_zero, List.flatMap_cons, List.flatMap_cons, e, List.append_assoc, List.append_assoc]
    exact List.Perm.append_left _ List.perm_append_comm
  | a :: t, h + 1, q => by
    rw [List.set_cons_succ, List.flatMap_cons, List.flatMap_cons, List.append_assoc]
    exact List.Perm.append_left _ (flat_set e (l := t) (h := h) (by simpa using q))
theorem DInv.move {P : Play} {w : Wlk} (D : DInv P w) {h : Nat} (hh : h < nW P) (hl : hasLeft P w h = true) : DInv P (moveW P "good" w h) := by
  have I := D.S
  have hlen : h < w.mvs.length := by rw [I.len]; exact hh
  have hm : w.mvs[h]? = some (mvAt w h) := getD_get mv0 hlen
  have hd : (mvAt w h).past < (dueL P).getD h 0 := of_decide_eq_true hl
  have I' := I.move (r := "good") hh hl
  have gp : ∀ (b' : Bx) (m' : Mv) gs, m'.told = (mvAt w h).told ++ gs → (gotsW (w.to h (b', m'))).Perm (gotsW w ++ gs.filterMap gotI) := fun b' m' gs e =>
    flat_set (f := fun m : Mv => m.told.filterMap gotI) (x := gs.filterMap gotI) (by show m'.told.filterMap gotI = _; rw [e, List.filterMap_append]) hm
  by_cases h0 : 0 < h
  · have em : moveW P "good" w h = w.to h (tryS "good" w.b (mvAt w h)) := by unfold moveW moveS; rw [if_pos h0]
    rw [em] at I' ⊢
    obtain ⟨q1, q2, q3, gs, q4, q5⟩ := try_d D.own (D.th h h0 hh) (I.th h h0 hh).ph
    have e0 : mvAt (w.to h (tryS "good" w.b (mvAt w h))) 0 = mvAt w 0 := by rw [mvAt_to hlen, if_neg (by omega)]
    refine ⟨I', by rw [e0]; exact q1, fun k hk hkn => ?_, ?_⟩
    · rw [e0, mvAt_to hlen]
      split
      · exact q2
      · exact q3 _ (D.th k hk hkn)
    · rw [e0]
      refine List.Perm.trans ?_ (q5 (gotsW w) D.perm)
      exact ((gp _ _ gs q4).append_right _).append_right _
  · have z : h = 0 := by omega
    subst z
    have em : moveW P "good" w 0 = w.to 0 (ownS P "good" w.b (mvAt w 0)) := by unfold moveW moveS; rw [if_neg (by omega)]
    rw [em] at I' ⊢
    obtain ⟨q1, q2, gs, q4, q5⟩ := own_d D.own I.own hd I.far0
    have e0 : mvAt (w.to 0 (ownS P "good" w.b (mvAt w 0))) 0 = (ownS P "good" w.b (mvAt w 0)).2 := by rw [mvAt_to hlen, if_pos rfl]
    refine ⟨I', by rw [e0]; exact q1, fun k hk hkn => ?_, ?_⟩
    · rw [e0, mvAt_to hlen, if_neg (by omega)]
      exact q2 _ (D.th k hk hkn)
    · rw [e0]
      refine List.Perm.trans ?_ (q5 (gotsW w) D.perm)
      exact ((gp _ _ gs q4).append_right _).append_right _
theorem DInv.start (P : Play) : DInv P (walk0 P) := by
  have em : ∀ h, mvAt (walk0 P) h = mv0 := fun h => rep_at
  have eg : gotsW (walk0 P) = [] := by
    unfold gotsW walk0
    generalize nW P = n
    show (List.replicate n mv0).flatMap _ = []
    induction n with
    | zero => rfl
    | succ n ih => rw [List.replicate_succ, List.flatMap_cons, ih]; rfl
  refine ⟨SInv.start P, ?_, fun h _ _ => ?_, ?_⟩
  · rw [em]
    exact ⟨by rw [en_rest rfl]; exact Int.le_refl _, fun _ z => absurd z (by show ¬ 0 = 2; omega), fun _ z => absurd z (by show ¬ 0 = 3; omega), fun _ z => absurd z (by show ¬ 0 = 4; omega), fun _ _ z => absurd z (by show ¬ 0 = 1; omega), rfl⟩
  · rw [em, em]
    exact ⟨fun z => absurd z (by show ¬ 1 ≤ 0; omega), fun z => absurd z (by show ¬ 2 ≤ 0; omega), fun z => absurd z (by show ¬ 0 = 3; omega), rfl⟩
  · rw [em, eg, en_rest rfl, pend_rest (by show ¬ 0 = 4; omega)]
    exact List.Perm.refl _
theorem DInv.go {P : Play} : ∀ {w : Wlk} {hs : List Nat}, DInv P w → Legal P "good" w hs → DInv P (goW P "good" w hs)
  | _, [], D, _ => D
  | w, a :: t, D, l => DInv.go (w := moveW P "good" w a) (hs := t) (D.move l.1 l.2.1) l.2.2
theorem DInv.fin {P : Play} {w : Wlk} (D : DInv P w) (hn : ∀ h, h < nW P → hasLeft P w h = false) :
    (gotsW w ++ leftL w.b).Perm (P.1.filterMap layI) ∧ (mvAt w 0).told.length + (P.1.filterMap layI).length = P.1.length ∧ ∀ h, 0 < h → h < nW P → (mvAt w h).told.length = (dueL P).getD h 0 := by
  have I := D.S
  have n0 : 0 < nW P := Nat.succ_pos _
  have p0 : (mvAt w 0).past = P.1.length := by
    have h1 := of_decide_eq_false (hn 0 n0)
    have h2 := I.own.past
    have h3 : (dueL P).getD 0 0 = P.1.length := rfl
    omega
  have s0 : (mvAt w 0).small = 0 := by
    have := I.own.mid
    by_cases z : (mvAt w 0).small = 0
    · exact z
    · have := this (by omega); omega
  have el : laid P P.1.length = P.1.filterMap layI := by unfold laid; rw [List.take_length]
  have hp := D.perm
  rw [p0, el, en_rest s0, pend_rest (by omega), List.append_nil] at hp
  refine ⟨hp, ?_, fun h h0 hh => ?_⟩
  · have := D.own.tl
    rw [p0, el] at this
    exact this
  · have h1 := of_decide_eq_false (hn h hh)
    have h2 := (I.th h h0 hh).past
    have h3 := (D.th h h0 hh).tl
    omega
end Far
set_option Elab.async false
set_option linter.all false
set_option maxRecDepth 100000
set_option maxHeartbeats 4000000
namespace Far
open PySem L2
def remM (d : Nat) (m : Mv) : Nat := 5 * (d - m.past) - m.small
def remW (P : Play) (w : Wlk) : Nat := ((List.range (nW P)).map fun h => remM ((dueL P).getD h 0) (mvAt w h)).sum
theorem sum_same {n : Nat} {f g : Nat → Nat} (h : ∀ k, k < n → f k = g k) : ((List.range n).map f).sum = ((List.range n).map g).sum := by
  rw [List.map_congr_left fun k hk => h k (List.mem_range.mp hk)]
theorem sum_less {f g : Nat → Nat} {h : Nat} (e : f h + 1 ≤ g h) (o : ∀ k, k ≠ h → f k = g k) : ∀ {n : Nat}, h < n → ((List.range n).map f).sum + 1 ≤ ((List.range n).map g).sum
  | 0, q => by omega
  | n + 1, q => by
    rw [List.range_succ, List.map_append, List.map_append, List.sum_append, List.sum_append]
    simp only [List.map_cons, List.map_nil, List.sum_cons, List.sum_nil]
    by_cases z : h = n
    · subst z
      rw [sum_same (f := f) (g := g) (n := h) fun k hk => o k (by omega)]
      omega
    · have ih := sum_less e o (n := n) (by omega)
      have := o n (Ne.symm z)
      omega
theorem sum_le {f : Nat → Nat} {h : Nat} : ∀ {n : Nat}, h < n → f h ≤ ((List.range n).map f).sum
  | 0, q => by omega
  | n + 1, q => by
    rw [List.range_succ, List.map_append, List.sum_append]
    simp only [List.map_cons, List.map_nil, List.sum_cons, List.sum_nil]
    by_cases z : h = n
    · subst z; omega
    · have := sum_le (f := f) (n := n) (h := h) (by omega); omega
theorem SInv.small4 {P : Play} {w : Wlk} (I : SInv P w) {h : Nat} (hh : h < nW P) (hl : hasLeft P w h = true) : (mvAt w h).small ≤ 4 ∧ (mvAt w h).past < (dueL P).getD h 0 := by
  have hd : (mvAt w h).past < (dueL P).getD h 0 := of_decide_eq_true hl
  refine ⟨?_, hd⟩
  by_cases h0 : 0 < h
  · have := (I.th h h0 hh).ph; omega
  · have z : h = 0 := by omega
    subst z
    by_cases s0 : (mvAt w 0).small = 0
    · omega
    · have hd' : (mvAt w 0).past < P.1.length := hd
      obtain ⟨d, hdd⟩ : ∃ d, P.1[(mvAt w 0).past]? = some d := ⟨_, List.getElem?_eq_getElem hd'⟩
      cases d with
      | lay i => have := (I.own.lay i hdd (by omega)).1; omega
      | take => exact (I.own.take hdd (by omega)).1
theorem rem_step {P : Play} {h : Nat} {b : Bx} {m : Mv} {d : Nat} (hs : m.small ≤ 4) (hd : m.past < d) : remM d (moveS P "good" h b m).2 + 1 ≤ remM d m := by
  have up : ∀ m' : Mv, m'.past = m.past → m'.small = m.small + 1 → remM d m' + 1 ≤ remM d m := fun m' e1 e2 => by unfold remM; rw [e1, e2]; omega
  have en : ∀ m' : Mv, m'.past = m.past + 1 → m'.small = 0 → remM d m' + 1 ≤ remM d m := fun m' e1 e2 => by unfold remM; rw [e1, e2]; omega
  unfold moveS
  split
  · unfold tryS
    by_cases e0 : m.small = 0
    · rw [if_pos e0]; exact up _ rfl (by show 1 = _; omega)
    rw [if_neg e0]
    by_cases e1 : m.small = 1
    · rw [if_pos e1]
      split
      · exact en _ rfl rfl
      · exact up _ rfl (by show 2 = _; omega)
    rw [if_neg e1]
    by_cases e2 : m.small = 2
    · rw [if_pos e2]; exact up _ rfl (by show 3 = _; omega)
    rw [if_neg e2]
    split
    · exact en _ rfl rfl
    · exact en _ rfl rfl
  · have tk : remM d (takeS "good" b m).2 + 1 ≤ remM d m := by
      unfold takeS
      by_cases e0 : m.small = 0
      · rw [if_pos e0]; exact up _ rfl (by show 1 = _; omega)
      rw [if_neg e0]
      by_cases e1 : m.small = 1
      · rw [if_pos e1]; exact up _ rfl (by show 2 = _; omega)
      rw [if_neg e1]
      by_cases e2 : m.small = 2
      · rw [if_pos e2]
        unfold thirdS
        split
        · exact en _ rfl rfl
        · split
          · exact en _ rfl rfl
          · exact up _ rfl (by show 3 = _; omega)
      rw [if_neg e2]
      split
      · rename_i c
        unfold fourthS
        split
        · exact up _ rfl (by show 4 = _; omega)
        · exact up _ rfl (by show 4 = _; omega)
      · exact en _ rfl rfl
    unfold ownS
    split
    · unfold layS
      by_cases e0 : m.small = 0
      · rw [if_pos e0]; exact up _ rfl (by show 1 = _; omega)
      · rw [if_neg e0]; exact en _ rfl rfl
    · exact tk
theorem remW_step {P : Play} {w : Wlk} (I : SInv P w) {h : Nat} (hh : h < nW P) (hl : hasLeft P w h = true) : remW P (moveW P "good" w h) + 1 ≤ remW P w := by
  obtain ⟨h4, hd⟩ := I.small4 hh hl
  have hlen : h < w.mvs.length := by rw [I.len]; exact hh
  unfold remW
  refine sum_less (h := h) ?_ (fun k hk => ?_) hh
  · unfold moveW
    rw [mvAt_to hlen, if_pos rfl]
    exact rem_step h4 hd
  · unfold moveW
    rw [mvAt_to hlen, if_neg hk]
theorem remW_pos {P : Play} {w : Wlk} (I : SInv P w) {h : Nat} (hh : h < nW P) (hl : hasLeft P w h = true) : 1 ≤ remW P w := by
  obtain ⟨h4, hd⟩ := I.small4 hh hl
  have h1 : 1 ≤ remM ((dueL P).getD h 0) (mvAt w h) := by unfold remM; omega
  exact Nat.le_trans h1 (sum_le (f := fun h => remM ((dueL P).getD h 0) (mvAt w h)) hh)
theorem remW_start {P : Play} (ok : PlayOk P) : remW P (walk0 P) ≤ 60 := by
  have em : ∀ h, mvAt (walk0 P) h = mv0 := fun h => rep_at
  have hr : ∀ d, remM d mv0 = 5 * d := fun d => by unfold remM mv0; simp
  unfold remW
  simp only [em, hr]
  have h0 := ok.d
  have ht := ok.t
  obtain ⟨D, T⟩ := P
  have h0' : D.length ≤ 6 := h0
  match T, ht, ok.n with
  | [], _, _ => show 5 * D.length + 0 ≤ 60; omega
  | [a], _, hn => have := hn a (by simp); show 5 * D.length + (5 * a + 0) ≤ 60; omega
  | [a, b], _, hn => have := hn a (by simp); have := hn b (by simp); show 5 * D.length + (5 * a + (5 * b + 0)) ≤ 60; omega
  | _ :: _ :: _ :: _, ht, _ => exact absurd ht (by simp)
structure TE (P : Play) (hs : List Nat) : Prop where
  lg : Legal P "good" (walk0 P) hs
  rm : hs.length + remW P (goW P "good" (walk0 P) hs) ≤ 60
def DoneW (P : Play) (w : Wlk) : Prop := ∀ h, h < nW P → hasLeft P w h = false
theorem TE.inv {P : Play} {hs : List Nat} (t : TE P hs) : SInv P (goW P "good" (walk0 P) hs) := Legal.inv (SInv.start P) t.lg
theorem TE.step {P : Play} {hs : List Nat} (t : TE P hs) {h : Nat} (hh : h < nW P) (hl : hasLeft P (goW P "good" (walk0 P) hs) h = true) : TE P (hs ++ [h]) := by
  have := remW_step t.inv hh hl
  have hr := t.rm
  refine ⟨legal_app t.lg ⟨hh, hl, trivial⟩, ?_⟩
  rw [goW_app, List.length_append, List.length_singleton]
  omega
theorem TE.start {P : Play} (ok : PlayOk P) : TE P [] := ⟨trivial, by show 0 + remW P (walk0 P) ≤ 60; have := remW_start ok; omega⟩
def GoodI (P : Play) (i : Nat) (hs : List Nat) : Prop := remW P (goW P "good" (walk0 P) hs) + i ≤ 60 ∨ DoneW P (goW P "good" (walk0 P) hs)
theorem GoodI.step {P : Play} {i : Nat} {hs : List Nat} (t : TE P hs) (g : GoodI P i hs) {h : Nat} (hh : h < nW P) (hl : hasLeft P (goW P "good" (walk0 P) hs) h = true) : GoodI P (i + 1) (hs ++ [h]) := by
  have := remW_step t.inv hh hl
  rcases g with g | g
  · refine .inl ?_
    rw [goW_app]; omega
  · rw [g h hh] at hl; cases hl
theorem GoodI.last {P : Play} {hs : List Nat} (t : TE P hs) (g : GoodI P 60 hs) : DoneW P (goW P "good" (walk0 P) hs) := by
  rcases g with g | g
  · intro h hh
    cases e : hasLeft P (goW P "good" (walk0 P) hs) h with
    | false => rfl
    | true => have := remW_pos t.inv hh e; omega
  · exact g
end Far
set_option Elab.async false
set_option linter.all false
set_option maxRecDepth 100000
set_option maxHeartbeats 4000000
set_option pp.maxSteps 500
namespace Far
open PySem L2
def spLToEnd (K : PySem.W.Frag) : Sp := fun vs H Q _ => ∃ (pvv : V) (P : Play) (sa : Addr) (ds : List Int), vs = [pvv, .ref sa] ∧ IsPlay K H pvv P ∧ PlayOk P ∧ H sa = some (.lst (ds.map V.int)) ∧ (∀ d ∈ ds, Dig d) ∧ 0 < ds.length ∧ ds.length ≤ 100 ∧
  ∀ (T : Addr) (hs : List Nat) H', Same H H' → H' T = some (.tup (hs.map natV)) → TE P hs → DoneW P (goW P "good" (walk0 P) hs) → Q (.ref T) H'
structure InE (K : PySem.W.Frag) (P : Play) (H : Hp) (F : Addr) (sv : V) (hs : List Nat) (H2 : Hp) : Prop where
  sm : Same H H2
  st : IsLS K H2 sv (goW P "good" (walk0 P) hs)
  fl : H2 F = some (.lst (hs.map natV))
  te : TE P hs
theorem InE.same {K : PySem.W.Frag} {P : Play} {H : Hp} {F : Addr} {sv : V} {hs : List Nat} {H2 H3 : Hp} (A : InE K P H F sv hs H2) (s : Same H2 H3) : InE K P H F sv hs H3 := ⟨A.sm.trans s, A.st.same s, s _ _ A.fl, A.te⟩
theorem InE.add {K : PySem.W.Frag} {P : Play} {H : Hp} {F : Addr} {sv sv' : V} {hs : List Nat} {H2 H3 : Hp} (A : InE K P H F sv hs H2) (hF : H F = none) {h : Nat} (hh : h < nW P) (hl : hasLeft P (goW P "good" (walk0 P) hs) h = true) (s : Same H2 H3) (q : IsLS K H3 sv' (moveW P "good" (goW P "good" (walk0 P) hs) h)) :
    InE K P H F sv' (hs ++ [h]) (upd H3 F (.lst (hs.map natV ++ [natV h]))) := by
  have hf3 := s _ _ A.fl
  refine ⟨fun b o e => by rw [upd_ne (ne_of_none e hF)]; exact s _ _ (A.sm b o e), ?_, by rw [upd_same, List.map_append]; rfl, A.te.step hh hl⟩
  rw [goW_app]
  exact q.kt (KT.but (But.put _ _ _) hf3)
theorem dp_natsW {K : PySem.W.Frag} {H : Hp} : ∀ l : List Nat, DpAll K H (l.map natV) ((l.map fun k : Nat => (k : Int)).map PyData.int)
  | [] => .nil
  | _ :: r => .cons (.int _) (dp_natsW r)
section
variable {P : Program} {w : World} {K : PySem.W.Frag} {mg : Str → Option Value} {base : Heap} {C : Addr}
abbrev n_lToEnd : List Str := ["play", "some", "state", "found", "k", "rest", "one", "who", "turn", "more"]
theorem sc_lToEnd : FnScope n_lToEnd ["play", "some"] (defScope sLToEnd) := ⟨rfl, rfl, rfl, by decide +kernel, rfl, by decide +kernel, by decide +kernel⟩
theorem ok_lToEnd {f : Addr} {fd : FuncData} (F : Fun K "_law_to_end" "_law_to_end" sLToEnd f fd) (T : TxtW K mg C)
    {f__law_first : Addr} {d__law_first : FuncData} (G__law_first : FnOk P w K mg base CX0 1 f__law_first d__law_first ["play"] (spLFirst K)) (b__law_first : Binds K d__law_first ["play"] []) (k__law_first : PySem.W.keepIn K (.ref f__law_first) = true) (m__law_first : mg "_law_first" = some (.ref f__law_first))
    {f__law_small_step : Addr} {d__law_small_step : FuncData} (G__law_small_step : FnOk P w K mg base CX0 2 f__law_small_step d__law_small_step ["play", "rules", "state", "who"] (spLStep K)) (b__law_small_step : Binds K d__law_small_step ["play", "rules", "state", "who"] []) (k__law_small_step : PySem.W.keepIn K (.ref f__law_small_step) = true) (m__law_small_step : mg "_law_small_step" = some (.ref f__law_small_step)) :
    FnOk P w K mg base CX0 3 f fd ["play", "some"] (spLToEnd K) := by
  refine F.ok sc_lToEnd (fun vs H Q E h => ?_) (fun cdv Ar outer s H vs Q E hr h => ?_)
  · obtain ⟨pvv, P, sa, ds, rfl, _⟩ := h
    rfl
  · obtain ⟨pvv, P, sa, ds, rfl, hP, ok, hsa, hdg, hd0, hd1, q⟩ := h
    refine ⟨_, pss_cons (ps_set (i := 2) sc_lToEnd.nd rfl (Or.inr rfl) (pe_call G__law_first (hr.mono (by decide)) rfl m__law_first k__law_first b__law_first .nil pass0 (pa_cons (pv 0) pa_nil))) (pss_cons (ps_set (i := 3) sc_lToEnd.nd rfl (Or.inl rfl) (pe_lst (pa_nil))) (pss_cons (ps_mid (ps_for PassesOwn.never rfl (pi_range1 rfl T.range (pa_cons (pe_int) pa_nil)) (pg_name (i := 4) sc_lToEnd.nd rfl (Or.inl rfl)) (pss_cons (ps_setLc (i := 5) (own := [("who", 7)]) (g := gName 7) (by rfl) sc_lToEnd.nd rfl rfl (sw_true rfl rfl rfl (by decide +kernel)) (pi_range1 rfl T.range (pa_cons (pe_op op_add (pe_int) (pe_callB call_len_seq rfl T.len PySem.boot_len (pa_cons (pe_ix ix_tup (pv 0) (pe_int) (fun _ _ => rfl)) pa_nil))) pa_nil)) (blkOk_by (own := [("who", 7)]) (N := n_lToEnd) (sc := defScope sLToEnd) (by decide +kernel)) (fun _ _ _ _ _ => pg_name (i := 7) sc_lToEnd.nd rfl (Or.inl rfl)) (fun _ _ _ _ _ => pts_one (pt_cmpR op_notN (pe_call G__law_small_step (hr.mono (by decide)) rfl m__law_small_step k__law_small_step b__law_small_step .nil pass0 (pa_cons (pv 0) (pa_cons (pe_str) (pa_cons (pv 2) (pa_cons (pv 7) pa_nil))))) (pe_non) (nomark _))) (fun _ _ _ _ _ => pv 7)) (pss_one (ps_mid (ps_if (pt_cmpR (op_neD hr.units) (pv 5) (pe_lst (pa_nil)) (nomark _)) (pss_cons (ps_set (i := 6) sc_lToEnd.nd rfl (Or.inl rfl) (pe_op op_fdiv (pe_ix ix_list (pv 1) (pe_op op_mod (pv 4) (pe_callB call_len_seq rfl T.len PySem.boot_len (pa_cons (pv 1) pa_nil))) (fun _ _ => rfl)) (pe_op op_add (pe_int) (pe_op op_fdiv (pv 4) (pe_callB call_len_seq rfl T.len PySem.boot_len (pa_cons (pv 1) pa_nil)))))) (pss_cons (ps_set (i := 7) sc_lToEnd.nd rfl (Or.inl rfl) (pe_ix ix_list (pv 5) (pe_op op_mod (pv 6) (pe_callB call_len_seq rfl T.len PySem.boot_len (pa_cons (pv 5) pa_nil))) (fun _ _ => rfl))) (pss_one (ps_for PassesOwn.never rfl (pi_range1 rfl T.range (pa_cons (pe_ix ix_list (pe_lst (pa_cons (pe_int) (pa_cons (pe_int) (pa_cons (pe_int) (pa_cons (pe_int) (pa_cons (pe_int) pa_nil)))))) (pe_op op_mod (pe_op op_fdiv (pv 6) (pe_int)) (pe_int)) (fun _ _ => rfl)) pa_nil)) (pg_name (i := 8) sc_lToEnd.nd rfl (Or.inl rfl)) (pss_cons (ps_set (i := 9) sc_lToEnd.nd rfl (Or.inl rfl) (pe_call G__law_small_step (hr.mono (by decide)) rfl m__law_small_step k__law_small_step b__law_small_step .nil pass0 (pa_cons (pv 0) (pa_cons (pe_str) (pa_cons (pv 2) (pa_cons (pv 7) pa_nil)))))) (pss_one (ps_mid (ps_if (pt_cmpR op_notN (pv 9) (pe_non) (nomark _)) (pss_cons (ps_set (i := 2) sc_lToEnd.nd rfl (Or.inr rfl) (pv 9)) (pss_one (ps_expr (pe_bm PySem.F.plainAttrs_list PySem.F.slot_list_append PySem.F.type_list_append mt_append (pv 3) (pa_cons (pv 7) pa_nil))))) pss_nil)))))))) pss_nil)))))) (pss_cons (ps_for PassesOwn.never rfl (pi_range1 rfl T.range (pa_cons (pe_int) pa_nil)) (pg_name (i := 8) sc_lToEnd.nd rfl (Or.inl rfl)) (pss_one (ps_for PassesOwn.never rfl (pi_range1 rfl T.range (pa_cons (pe_op op_add (pe_int) (pe_callB call_len_seq rfl T.len PySem.boot_len (pa_cons (pe_ix ix_tup (pv 0) (pe_int) (fun _ _ => rfl)) pa_nil))) pa_nil)) (pg_name (i := 7) sc_lToEnd.nd rfl (Or.inl rfl)) (pss_cons (ps_set (i := 9) sc_lToEnd.nd rfl (Or.inl rfl) (pe_call G__law_small_step (hr.mono (by decide)) rfl m__law_small_step k__law_small_step b__law_small_step .nil pass0 (pa_cons (pv 0) (pa_cons (pe_str) (pa_cons (pv 2) (pa_cons (pv 7) pa_nil)))))) (pss_one (ps_mid (ps_if (pt_cmpR op_notN (pv 9) (pe_non) (nomark _)) (pss_cons (ps_set (i := 2) sc_lToEnd.nd rfl (Or.inr rfl) (pv 9)) (pss_one (ps_expr (pe_bm PySem.F.plainAttrs_list PySem.F.slot_list_append PySem.F.type_list_append mt_append (pv 3) (pa_cons (pv 7) pa_nil))))) pss_nil))))))) (pss_one (ps_ret (pe_callTy call_tuple_of (by rfl) T.tuple (by decide +kernel) (pa_cons (pv 3) pa_nil))))))), ?_⟩
    obtain ⟨pa, da, ta, dvs, rfl, h1, h2, h3, h4⟩ := id hP
    have ot := ok.t
    have hn3 : nW P ≤ 3 := by unfold nW; omega
    refine ⟨_, rfl, _, P, rfl, hP, by omega, fun sv0 H1 s1 hs0 => ?_⟩
    refine ⟨(by show 0 ≤ sizeLine; decide), fun F eF => ?_⟩
    have t2 := same_new eF (.lst [])
    have hF : H F = none := s1.free eF
    have A0 : InE K P H F sv0 [] (upd H1 F (.lst [])) := ⟨s1.trans t2, hs0.same t2, upd_same, TE.start ok⟩
    generalize upd H1 F (.lst []) = H2 at *
    have el : (fun i j : Int => V.int (i + j)) 1 ((((P.2.map natV).length : Nat) : Int)) = natV (nW P) := by
      rw [List.length_map]; show V.int (1 + (P.2.length : Int)) = V.int (((P.2.length + 1 : Nat)) : Int); congr 1; omega
    refine ⟨fun σ' H3 => ∃ (sv : V) (hs : List Nat) (v4 v5 v6 v7 v8 v9 : Option V), σ' = [some (.ref pa), some (.ref sa), some sv, some (.ref F), v4, v5, v6, v7, v8, v9] ∧ InE K P H F sv hs H3, ?_, ?_⟩
    · refine ⟨_, rfl, by decide, by decide, ?_⟩
      refine for_range (lo := 0) (n := 60) (fun i σ H3 => ∃ (sv : V) (hs : List Nat) (v4 v5 v6 v7 v8 v9 : Option V), σ = [some (.ref pa), some (.ref sa), some sv, some (.ref F), v4, v5, v6, v7, v8, v9] ∧ InE K P H F sv hs H3)
        ⟨sv0, [], none, none, none, none, none, none, rfl, A0⟩ ?_ (fun σ H3 h => h)
      rintro i σ H3 hi ⟨sv, hs, v4, v5, v6, v7, v8, v9, rfl, A3⟩
      have kt3 : KT K H H3 := KT.same A3.sm
      refine ⟨_, rfl, pa, _, _, _, rfl, rfl, kt3 _ _ h1, atI_nat (j := 1) rfl, ta, _, rfl, .inr (kt3 _ _ h4), _, _, rfl, rfl, ?_⟩
      rw [el]
      refine ⟨_, rfl, by omega, by omega, fun D eD => ?_⟩
      refine lc_range (lo := 0) (n := ((nW P : Nat) : Int).toNat) (fun j H4 => InE K P H F sv hs H4 ∧ ∃ ls : List Nat, H4 D = some (.lst (ls.map natV)) ∧ ls.length ≤ j ∧ ∀ x ∈ ls, x < nW P)
        ⟨A3.same (same_new eD _), [], upd_same, Nat.le_refl _, fun x z => (nomatch z)⟩ ?_ ?_
      · rintro j H4 hj ⟨A4, ls, hD4, hl4, hx4⟩
        rw [Int.toNat_natCast] at hj
        rw [Int.zero_add]
        have hDF : D ≠ F := fun z => by rw [z, A3.fl] at eD; cases eD
        have nD : H D = none := A3.sm.free eD
        have add : ∀ (H5 : Hp), InE K P H F sv hs H5 → Same H4 H5 → ∃ acc, H5 D = some (.lst acc) ∧ acc.length < sizeLine ∧ InE K P H F sv hs (upd H5 D (.lst (acc ++ [natV j]))) ∧ ∃ ls : List Nat, (upd H5 D (.lst (acc ++ [natV j]))) D = some (.lst (ls.map natV)) ∧ ls.length ≤ j + 1 ∧ ∀ x ∈ ls, x < nW P := fun H5 A5 s5 => by
          have hD5 := s5 _ _ hD4
          refine ⟨_, hD5, small1000 (by rw [List.length_map]; omega), ⟨fun b o e => by rw [upd_ne (ne_of_none e nD)]; exact A5.sm b o e, A5.st.kt (KT.but (But.put _ _ _) hD5), by rw [upd_ne (Ne.symm hDF)]; exact A5.fl, A5.te⟩, ls ++ [j], by rw [upd_same, List.map_append]; rfl, by rw [List.length_append, List.length_singleton]; omega, fun x hx => ?_⟩
          rcases List.mem_append.mp hx with z | z
          · exact hx4 x z
          · rw [List.mem_singleton.mp z]; exact hj
        refine ⟨rfl, _, rfl, _, rfl, _, rfl, _, _, P, _, j, rfl, hP.kt (KT.same A4.sm), ok, A4.st, A4.te.inv, hj, fun hl H5 s5 => ?_, fun hl v H5 s5 q5 => ?_⟩
        · have A5 := A4.same s5
          refine ⟨rfl, _, rfl, ?_⟩
          refine iteF ?_
          exact ⟨A5, ls, s5 _ _ hD4, by omega, hx4⟩
        · obtain ⟨va, _, _, _, rfl, _⟩ := id q5
          refine ⟨rfl, _, rfl, ?_⟩
          refine iteT ?_
          exact ⟨_, rfl, add H5 (A4.same s5) s5⟩
      rintro H4 ⟨A4, ls, hD4, hl4, hx4⟩
      rw [Int.toNat_natCast] at hl4
      refine ⟨fun σ' H5 => ∃ (sv : V) (hs : List Nat) (v4 v5 v6 v7 v8 v9 : Option V), σ' = [some (.ref pa), some (.ref sa), some sv, some (.ref F), v4, v5, v6, v7, v8, v9] ∧ InE K P H F sv hs H5, ?_, fun σ' H' h => h⟩
      refine ⟨_, rfl, (by show 0 ≤ sizeLine; decide), fun N eN => ?_⟩
      have t5 := same_new eN (.lst [])
      have gN : (upd H4 N (.lst [])) N = some (.lst []) := upd_same
      have A5 := A4.same t5
      have hD5 := t5 _ _ hD4
      generalize upd H4 N (.lst []) = H5 at *
      refine ⟨_, _, .lst (SqL.of hD5) (dp_natsW _), .lst (SqL.of gN) .nil, ints_shaped _, by decide +kernel, _, rfl, ?_⟩
      rw [ints_nil, isEmpty_map']
      cases els : ls with
      | nil =>
        refine iteF ?_
        exact ⟨sv, hs, _, _, _, _, _, _, rfl, A5⟩
      | cons x0 lr =>
        refine iteT ?_
        have hlp : 0 < ls.length := by rw [els]; exact Nat.succ_pos _
        have hsa5 := A5.sm _ _ hsa
        have hll : (ds.map V.int).length = ds.length := List.length_map ..
        have hlm : (ls.map natV).length = ls.length := List.length_map ..
        have z0 := Int.emod_nonneg (0 + (i : Int)) (show ((ds.length : Nat) : Int) ≠ 0 by omega)
        have z1 := Int.emod_lt_of_pos (0 + (i : Int)) (show (0 : Int) < ((ds.length : Nat) : Int) by omega)
        obtain ⟨dv, hdv, hdv'⟩ := at_int (xs := ds.map V.int) z0 (by rw [hll]; exact z1)
        obtain ⟨d, _, rfl⟩ := mapAt' hdv
        have y0 : 0 ≤ (0 + (i : Int)) / ((ds.length : Nat) : Int) := Int.ediv_nonneg (by omega) (by omega)
        have y1 : (0 + (i : Int)) / ((ds.length : Nat) : Int) ≤ 0 + (i : Int) := Int.ediv_le_self _ (by omega)
        refine ⟨_, rfl, _, rfl, _, rfl, sa, _, rfl, .inl (SqL.of hsa5), _, _, rfl, rfl, by rw [hll]; omega, sa, _, _, _, rfl, rfl, SqL.of hsa5, by rw [hll]; exact hdv', _, rfl, _, rfl, sa, _, rfl, .inl (SqL.of hsa5), _, _, rfl, rfl, by rw [hll]; exact ⟨by omega, by omega⟩, _, _, rfl, rfl, _, _, rfl, rfl, by rw [hll]; exact ⟨by omega, by omega⟩, ?_⟩
        rw [hll]
        obtain ⟨one, hone⟩ : ∃ one : Int, d / (1 + (0 + (i : Int)) / ((ds.length : Nat) : Int)) = one := ⟨_, rfl⟩
        rw [show (fun i j : Int => V.int (i / j)) d (1 + (0 + (i : Int)) / ((ds.length : Nat) : Int)) = V.int one from congrArg V.int hone]
        have w0 := Int.emod_nonneg one (show ((ls.length : Nat) : Int) ≠ 0 by omega)
        have w1 := Int.emod_lt_of_pos one (show (0 : Int) < ((ls.length : Nat) : Int) by omega)
        obtain ⟨wv, hwv, hwv'⟩ := at_int (xs := ls.map natV) w0 (by rw [hlm]; exact w1)
        obtain ⟨h, hhm, rfl⟩ := mapAt' hwv
        have hh := hx4 h (List.mem_of_getElem? hhm)
        refine ⟨_, rfl, _, rfl, _, rfl, D, _, rfl, .inl (SqL.of hD5), _, _, rfl, rfl, by rw [hlm]; omega, D, _, _, _, rfl, rfl, SqL.of hD5, by rw [hlm]; exact hwv', ?_⟩
        refine ⟨(by show 5 ≤ sizeLine; decide), fun L eL => ?_⟩
        have t6 := same_new eL (.lst [.int 1, .int 1, .int 2, .int 3, .int 9])
        have m0 := Int.emod_nonneg (one / 6) (show (5 : Int) ≠ 0 by decide)
        have m1 := Int.emod_lt_of_pos (one / 6) (show (0 : Int) < 5 by decide)
        obtain ⟨y, hy, hy'⟩ := at_int (xs := [V.int 1, .int 1, .int 2, .int 3, .int 9]) m0 (by show one / 6 % 5 < 5; exact m1)
        obtain ⟨n, rfl, hn9⟩ : ∃ n : Nat, y = natV n ∧ n ≤ 9 := by
          have hm := List.mem_of_getElem? hy
          simp only [List.mem_cons, List.not_mem_nil, or_false] at hm
          rcases hm with e | e | e | e | e
          · exact ⟨1, e, by decide⟩
          · exact ⟨1, e, by decide⟩
          · exact ⟨2, e, by decide⟩
          · exact ⟨3, e, by decide⟩
          · exact ⟨9, e, by decide⟩
        refine ⟨_, rfl, _, _, rfl, rfl, ⟨by decide, by decide⟩, _, _, rfl, rfl, (by show (0 : Int) < 5; decide), L, _, _, _, rfl, rfl, SqL.of upd_same, hy', _, rfl, by omega, by omega, ?_⟩
        have A6 := A5.same t6
        generalize upd H5 L (.lst [.int 1, .int 1, .int 2, .int 3, .int 9]) = H6 at *
        refine for_range (lo := 0) (n := ((n : Nat) : Int).toNat) (fun k σ H7 => ∃ (sv : V) (hs : List Nat) (v8 v9 : Option V), σ = [some (.ref pa), some (.ref sa), some sv, some (.ref F), some (.int (0 + (i : Int))), some (.ref D), some (.int one), some (natV h), v8, v9] ∧ InE K P H F sv hs H7)
          ⟨sv, hs, _, _, rfl, A6⟩ ?_ ?_
        · rintro k σ H7 hk ⟨sv, hs, v8, v9, rfl, A7⟩
          refine ⟨_, rfl, _, rfl, _, rfl, _, _, P, _, h, rfl, hP.kt (KT.same A7.sm), ok, A7.st, A7.te.inv, hh, fun hl H8 s8 => ?_, fun hl v H8 s8 q8 => ?_⟩
          · have A8 := A7.same s8
            refine ⟨fun σ' H9 => ∃ (sv : V) (hs : List Nat) (v8 v9 : Option V), σ' = [some (.ref pa), some (.ref sa), some sv, some (.ref F), some (.int (0 + (i : Int))), some (.ref D), some (.int one), some (natV h), v8, v9] ∧ InE K P H F sv hs H9, ?_, fun σ' H' h => h⟩
            refine ⟨_, rfl, rfl, _, rfl, ?_⟩
            refine iteF ?_
            exact ⟨sv, hs, _, _, rfl, A8⟩
          · obtain ⟨va, _, _, _, rfl, _⟩ := id q8
            refine ⟨fun σ' H9 => ∃ (sv : V) (hs : List Nat) (v8 v9 : Option V), σ' = [some (.ref pa), some (.ref sa), some sv, some (.ref F), some (.int (0 + (i : Int))), some (.ref D), some (.int one), some (natV h), v8, v9] ∧ InE K P H F sv hs H9, ?_, fun σ' H' h => h⟩
            refine ⟨_, rfl, rfl, _, rfl, ?_⟩
            refine iteT ?_
            have hfl := s8 _ _ A7.fl
            have hrm := A7.te.rm
            refine ⟨_, rfl, ?_⟩
            refine ⟨_, rfl, .inl ⟨rfl, _, SqL.of hfl⟩, _, rfl, F, _, _, rfl, rfl, hfl, small1000 (by rw [List.length_map]; omega), ?_⟩
            exact ⟨_, hs ++ [h], _, _, rfl, A7.add hF hh hl s8 q8⟩
        · rintro σ H7 ⟨sv, hs, v8, v9, rfl, A7⟩
          exact ⟨sv, hs, _, _, _, _, _, _, rfl, A7⟩
    rintro σ' H3 ⟨sv, hs, v4, v5, v6, v7, v8, v9, rfl, A3⟩
    refine ⟨_, rfl, by decide, by decide, ?_⟩
    refine for_range (lo := 0) (n := 60) (fun i σ H4 => ∃ (sv : V) (hs : List Nat) (v7 v8 v9 : Option V), σ = [some (.ref pa), some (.ref sa), some sv, some (.ref F), v4, v5, v6, v7, v8, v9] ∧ InE K P H F sv hs H4 ∧ GoodI P i hs)
      ⟨sv, hs, _, _, _, rfl, A3, .inl (by have := A3.te.rm; omega)⟩ ?_ ?_
    · rintro i σ H4 hi ⟨sv, hs, v7, v8, v9, rfl, A4, gd⟩
      have kt4 : KT K H H4 := KT.same A4.sm
      refine ⟨_, rfl, pa, _, _, _, rfl, rfl, kt4 _ _ h1, atI_nat (j := 1) rfl, ta, _, rfl, .inr (kt4 _ _ h4), _, _, rfl, rfl, ?_⟩
      rw [el]
      refine ⟨_, rfl, by omega, by omega, ?_⟩
      refine for_range (lo := 0) (n := ((nW P : Nat) : Int).toNat) (fun j σ H5 => ∃ (sv' : V) (hs' : List Nat) (v7 v9 : Option V), σ = [some (.ref pa), some (.ref sa), some sv', some (.ref F), v4, v5, v6, v7, some (.int (0 + (i : Int))), v9] ∧ InE K P H F sv' hs' H5 ∧ (GoodI P (i + 1) hs' ∨ (hs' = hs ∧ ∀ k, k < j → hasLeft P (goW P "good" (walk0 P) hs) k = false)))
        ⟨sv, hs, _, _, rfl, A4, .inr ⟨rfl, fun k hk => by omega⟩⟩ ?_ ?_
      · rintro j σ H5 hj ⟨sv', hs', v7, v9, rfl, A5, hg⟩
        rw [Int.toNat_natCast] at hj
        rw [Int.zero_add (j : Int)]
        refine ⟨_, rfl, _, rfl, _, rfl, _, _, P, _, j, rfl, hP.kt (KT.same A5.sm), ok, A5.st, A5.te.inv, hj, fun hl H8 s8 => ?_, fun hl v H8 s8 q8 => ?_⟩
        · have A8 := A5.same s8
          refine ⟨fun σ' H9 => ∃ (sv' : V) (hs' : List Nat) (v7 v9 : Option V), σ' = [some (.ref pa), some (.ref sa), some sv', some (.ref F), v4, v5, v6, v7, some (.int (0 + (i : Int))), v9] ∧ InE K P H F sv' hs' H9 ∧ (GoodI P (i + 1) hs' ∨ (hs' = hs ∧ ∀ k, k < j + 1 → hasLeft P (goW P "good" (walk0 P) hs) k = false)), ?_, fun σ' H' h => h⟩
          refine ⟨_, rfl, rfl, _, rfl, ?_⟩
          refine iteF ?_
          refine ⟨sv', hs', _, _, rfl, A8, ?_⟩
          rcases hg with g | ⟨rfl, g⟩
          · exact .inl g
          · refine .inr ⟨rfl, fun k hk => ?_⟩
            by_cases z : k = j
            · rw [z]; exact hl
            · exact g k (by omega)
        · obtain ⟨va, _, _, _, rfl, _⟩ := id q8
          refine ⟨fun σ' H9 => ∃ (sv' : V) (hs' : List Nat) (v7 v9 : Option V), σ' = [some (.ref pa), some (.ref sa), some sv', some (.ref F), v4, v5, v6, v7, some (.int (0 + (i : Int))), v9] ∧ InE K P H F sv' hs' H9 ∧ (GoodI P (i + 1) hs' ∨ (hs' = hs ∧ ∀ k, k < j + 1 → hasLeft P (goW P "good" (walk0 P) hs) k = false)), ?_, fun σ' H' h => h⟩
          refine ⟨_, rfl, rfl, _, rfl, ?_⟩
          refine iteT ?_
          have hfl := s8 _ _ A5.fl
          have hrm := A5.te.rm
          refine ⟨_, rfl, ?_⟩
          refine ⟨_, rfl, .inl ⟨rfl, _, SqL.of hfl⟩, _, rfl, F, _, _, rfl, rfl, hfl, small1000 (by rw [List.length_map]; omega), ?_⟩
          refine ⟨_, hs' ++ [j], _, _, rfl, A5.add hF hj hl s8 q8, .inl ?_⟩
          rcases hg with g | ⟨rfl, g⟩
          · have := remW_step A5.te.inv hj hl
            rcases g with g | g
            · refine .inl ?_
              rw [goW_app]; omega
            · rw [g j hj] at hl; cases hl
          · exact GoodI.step A5.te gd hj hl
      · rintro σ H5 ⟨sv', hs', v7, v9, rfl, A5, hg⟩
        rw [Int.toNat_natCast] at hg
        refine ⟨sv', hs', _, _, _, rfl, A5, ?_⟩
        rcases hg with g | ⟨rfl, g⟩
        · exact g
        · exact .inr g
    · rintro σ H4 ⟨sv, hs, v7, v8, v9, rfl, A4, gd⟩
      refine ⟨_, rfl, F, _, rfl, .inl ⟨SqL.of A4.fl, fun T1 e1 => ?_⟩⟩
      exact q T1 hs _ (A4.sm.trans (same_new e1 _)) upd_same A4.te (GoodI.last A4.te gd)
end
end Far
set_option Elab.async false
set_option linter.all false
set_option maxRecDepth 100000
set_option maxHeartbeats 4000000
namespace Far
open PySem L2
theorem kit_bool_int {K : PySem.W.Frag} : PySem.W.kitOne K (.type "bool") (.type "int") = some true := by
  unfold PySem.W.kitOne
  rw [if_neg (by decide +kernel)]
  unfold PySem.W.kitCls
  rfl
theorem kit_str_int {K : PySem.W.Frag} : PySem.W.kitOne K (.type "str") (.type "int") = some false := by
  unfold PySem.W.kitOne
  rw [if_neg (by decide +kernel)]
  unfold PySem.W.kitCls
  rfl
theorem kit_list_int {K : PySem.W.Frag} : PySem.W.kitOne K (.type "list") (.type "int") = some false := by
  unfold PySem.W.kitOne
  rw [if_neg (by decide +kernel)]
  unfold PySem.W.kitCls
  rfl
theorem kit_tup_int {K : PySem.W.Frag} : PySem.W.kitOne K (.type "tuple") (.type "int") = some false := by
  unfold PySem.W.kitOne
  rw [if_neg (by decide +kernel)]
  unfold PySem.W.kitCls
  rfl
theorem kit_non_int {K : PySem.W.Frag} : PySem.W.kitOne K (.type "NoneType") (.type "int") = some false := by
  unfold PySem.W.kitOne
  rw [if_neg (by decide +kernel)]
  unfold PySem.W.kitCls
  rfl
structure Ent (K : PySem.W.Frag) (H : Hp) (v : V) (d : PyData) : Prop where
  wh : ∃ b, (b = false → ∀ i, v ≠ .int i) ∧ ∀ H', Same H H' → WholeIs K H' v b
  dp : ∀ H', Same H H' → Dp K H' v d
  sh : d.showable = true
  nd : d.hasDict = false
  lv : d.leavesShort 120 = true
  dt : d.depth ≤ 3
  bk : d.bulk ≤ 20
theorem Ent.same {K : PySem.W.Frag} {H H' : Hp} {v : V} {d : PyData} (e : Ent K H v d) (s : Same H H') : Ent K H' v d :=
  ⟨let ⟨b, h1, h2⟩ := e.wh; ⟨b, h1, fun H2 s2 => h2 H2 (s.trans s2)⟩, fun H2 s2 => e.dp H2 (s.trans s2), e.sh, e.nd, e.lv, e.dt, e.bk⟩
theorem ents_same {K : PySem.W.Frag} {H H' : Hp} (s : Same H H') {xs : List V} {ds : List PyData} (p : Paired (Ent K H) xs ds) : Paired (Ent K H') xs ds := Paired.mapP p fun _ _ e => e.same s
theorem ent_int {K : PySem.W.Frag} {H : Hp} {i : Int} (h : Bd i) : Ent K H (.int i) (.int i) := by
  have hl := int_lenB h
  have hs := int_showB h
  refine ⟨⟨true, fun z => (by cases z), fun H' _ => whole_int i⟩, fun _ _ => .int i, ?_, rfl, ?_, ?_, ?_⟩
  · simp only [PyData.showable]; first | exact decide_eq_true hs | simpa using hs
  · simp only [PyData.leavesShort]; first | exact decide_eq_true hl | simpa using hl
  · simp only [PyData.depth]; omega
  · simp only [PyData.bulk]; omega
theorem ent_bl {K : PySem.W.Frag} {H : Hp} (b : Bool) : Ent K H (.bl b) (.bool b) := by
  refine ⟨⟨false, fun _ i z => (by cases z), fun H' _ => ⟨.type "bool", true, true, .bl b, kit_bool_int, fun _ => kit_same _, rfl, fun z => (by cases z)⟩⟩, fun _ _ => .bl b, ?_, ?_, ?_, ?_, ?_⟩ <;> cases b <;> decide +kernel
theorem ent_non {K : PySem.W.Frag} {H : Hp} : Ent K H .non .none := by
  refine ⟨⟨false, fun _ i z => (by cases z), fun H' _ => ⟨.type "NoneType", false, false, .non, kit_non_int, fun z => (by cases z), rfl, fun z => (by cases z)⟩⟩, fun _ _ => .non, ?_, ?_, ?_, ?_, ?_⟩ <;> decide +kernel
theorem ent_str {K : PySem.W.Frag} {H : Hp} : Ent K H (.str "0") (.str "0") := by
  refine ⟨⟨false, fun _ i z => (by cases z), fun H' _ => ⟨.type "str", false, false, .str _, kit_str_int, fun z => (by cases z), rfl, fun z => (by cases z)⟩⟩, fun _ _ => .str _, ?_, ?_, ?_, ?_, ?_⟩ <;> decide +kernel
theorem ent_lst {K : PySem.W.Frag} {H : Hp} {a : Addr} (e : H a = some (.lst [.int 0])) : Ent K H (.ref a) (.list [.int 0]) := by
  refine ⟨⟨false, fun _ i z => (by cases z), fun H' s => ⟨.type "list", false, false, .lst (s _ _ e), kit_list_int, fun z => (by cases z), rfl, fun z => (by cases z)⟩⟩, fun H' s => .lst (SqL.of (s _ _ e)) (.cons (.int 0) .nil), ?_, ?_, ?_, ?_, ?_⟩ <;> decide +kernel
theorem ent_tup {K : PySem.W.Frag} {H : Hp} {a : Addr} (e : H a = some (.tup [.int 0])) : Ent K H (.ref a) (.tuple [.int 0]) := by
  refine ⟨⟨false, fun _ i z => (by cases z), fun H' s => ⟨.type "tuple", false, false, .tup (s _ _ e), kit_tup_int, fun z => (by cases z), rfl, fun z => (by cases z)⟩⟩, fun H' s => .tup (SqT.of (s _ _ e)) (.cons (.int 0) .nil), ?_, ?_, ?_, ?_, ?_⟩ <;> decide +kernel
theorem ents_dp {K : PySem.W.Frag} {H : Hp} {xs : List V} {ds : List PyData} (p : Paired (Ent K H) xs ds) : DpAll K H xs ds := by
  induction p with
  | nil => exact .nil
  | cons r _ ih => exact .cons (r.dp _ (fun _ _ e => e)) ih
theorem ents_wh {K : PySem.W.Frag} {H : Hp} {xs : List V} {ds : List PyData} (p : Paired (Ent K H) xs ds) : ∀ u ∈ xs, ∃ b, (b = false → ∀ i, u ≠ .int i) ∧ ∀ H', Same H H' → WholeIs K H' u b := by
  induction p with
  | nil => intro u z; cases z
  | cons r _ ih =>
    intro u z
    rcases List.mem_cons.mp z with z | z
    · rw [z]; exact r.wh
    · exact ih u z
theorem ents_ready {K : PySem.W.Frag} {H : Hp} {xs : List V} {ds : List PyData} (p : Paired (Ent K H) xs ds) : PyData.showableAll ds = true ∧ PyData.hasDictAll ds = false ∧ PyData.leavesShortAll 120 ds = true ∧ PyData.depthAll ds ≤ 4 ∧ PyData.bulkAll ds ≤ 25 * ds.length := by
  induction p with
  | nil => refine ⟨rfl, rfl, rfl, ?_, ?_⟩ <;> simp only [PyData.depthAll, PyData.bulkAll, List.length_nil] <;> omega
  | @cons v d vs ds r _ ih =>
    obtain ⟨h1, h2, h3, h4, h5⟩ := ih
    have := r.dt
    have := r.bk
    refine ⟨?_, ?_, ?_, ?_, ?_⟩
    · simp only [PyData.showableAll, r.sh, h1, Bool.and_self]
    · simp only [PyData.hasDictAll, r.nd, h2, Bool.or_self]
    · simp only [PyData.leavesShortAll, r.lv, h3, Bool.and_self]
    · simp only [PyData.depthAll]; omega
    · simp only [PyData.bulkAll, List.length_cons]; omega
theorem ents_repr {K : PySem.W.Frag} {H : Hp} {xs : List V} {ds : List PyData} (p : Paired (Ent K H) xs ds) (h : ds.length ≤ 100) : ReprOk (.tuple ds) := by
  obtain ⟨h1, h2, h3, h4, h5⟩ := ents_ready p
  have hd : (PyData.tuple ds).depth ≤ 60 := by simp only [PyData.depth]; omega
  have hb : (PyData.tuple ds).bulk ≤ 10000 := by simp only [PyData.bulk]; omega
  refine ⟨?_, ?_, hd, repr_len ?_ hb⟩
  · simpa only [PyData.showable] using h1
  · simpa only [PyData.hasDict] using h2
  · simpa only [PyData.leavesShort] using h3
end Far
set_option Elab.async false
set_option linter.all false
set_option maxRecDepth 100000
set_option maxHeartbeats 4000000
namespace Far
open PySem L2 HT PySem.Spec PySem.Calls PyProof.Rows
def rReprV (K : PySem.W.Frag) : List V → Hp → VK → Prop := fun vs H Q => ∃ v d, vs = [v] ∧ Dp K H v d ∧ (d.showable = true ∧ d.hasDict = false ∧ d.depth ≤ 60 ∧ d.shown.length ≤ sizeLine) ∧ Q (.str d.shown) H
theorem cr_reprV {X : Cx} {k : Nat} (hr : Room k X.A) : CallR X (.builtin "repr") (rReprV X.K) := by
  intro pins s σ H vs us Q I r h
  obtain ⟨v, d, rfl, hd, ⟨hs, hnd, hdp, hz⟩, q⟩ := h
  obtain ⟨u, rfl, ru⟩ := Vals.one r
  cases v with
  | ref a => exact cr_repr hr pins s σ H _ _ Q I (.cons ru .nil) ⟨a, d, rfl, hd, hs, hnd, hdp, hz, q⟩
  | non =>
    cases hd
    cases ru
    exact P.repr_of_none ⟨.str _, H, I.tok _, ⟨_, rfl⟩, q⟩
  | bl b =>
    cases hd
    cases ru
    refine P.repr_of_bool ⟨.str _, H, I.tok _, ⟨_, rfl⟩, ?_⟩
    cases b <;> exact q
  | int i =>
    cases hd
    obtain ⟨t, rfl⟩ := ru
    refine P.repr_of_int (by simpa only [PyData.showable, decide_eq_true_eq] using hs) ⟨.str _, H, I.tok _, ⟨_, rfl⟩, ?_⟩
    simpa only [PyData.shown] using q
  | str x =>
    cases hd
    obtain ⟨t, rfl⟩ := ru
    refine P.repr_of_str ⟨.str _, H, I.tok _, ⟨_, rfl⟩, ?_⟩ (by simpa only [PyData.shown] using hz)
    simpa only [PyData.shown] using q
  | _ => cases hd
end Far
set_option Elab.async false
set_option linter.all false
set_option maxRecDepth 100000
set_option maxHeartbeats 4000000
set_option pp.maxSteps 500
namespace Far
open PySem L2
def spLaw (K : PySem.W.Frag) : Sp := fun vs H Q _ => ∃ (a : Addr) (ns : List Int), vs = [.ref a] ∧ SqL K H a (ns.map V.int) ∧ ns.length ≤ 63 ∧ ∀ H', Q (.bl true) H'
theorem ite_any {b : Bool} {A B : Prop} (h1 : A) (h2 : B) : if b = true then A else B := by
  cases b with
  | true => rw [if_pos rfl]; exact h1
  | false => rw [if_neg (by decide)]; exact h2
theorem bd_small {x : Int} (h0 : 0 ≤ x) (h1 : x < 1000000) : Bd x := by
  unfold Bd
  constructor <;> omega
theorem legal_lt {P : Play} {hs : List Nat} (l : Legal P "good" (walk0 P) hs) : ∀ h ∈ hs, h < nW P := fun h z => by
  obtain ⟨j, hj⟩ := List.getElem?_of_mem z
  exact (l.at hj).1
theorem walkF_lt {P : Play} : ∀ {us : List V} {w : Wlk} {i j : Nat}, walkF P w us i = some j → j < i + us.length
  | [], _, _, _, h => by cases h
  | v :: r, w, i, j, h => by
    unfold walkF at h
    split at h
    · have := walkF_lt h
      rw [List.length_cons]; omega
    · cases h
      rw [List.length_cons]; omega
def refD : Option Nat → PyData
  | none => .none
  | some i => .int (i : Int)
theorem ref_dp {K : PySem.W.Frag} {H : Hp} (o : Option Nat) : Dp K H (refV o) (refD o) := by
  cases o with
  | none => exact .non
  | some i => exact .int _
theorem ref_ok {o : Option Nat} (h : ∀ j, o = some j → j ≤ 200) : ReprOk (refD o) := by
  cases o with
  | none => refine ⟨?_, ?_, ?_, ?_⟩ <;> decide +kernel
  | some i =>
    have hi := h i rfl
    have hb : Bd (i : Int) := bd_small (by omega) (by omega)
    have h1 := int_lenB hb
    have h2 := int_showB hb
    refine ⟨?_, rfl, ?_, Nat.le_trans h1 (by decide)⟩
    · show PyData.showable (.int (i : Int)) = true
      simp only [PyData.showable]; first | exact decide_eq_true h2 | simpa using h2
    · show PyData.depth (.int (i : Int)) ≤ 60
      simp only [PyData.depth]; omega
section
variable {P : Program} {w : World} {K : PySem.W.Frag} {mg : Str → Option Value} {base : Heap} {C : Addr}
abbrev n_law : List Str := ["script", "k", "some", "tries", "play", "weaving", "odd", "at", "bent", "other", "place", "doubly", "handed", "shown", "due", "found", "one"]
theorem sc_law : FnScope n_law ["script"] (defScope sLaw) := ⟨rfl, rfl, rfl, by decide +kernel, rfl, by decide +kernel, by decide +kernel⟩
theorem ok_law {f : Addr} {fd : FuncData} (F : Fun K "law" "law" sLaw f fd) (T : TxtW K mg C) {CN : Addr}
    {f__law_digits : Addr} {d__law_digits : FuncData} (G__law_digits : FnOk P w K mg base CX0 2 f__law_digits d__law_digits ["cell", "many"] spDigits) (b__law_digits : Binds K d__law_digits ["cell", "many"] []) (k__law_digits : PySem.W.keepIn K (.ref f__law_digits) = true) (m__law_digits : mg "_law_digits" = some (.ref f__law_digits))
    {f__law_at : Addr} {d__law_at : FuncData} (G__law_at : FnOk P w K mg base CX0 1 f__law_at d__law_at ["script", "k"] (spAt K)) (b__law_at : Binds K d__law_at ["script", "k"] []) (k__law_at : PySem.W.keepIn K (.ref f__law_at) = true) (m__law_at : mg "_law_at" = some (.ref f__law_at))
    {f__law_play : Addr} {d__law_play : FuncData} (G__law_play : FnOk P w K mg base CX0 1 f__law_play d__law_play ["some", "most", "tries"] (spPlayD K)) (b__law_play : Binds K d__law_play ["some", "most", "tries"] []) (k__law_play : PySem.W.keepIn K (.ref f__law_play) = true) (m__law_play : mg "_law_play" = some (.ref f__law_play))
    {f__law_to_end : Addr} {d__law_to_end : FuncData} (G__law_to_end : FnOk P w K mg base CX0 3 f__law_to_end d__law_to_end ["play", "some"] (spLToEnd K)) (b__law_to_end : Binds K d__law_to_end ["play", "some"] []) (k__law_to_end : PySem.W.keepIn K (.ref f__law_to_end) = true) (m__law_to_end : mg "_law_to_end" = some (.ref f__law_to_end))
    {f__law_due : Addr} {d__law_due : FuncData} (G__law_due : FnOk P w K mg base CX0 3 f__law_due d__law_due ["play", "weaving"] (spLDue K)) (b__law_due : Binds K d__law_due ["play", "weaving"] []) (k__law_due : PySem.W.keepIn K (.ref f__law_due) = true) (m__law_due : mg "_law_due" = some (.ref f__law_due))
    {f__law_refused : Addr} {d__law_refused : FuncData} (G__law_refused : FnOk P w K mg base CX0 7 f__law_refused d__law_refused ["play", "weaving"] (spLRefused K)) (b__law_refused : Binds K d__law_refused ["play", "weaving"] []) (k__law_refused : PySem.W.keepIn K (.ref f__law_refused) = true) (m__law_refused : mg "_law_refused" = some (.ref f__law_refused))
    {f_walked : Addr} {d_walked : FuncData} (G_walked : FnOk P w K mg base (CX2 P w) 6 f_walked d_walked ["play", "weaving"] (spWalkedE K CN)) (b_walked : Binds K d_walked ["play", "weaving"] []) (k_walked : PySem.W.keepIn K (.ref f_walked) = true) (m_walked : mg "walked" = some (.ref f_walked)) :
    FnOk P w K mg base CX0 9 f fd ["script"] (spLaw K) := by
  refine F.ok sc_law (fun vs H Q E h => ?_) (fun cdv Ar outer s H vs Q E hr h => ?_)
  · obtain ⟨a, ns, rfl, _⟩ := h
    rfl
  · obtain ⟨a, ns, rfl, hS, hlen, q⟩ := h
    refine ⟨_, pss_cons (ps_for PassesOwn.never rfl (pi_range1 rfl T.range (pa_cons (pe_int) pa_nil)) (pg_name (i := 1) sc_law.nd rfl (Or.inl rfl)) (pss_cons (ps_set (i := 2) sc_law.nd rfl (Or.inl rfl) (pe_call G__law_digits (hr.mono (by decide)) rfl m__law_digits k__law_digits b__law_digits .nil pass0 (pa_cons (pe_call G__law_at (hr.mono (by decide)) rfl m__law_at k__law_at b__law_at .nil pass0 (pa_cons (pv 0) (pa_cons (pv 1) pa_nil))) (pa_cons (pe_int) pa_nil)))) (pss_cons (ps_set (i := 3) sc_law.nd rfl (Or.inr rfl) (pe_mid (pe_ix ix_tup (pe_tup (pa_cons (pe_tup (pa_nil)) (pa_cons (pe_tup (pa_cons (pe_op op_mod (pe_ix ix_list (pv 2) (pe_int) (fun _ _ => rfl)) (pe_int)) pa_nil)) (pa_cons (pe_tup (pa_cons (pe_op op_mod (pe_ix ix_list (pv 2) (pe_int) (fun _ _ => rfl)) (pe_int)) (pa_cons (pe_op op_mod (pe_ix ix_list (pv 2) (pe_int) (fun _ _ => rfl)) (pe_int)) pa_nil))) (pa_cons (pe_tup (pa_cons (pe_op op_mod (pe_ix ix_list (pv 2) (pe_int) (fun _ _ => rfl)) (pe_int)) (pa_cons (pe_op op_mod (pe_ix ix_list (pv 2) (pe_int) (fun _ _ => rfl)) (pe_int)) pa_nil))) pa_nil))))) (pe_op op_mod (pe_ix ix_list (pv 2) (pe_int) (fun _ _ => rfl)) (pe_int)) (fun _ _ => rfl)))) (pss_cons (ps_set (i := 4) sc_law.nd rfl (Or.inl rfl) (pe_call G__law_play (hr.mono (by decide)) rfl m__law_play k__law_play b__law_play .nil pass0 (pa_cons (pv 2) (pa_cons (pe_int) (pa_cons (pv 3) pa_nil))))) (pss_cons (ps_setLc (i := 5) (own := [("one", 16)]) (g := gName 16) (by rfl) sc_law.nd rfl rfl (sw_true rfl rfl rfl (by decide +kernel)) (pi_list (pe_slice sl_list (pv 2) (po_some (pe_int)) (po_some (pe_op op_add (pe_int) (pe_op op_mod (pe_ix ix_list (pv 2) (pe_int) (fun _ _ => rfl)) (pe_int)))))) (blkOk_by (own := [("one", 16)]) (N := n_law) (sc := defScope sLaw) (by decide +kernel)) (fun _ _ _ _ _ => pg_name (i := 16) sc_law.nd rfl (Or.inl rfl)) (fun _ _ _ _ _ => pts_nil) (fun _ _ _ _ _ => pe_op op_mod (pe_op op_fdiv (pv 16) (pe_int)) (pe_op op_add (pe_int) (pe_callB (r := rLenK K) call_len_seq rfl T.len PySem.boot_len (pa_cons (pv 3) pa_nil))))) (pss_cons (ps_mid (ps_if (pt_cmpR op_eq (pe_op op_mod (pe_ix ix_list (pv 2) (pe_int) (fun _ _ => rfl)) (pe_int)) (pe_int) (nomark _)) (pss_one (ps_set (i := 5) sc_law.nd rfl (Or.inl rfl) (pe_callTy call_list_of (by rfl) T.list (by decide +kernel) (pa_cons (pe_call G__law_to_end (hr.mono (by decide)) rfl m__law_to_end k__law_to_end b__law_to_end .nil pass0 (pa_cons (pv 4) (pa_cons (pe_slice sl_list (pv 2) (po_some (pe_int)) po_none) pa_nil))) pa_nil)))) pss_nil)) (pss_cons (ps_set (i := 6) sc_law.nd rfl (Or.inl rfl) (pe_mid (pe_ix ix_list (pe_lst (pa_cons (pe_op op_add (pe_int) (pe_callB call_len_seq rfl T.len PySem.boot_len (pa_cons (pv 3) pa_nil))) (pa_cons (pe_un un_neg (pe_int)) (pa_cons (pe_bl) (pa_cons (pe_bl) (pa_cons (pe_non) (pa_cons (pe_str) (pa_cons (pe_lst (pa_cons (pe_int) pa_nil)) (pa_cons (pe_tup (pa_cons (pe_int) pa_nil)) (pa_cons (pe_op op_pow (pe_int) (pe_int)) (pa_cons (pe_int) (pa_cons (pe_int) pa_nil)))))))))))) (pe_op op_mod (pe_ix ix_list (pv 2) (pe_int) (fun _ _ => rfl)) (pe_int)) (fun _ _ => rfl)))) (pss_cons (ps_set (i := 7) sc_law.nd rfl (Or.inl rfl) (pe_op op_mod (pe_ix ix_list (pv 2) (pe_int) (fun _ _ => rfl)) (pe_op op_add (pe_callB call_len_seq rfl T.len PySem.boot_len (pa_cons (pv 5) pa_nil)) (pe_int)))) (pss_cons (ps_set (i := 8) sc_law.nd rfl (Or.inl rfl) (pe_op op_cat (pe_op op_cat (pe_slice sl_list (pv 5) po_none (po_some (pv 7))) (pe_lst (pa_cons (pv 6) pa_nil))) (pe_slice sl_list (pv 5) (po_some (pv 7)) po_none))) (pss_cons (ps_set (i := 9) sc_law.nd rfl (Or.inl rfl) (pe_mid (pe_ix ix_list (pe_lst (pa_cons (pe_op op_add (pe_int) (pe_callB call_len_seq rfl T.len PySem.boot_len (pa_cons (pv 3) pa_nil))) (pa_cons (pe_un un_neg (pe_int)) (pa_cons (pe_bl) (pa_cons (pe_non) (pa_cons (pe_lst (pa_cons (pe_int) pa_nil)) (pa_cons (pe_int) (pa_cons (pe_int) pa_nil)))))))) (pe_op op_mod (pe_ix ix_list (pv 2) (pe_int) (fun _ _ => rfl)) (pe_int)) (fun _ _ => rfl)))) (pss_cons (ps_set (i := 10) sc_law.nd rfl (Or.inl rfl) (pe_op op_mod (pe_ix ix_list (pv 2) (pe_int) (fun _ _ => rfl)) (pe_op op_add (pe_callB call_len_seq rfl T.len PySem.boot_len (pa_cons (pv 8) pa_nil)) (pe_int)))) (pss_cons (ps_set (i := 11) sc_law.nd rfl (Or.inl rfl) (pe_op op_cat (pe_op op_cat (pe_slice sl_list (pv 8) po_none (po_some (pv 10))) (pe_lst (pa_cons (pv 9) pa_nil))) (pe_slice sl_list (pv 8) (po_some (pv 10)) po_none))) (pss_one (ps_for PassesOwn.never rfl (pi_list (pe_lst (pa_cons (pe_callTy call_tuple_of (by rfl) T.tuple (by decide +kernel) (pa_cons (pv 5) pa_nil)) (pa_cons (pe_callTy call_tuple_of (by rfl) T.tuple (by decide +kernel) (pa_cons (pv 8) pa_nil)) (pa_cons (pe_callTy call_tuple_of (by rfl) T.tuple (by decide +kernel) (pa_cons (pv 11) pa_nil)) pa_nil))))) (pg_name (i := 12) sc_law.nd rfl (Or.inl rfl)) (pss_cons (ps_set (i := 13) sc_law.nd rfl (Or.inl rfl) (pe_callB (cr_reprV hr) rfl T.repr (by decide +kernel) (pa_cons (pv 12) pa_nil))) (pss_cons (ps_set (i := 14) sc_law.nd rfl (Or.inl rfl) (pe_call G__law_due (hr.mono (by decide)) rfl m__law_due k__law_due b__law_due .nil pass0 (pa_cons (pv 4) (pa_cons (pv 12) pa_nil)))) (pss_cons (ps_set (i := 15) sc_law.nd rfl (Or.inl rfl) (pe_call G__law_refused (hr.mono (by decide)) rfl m__law_refused k__law_refused b__law_refused .nil pass0 (pa_cons (pv 4) (pa_cons (pv 12) pa_nil)))) (pss_one (ps_if (PW.pt (pw_or (pt_cmpR op_ne (pe_callB (cr_reprV hr) rfl T.repr (by decide +kernel) (pa_cons (pv 15) pa_nil)) (pe_callB (cr_reprV hr) rfl T.repr (by decide +kernel) (pa_cons (pv 14) pa_nil)) (nomark _)) (pw_or1 (pt_cmpR op_ne (pe_callB (cr_reprV hr) rfl T.repr (by decide +kernel) (pa_cons (pv 12) pa_nil)) (pv 13) (nomark _))))) (pss_one (ps_ret (pe_bl))) pss_nil))))))))))))))))))) (pss_one (ps_ret (pe_cmpR (op_eqD hr.units) (pe_call G_walked (hr.mono (by decide)) rfl m_walked k_walked b_walked .nil pass2 (pa_cons (pe_tup (pa_cons (pe_tup (pa_nil)) (pa_cons (pe_tup (pa_nil)) pa_nil))) (pa_cons (pe_tup (pa_nil)) pa_nil))) (pe_tup (pa_cons (pe_lst (pa_cons (pe_lst (pa_nil)) pa_nil)) (pa_cons (pe_lst (pa_nil)) pa_nil))) (nomark _)))), ?_⟩
    refine ⟨_, rfl, by decide, by decide, ?_⟩
    refine for_range (lo := 0) (n := 8) (fun i σ H2 => ∃ (v1 v2 v3 v4 v5 v6 v7 v8 v9 v10 v11 v12 v13 v14 v15 v16 : Option V), σ = [some (.ref a), v1, v2, v3, v4, v5, v6, v7, v8, v9, v10, v11, v12, v13, v14, v15, v16] ∧ Same H H2)
      ⟨none, none, none, none, none, none, none, none, none, none, none, none, none, none, none, none, rfl, Same.refl H⟩ ?_ ?_
    · rintro i σ H2 hi ⟨v1, v2, v3, v4, v5, v6, v7, v8, v9, v10, v11, v12, v13, v14, v15, v16, rfl, s2⟩
      refine ⟨_, rfl, _, rfl, a, ns, _, rfl, s2.seq hS, by omega, by omega, fun c1 => ⟨c1, 60, rfl, by decide, fun D ds H3 eD s3 hD hl hb => ?_⟩⟩
      obtain ⟨d4, h4, _⟩ := dig_at (j := 4) (by omega) hb
      obtain ⟨d5, h5, _⟩ := dig_at (j := 5) (by omega) hb
      obtain ⟨d6, h6, _⟩ := dig_at (j := 6) (by omega) hb
      obtain ⟨d7, h7, _⟩ := dig_at (j := 7) (by omega) hb
      obtain ⟨d8, h8, _⟩ := dig_at (j := 8) (by omega) hb
      obtain ⟨d9, h9, _⟩ := dig_at (j := 9) (by omega) hb
      obtain ⟨d10, h10, _⟩ := dig_at (j := 10) (by omega) hb
      obtain ⟨d11, h11, _⟩ := dig_at (j := 11) (by omega) hb
      obtain ⟨d12, h12, _⟩ := dig_at (j := 12) (by omega) hb
      refine ⟨fun v H' => ∃ (ta : Addr) (ts : List Nat), v = .ref ta ∧ H' ta = some (.tup (ts.map natV)) ∧ ts.length ≤ 2 ∧ (∀ k ∈ ts, k ≤ 3) ∧ Same H3 H', ?_, ?_⟩
      · have m10 := Int.emod_nonneg d10 (show (4 : Int) ≠ 0 by decide)
        have n10 := Int.emod_lt_of_pos d10 (show (0 : Int) < 4 by decide)
        have m11 := Int.emod_nonneg d11 (show (4 : Int) ≠ 0 by decide)
        have n11 := Int.emod_lt_of_pos d11 (show (0 : Int) < 4 by decide)
        obtain ⟨k10, e10⟩ := Int.eq_ofNat_of_zero_le m10
        obtain ⟨k11, e11⟩ := Int.eq_ofNat_of_zero_le m11
        refine ⟨(by show 0 ≤ sizeLine; decide), fun p0 q0 => ?_⟩
        have r0 := same_new q0 (.tup [])
        have g0 : (upd H3 p0 (.tup [])) p0 = some (.tup []) := upd_same
        have hD0 := r0 _ _ hD
        generalize upd H3 p0 (.tup []) = Ha at *
        refine ⟨_, rfl, D, _, _, _, rfl, rfl, SqL.of hD0, atI_nat (j := 10) h10, _, _, rfl, rfl, (by show (0 : Int) < 4; decide), (by show 1 ≤ sizeLine; decide), fun p1 q1 => ?_⟩
        have r1 := same_new q1 (.tup [.int (d10 % 4)])
        have g1 : (upd Ha p1 (.tup [.int (d10 % 4)])) p1 = some (.tup [.int (d10 % 4)]) := upd_same
        have hD1 := r1 _ _ hD0
        generalize upd Ha p1 (.tup [.int (d10 % 4)]) = Hb at *
        refine ⟨_, rfl, D, _, _, _, rfl, rfl, SqL.of hD1, atI_nat (j := 10) h10, _, _, rfl, rfl, (by show (0 : Int) < 4; decide), _, rfl, D, _, _, _, rfl, rfl, SqL.of hD1, atI_nat (j := 11) h11, _, _, rfl, rfl, (by show (0 : Int) < 4; decide), (by show 2 ≤ sizeLine; decide), fun p2 q2 => ?_⟩
        have r2 := same_new q2 (.tup [.int (d10 % 4), .int (d11 % 4)])
        have g2 : (upd Hb p2 (.tup [.int (d10 % 4), .int (d11 % 4)])) p2 = some (.tup [.int (d10 % 4), .int (d11 % 4)]) := upd_same
        have hD2 := r2 _ _ hD1
        generalize upd Hb p2 (.tup [.int (d10 % 4), .int (d11 % 4)]) = Hc at *
        refine ⟨_, rfl, D, _, _, _, rfl, rfl, SqL.of hD2, atI_nat (j := 10) h10, _, _, rfl, rfl, (by show (0 : Int) < 4; decide), _, rfl, D, _, _, _, rfl, rfl, SqL.of hD2, atI_nat (j := 11) h11, _, _, rfl, rfl, (by show (0 : Int) < 4; decide), (by show 2 ≤ sizeLine; decide), fun p3 q3 => ?_⟩
        have r3 := same_new q3 (.tup [.int (d10 % 4), .int (d11 % 4)])
        have g3 : (upd Hc p3 (.tup [.int (d10 % 4), .int (d11 % 4)])) p3 = some (.tup [.int (d10 % 4), .int (d11 % 4)]) := upd_same
        have hD3 := r3 _ _ hD2
        show _ ∧ _
        generalize upd Hc p3 (.tup [.int (d10 % 4), .int (d11 % 4)]) = Hd at *
        refine ⟨(by show 4 ≤ sizeLine; decide), fun L eL => ?_⟩
        have r5 := same_new eL (.tup [.ref p0, .ref p1, .ref p2, .ref p3])
        have i0 := Int.emod_nonneg d12 (show (4 : Int) ≠ 0 by decide)
        have i1 := Int.emod_lt_of_pos d12 (show (0 : Int) < 4 by decide)
        obtain ⟨y, hy, hy'⟩ := at_int (xs := [V.ref p0, .ref p1, .ref p2, .ref p3]) i0 (by show d12 % 4 < 4; exact i1)
        refine ⟨_, rfl, D, _, _, _, rfl, rfl, SqL.of (r5 _ _ hD3), atI_nat (j := 12) h12, _, _, rfl, rfl, (by show (0 : Int) < 4; decide), L, _, _, _, rfl, rfl, SqT.of upd_same, hy', ?_⟩
        have hm := List.mem_of_getElem? hy
        simp only [List.mem_cons, List.not_mem_nil, or_false] at hm
        have r15 := r0.trans (r1.trans (r2.trans (r3.trans r5)))
        rcases hm with e | e | e | e
        · exact ⟨p0, [], e, (r1.trans (r2.trans (r3.trans r5))) _ _ g0, by decide, fun k z => (nomatch z), r15⟩
        · refine ⟨p1, [k10], e, ?_, by show 1 ≤ 2; decide, fun k z => by rw [List.mem_singleton.mp z]; omega, r15⟩
          have := (r2.trans (r3.trans r5)) _ _ g1
          rw [e10] at this
          exact this
        · refine ⟨p2, [k10, k11], e, ?_, by show 2 ≤ 2; decide, fun k z => by
            simp only [List.mem_cons, List.not_mem_nil, or_false] at z
            rcases z with z | z <;> omega, r15⟩
          have := (r3.trans r5) _ _ g2
          rw [e10, e11] at this
          exact this
        · refine ⟨p3, [k10, k11], e, ?_, by show 2 ≤ 2; decide, fun k z => by
            simp only [List.mem_cons, List.not_mem_nil, or_false] at z
            rcases z with z | z <;> omega, r15⟩
          have := r5 _ _ g3
          rw [e10, e11] at this
          exact this
      rintro v H4 ⟨ta, ts, rfl, hta, ht2, ht3, s4⟩
      have hD4 := s4 _ _ hD
      refine ⟨_, rfl, _, rfl, D, ds, 6, ta, ts, rfl, hD4, hb, by omega, by decide, SqT.of hta, fun pvv P H6 s6 hP hd6 hts hbd => ?_⟩
      have ok : PlayOk P := ⟨hd6, by rw [hts]; exact ht2, by rw [hts]; exact ht3⟩
      have s06 : Same H H6 := s2.trans (s3.trans (s4.trans s6))
      have hD6 := s6 _ _ hD4
      have ot := ok.t
      have hn3 : nW P ≤ 3 := by unfold nW; omega
      have m9 := Int.emod_nonneg d9 (show (30 : Int) ≠ 0 by decide)
      have n9 := Int.emod_lt_of_pos d9 (show (0 : Int) < 30 by decide)
      refine ⟨_, rfl, _, rfl, _, rfl, D, _, _, _, rfl, rfl, SqL.of hD6, atI_nat (j := 9) h9, _, _, rfl, rfl, (by show (0 : Int) < 30; decide), _, _, rfl, rfl, _, rfl, D, _, rfl, SqL.of hD6, fun O eO => ?_⟩
      obtain ⟨L, hL, hLd, hLl⟩ : ∃ L : List Int, cutV (ds.map V.int) (some 13) (some ((fun i j : Int => i + j) 13 (d9 % 30))) = L.map V.int ∧ (∀ d ∈ L, Dig d) ∧ L.length ≤ 60 := by
        unfold cutV
        rw [← List.map_drop, ← List.map_take]
        refine ⟨_, rfl, fun d z => hb d (List.mem_of_mem_drop (List.mem_of_mem_take z)), ?_⟩
        rw [List.length_take, List.length_drop]
        omega
      have t7 := same_new eO (.lst (cutV (ds.map V.int) (some 13) (some ((fun i j : Int => i + j) 13 (d9 % 30)))))
      have gO : (upd H6 O (.lst (cutV (ds.map V.int) (some 13) (some ((fun i j : Int => i + j) 13 (d9 % 30)))))) O = some (.lst (L.map V.int)) := by rw [upd_same, hL]
      refine ⟨O, rfl, ⟨_, SqL.of gO⟩, fun W eW => ?_⟩
      have hD7 := t7 _ _ hD6
      have ta7 := t7 _ _ (s6 _ _ hta)
      generalize upd H6 O (.lst (cutV (ds.map V.int) (some 13) (some ((fun i j : Int => i + j) 13 (d9 % 30))))) = H7 at *
      refine lc_list (K := K) (a := O) (xs := L.map V.int) (fun i H' => Same H7 H' ∧ ∃ ws : List Int, H' W = some (.lst (ws.map V.int)) ∧ ws.length ≤ i ∧ ∀ x ∈ ws, Bd x) ⟨same_new eW _, [], upd_same, Nat.le_refl _, fun x z => (nomatch z)⟩ (fun i H' _ ⟨s', _⟩ => SqL.of (s' _ _ gO)) ?_ ?_
      · rintro i5 y5 H8 hy5 ⟨s8, ws, g8, hwl, hwb⟩
        obtain ⟨d, hd, rfl⟩ := mapAt' hy5
        have dd := hLd d (List.mem_of_getElem? hd)
        have hi5 := (List.getElem?_eq_some_iff.mp hd).1
        refine ⟨rfl, yes_ ?_⟩
        refine iteT ?_
        refine ⟨_, rfl, _, _, rfl, rfl, (by show CDiv _ _; exact ⟨by decide, by decide⟩), _, rfl, ?_⟩
        have q0 := Int.emod_nonneg (d / 2) (show (1 + ((ts.map natV).length : Int)) ≠ 0 by omega)
        have q1 := Int.emod_lt_of_pos (d / 2) (show (0 : Int) < 1 + ((ts.map natV).length : Int) by omega)
        refine ⟨ta, _, rfl, .inr (SqT.of (s8 _ _ ta7)), _, _, rfl, rfl, _, _, rfl, rfl, (by show (0 : Int) < 1 + ((ts.map natV).length : Int); omega), _, g8, small1000 (by rw [List.length_map]; omega), fun c o e => by rw [upd_ne (ne_of_none e eW)]; exact s8 _ _ e, ws ++ [d / 2 % (1 + ((ts.map natV).length : Int))], by rw [upd_same, List.map_append]; rfl, by rw [List.length_append, List.length_singleton]; omega, fun x hx => ?_⟩
        rcases List.mem_append.mp hx with z | z
        · exact hwb x z
        · rw [List.mem_singleton.mp z]
          rw [List.length_map] at q0 q1 ⊢
          exact bd_small q0 (by omega)
      rintro H8 ⟨s8, ws, g8, hwl, hwb⟩
      rw [List.length_map] at hwl
      have s68 := t7.trans s8
      have hD8 := s8 _ _ hD7
      have ta8 := s8 _ _ ta7
      have hP8 := hP.kt (KT.same (K := K) s68)
      refine ⟨fun σ' H' => ∃ (W' : Addr) (ws' : List Int), σ' = [some (.ref a), some (.int (0 + (i : Int))), some (.ref D), some (.ref ta), some pvv, some (.ref W'), v6, v7, v8, v9, v10, v11, v12, v13, v14, v15, v16] ∧ H' W' = some (.lst (ws'.map V.int)) ∧ ws'.length ≤ 60 ∧ (∀ x ∈ ws', Bd x) ∧ Same H8 H', ?_, ?_⟩
      · refine ⟨_, rfl, D, _, _, _, rfl, rfl, SqL.of hD8, atI_nat (j := 6) h6, _, _, rfl, rfl, (by show (0 : Int) < 2; decide), rfl, _, rfl, ?_⟩
        refine ite_any ?_ ?_
        · refine ⟨_, rfl, _, rfl, _, rfl, D, _, rfl, SqL.of hD8, fun O2 eO2 => ?_⟩
          rw [show (some (13 : Int)) = some ((13 : Nat) : Int) from rfl, cut_fromN, ← List.map_drop]
          have t9 := same_new eO2 (.lst ((ds.drop 13).map V.int))
          refine ⟨_, P, O2, ds.drop 13, rfl, hP8.kt (KT.same t9), ok, upd_same, fun d hd => hb d (List.mem_of_mem_drop hd), by rw [List.length_drop]; omega, by rw [List.length_drop]; omega, fun T1 hs H9 s9 hT1 te _ => ?_⟩
          refine ⟨T1, _, rfl, .inr (SqT.of hT1), fun W2 eW2 => ?_⟩
          refine ⟨W2, hs.map fun n : Nat => (n : Int), rfl, by rw [upd_same, List.map_map]; rfl, ?_, fun x hx => ?_, t9.trans (s9.trans (same_new eW2 _))⟩
          · rw [List.length_map]
            have := te.rm
            omega
          · obtain ⟨n, hn, rfl⟩ := List.mem_map.mp hx
            have := legal_lt te.lg n hn
            exact bd_small (by omega) (by omega)
        · exact ⟨W, ws, rfl, g8, by omega, hwb, Same.refl _⟩
      rintro σ' H9 ⟨W', ws', rfl, g9, hl9, hb9, s9⟩
      have hD9 := s9 _ _ hD8
      have ta9 := s9 _ _ ta8
      have hP9 := hP8.kt (KT.same (K := K) s9)
      refine ⟨fun v H' => Same H9 H' ∧ ∃ d, Ent K H' v d, ?_, ?_⟩
      · refine ⟨_, rfl, ta, _, rfl, .inr (SqT.of ta9), _, _, rfl, rfl, _, rfl, (by show 1 ≤ sizeLine; decide), fun p0 e0 => ?_⟩
        have r0 := same_new e0 (.lst [.int 0])
        have f0 : (upd H9 p0 (.lst [.int 0])) p0 = some (.lst [.int 0]) := upd_same
        have hDa := r0 _ _ hD9
        generalize upd H9 p0 (.lst [.int 0]) = Ha at *
        refine ⟨(by show 1 ≤ sizeLine; decide), fun p1 e1 => ?_⟩
        have r1 := same_new e1 (.tup [.int 0])
        have f1 : (upd Ha p1 (.tup [.int 0])) p1 = some (.tup [.int 0]) := upd_same
        have hDb := r1 _ _ hDa
        have f0b := r1 _ _ f0
        generalize upd Ha p1 (.tup [.int 0]) = Hb at *
        refine ⟨_, _, rfl, rfl, (by show CPow _ _; exact ⟨by decide, by decide, by decide⟩), ?_⟩
        refine ⟨(by show 11 ≤ sizeLine; decide), fun Lo eLo => ?_⟩
        have r2 : ∀ o, Same Hb (upd Hb Lo o) := fun o => same_new eLo o
        have i0 := Int.emod_nonneg d8 (show (11 : Int) ≠ 0 by decide)
        have i1 := Int.emod_lt_of_pos d8 (show (0 : Int) < 11 by decide)
        obtain ⟨y, hy, hy'⟩ := at_int (xs := [V.int (1 + ((ts.map natV).length : Int)), V.int (-1), V.bl true, V.bl false, V.non, V.str "0", V.ref p0, V.ref p1, V.int (10 ^ (20 : Int).toNat), V.int 0, V.int 3]) i0 (by show d8 % 11 < 11; exact i1)
        refine ⟨_, rfl, D, _, _, _, rfl, rfl, SqL.of ((r2 _) _ _ hDb), atI_nat (j := 8) h8, _, _, rfl, rfl, (by show (0 : Int) < 11; decide), Lo, _, _, _, rfl, rfl, SqL.of upd_same, hy', r0.trans (r1.trans (r2 _)), ?_⟩
        have f0c := (r2 (.lst [V.int (1 + ((ts.map natV).length : Int)), V.int (-1), V.bl true, V.bl false, V.non, V.str "0", V.ref p0, V.ref p1, V.int (10 ^ (20 : Int).toNat), V.int 0, V.int 3])) _ _ f0b
        have f1c := (r2 (.lst [V.int (1 + ((ts.map natV).length : Int)), V.int (-1), V.bl true, V.bl false, V.non, V.str "0", V.ref p0, V.ref p1, V.int (10 ^ (20 : Int).toNat), V.int 0, V.int 3])) _ _ f1
        have hm := List.mem_of_getElem? hy
        simp only [List.mem_cons, List.not_mem_nil, or_false] at hm
        rcases hm with e | e | e | e | e | e | e | e | e | e | e
        · rw [e]; exact ⟨_, ent_int (bd_small (by omega) (by rw [List.length_map]; omega))⟩
        · rw [e]; exact ⟨_, ent_int (by unfold Bd; decide)⟩
        · rw [e]; exact ⟨_, ent_bl true⟩
        · rw [e]; exact ⟨_, ent_bl false⟩
        · rw [e]; exact ⟨_, ent_non⟩
        · rw [e]; exact ⟨_, ent_str⟩
        · rw [e]; exact ⟨_, ent_lst f0c⟩
        · rw [e]; exact ⟨_, ent_tup f1c⟩
        · rw [e]; exact ⟨_, ent_int (by unfold Bd; decide)⟩
        · rw [e]; exact ⟨_, ent_int (by unfold Bd; decide)⟩
        · rw [e]; exact ⟨_, ent_int (by unfold Bd; decide)⟩
      rintro vo H10 ⟨s10, dd, hod⟩
      have hD10 := s10 _ _ hD9
      have g10 := s10 _ _ g9
      have hP10 := hP9.kt (KT.same (K := K) s10)
      have ew : Paired (Ent K H10) (ws'.map V.int) (ws'.map PyData.int) := by
        clear g10 g9 hl9
        induction ws' with
        | nil => exact .nil
        | cons x r ih => exact .cons (ent_int (hb9 x List.mem_cons_self)) (ih fun y hy => hb9 y (List.mem_cons_of_mem _ hy))
      refine ⟨_, rfl, D, _, _, _, rfl, rfl, SqL.of hD10, atI_nat (j := 7) h7, _, rfl, W', _, rfl, .inl (SqL.of g10), _, _, rfl, rfl, _, _, rfl, rfl, (by show (0 : Int) < (((ws'.map V.int).length : Nat) : Int) + 1; omega), ?_⟩
      have hl7 : (ws'.map V.int).length = ws'.length := List.length_map _
      obtain ⟨k7, e7⟩ := Int.eq_ofNat_of_zero_le (Int.emod_nonneg d7 (show (((ws'.map V.int).length : Nat) : Int) + 1 ≠ 0 by omega))
      have hk7 : k7 ≤ (ws'.map V.int).length := by
        have := Int.emod_lt_of_pos d7 (show (0 : Int) < (((ws'.map V.int).length : Nat) : Int) + 1 by omega)
        omega
      have ec1 : cutV (ws'.map V.int) none (some (d7 % ((((ws'.map V.int).length : Nat) : Int) + 1))) = (ws'.map V.int).take k7 := by rw [e7]; exact cut_to hk7
      have ec2 : cutV (ws'.map V.int) (some (d7 % ((((ws'.map V.int).length : Nat) : Int) + 1))) none = (ws'.map V.int).drop k7 := by rw [e7]; exact cut_fromN
      refine ⟨_, rfl, _, rfl, _, rfl, W', _, rfl, SqL.of g10, fun A eA => ?_⟩
      have sa : Same H10 (upd H10 A (.lst (cutV (ws'.map V.int) none (some (d7 % ((((ws'.map V.int).length : Nat) : Int) + 1)))))) := same_new eA _
      have ga : (upd H10 A (.lst (cutV (ws'.map V.int) none (some (d7 % ((((ws'.map V.int).length : Nat) : Int) + 1)))))) A = some (.lst ((ws'.map V.int).take k7)) := by rw [upd_same, ec1]
      generalize upd H10 A (.lst (cutV (ws'.map V.int) none (some (d7 % ((((ws'.map V.int).length : Nat) : Int) + 1))))) = Ha at *
      refine ⟨_, rfl, (by show 1 ≤ sizeLine; decide), fun B eB => ?_⟩
      have sb := same_new eB (.lst [vo])
      have gb : (upd Ha B (.lst [vo])) B = some (.lst [vo]) := upd_same
      generalize upd Ha B (.lst [vo]) = Hb at *
      refine ⟨A, B, _, _, rfl, rfl, sb _ _ ga, gb, Nat.le_of_lt (small1000 (by rw [List.length_take]; show min _ _ + 1 ≤ 1000; omega)), fun C1 eC1 => ?_⟩
      have sc := same_new eC1 (.lst ((ws'.map V.int).take k7 ++ [vo]))
      have gc : (upd Hb C1 (.lst ((ws'.map V.int).take k7 ++ [vo]))) C1 = some (.lst ((ws'.map V.int).take k7 ++ [vo])) := upd_same
      generalize upd Hb C1 (.lst ((ws'.map V.int).take k7 ++ [vo])) = Hc at *
      have s1c := sa.trans (sb.trans sc)
      refine ⟨_, rfl, _, rfl, _, rfl, W', _, rfl, SqL.of (s1c _ _ g10), fun E1 eE1 => ?_⟩
      have se : Same Hc (upd Hc E1 (.lst (cutV (ws'.map V.int) (some (d7 % ((((ws'.map V.int).length : Nat) : Int) + 1))) none))) := same_new eE1 _
      have ge : (upd Hc E1 (.lst (cutV (ws'.map V.int) (some (d7 % ((((ws'.map V.int).length : Nat) : Int) + 1))) none))) E1 = some (.lst ((ws'.map V.int).drop k7)) := by rw [upd_same, ec2]
      generalize upd Hc E1 (.lst (cutV (ws'.map V.int) (some (d7 % ((((ws'.map V.int).length : Nat) : Int) + 1))) none)) = Hd at *
      refine ⟨C1, E1, _, _, rfl, rfl, se _ _ gc, ge, Nat.le_of_lt (small1000 (by rw [List.length_append, List.length_take, List.length_drop, List.length_singleton]; omega)), fun BL eBL => ?_⟩
      have sf := same_new eBL (.lst ((ws'.map V.int).take k7 ++ [vo] ++ (ws'.map V.int).drop k7))
      have gf : (upd Hd BL (.lst ((ws'.map V.int).take k7 ++ [vo] ++ (ws'.map V.int).drop k7))) BL = some (.lst ((ws'.map V.int).take k7 ++ [vo] ++ (ws'.map V.int).drop k7)) := upd_same
      generalize upd Hd BL (.lst ((ws'.map V.int).take k7 ++ [vo] ++ (ws'.map V.int).drop k7)) = H11 at *
      have s1011 : Same H10 H11 := s1c.trans (se.trans sf)
      have eb : Paired (Ent K H11) ((ws'.map V.int).take k7 ++ [vo] ++ (ws'.map V.int).drop k7) ((ws'.map PyData.int).take k7 ++ [dd] ++ (ws'.map PyData.int).drop k7) :=
        papp (papp (ents_same s1011 (ptake k7 ew)) (.cons (hod.same s1011) .nil)) (ents_same s1011 (pdrop k7 ew))
      have hD11 := s1011 _ _ hD10
      have ta11 := s1011 _ _ (s10 _ _ ta9)
      have g11 := s1011 _ _ g10
      have ew11 := ents_same s1011 ew
      have hP11 := hP10.kt (KT.same (K := K) s1011)
      obtain ⟨bs, ebs⟩ : ∃ bs, bs = (ws'.map V.int).take k7 ++ [vo] ++ (ws'.map V.int).drop k7 := ⟨_, rfl⟩
      obtain ⟨bd, ebd⟩ : ∃ bd, bd = (ws'.map PyData.int).take k7 ++ [dd] ++ (ws'.map PyData.int).drop k7 := ⟨_, rfl⟩
      rw [← ebs] at gf eb
      rw [← ebd] at eb
      have hbl : bs.length ≤ 61 := by
        rw [ebs, List.length_append, List.length_append, List.length_take, List.length_drop, List.length_singleton]; omega
      refine ⟨fun v H' => Same H11 H' ∧ ∃ d, Ent K H' v d, ?_, ?_⟩
      · refine ⟨_, rfl, ta, _, rfl, .inr (SqT.of ta11), _, _, rfl, rfl, _, rfl, (by show 1 ≤ sizeLine; decide), fun p0 e0 => ?_⟩
        have r0 := same_new e0 (.lst [.int 0])
        have f0 : (upd H11 p0 (.lst [.int 0])) p0 = some (.lst [.int 0]) := upd_same
        have hDa := r0 _ _ hD11
        generalize upd H11 p0 (.lst [.int 0]) = Hx at *
        refine ⟨(by show 7 ≤ sizeLine; decide), fun Lo eLo => ?_⟩
        have r2 : ∀ o, Same Hx (upd Hx Lo o) := fun o => same_new eLo o
        have i0 := Int.emod_nonneg d5 (show (7 : Int) ≠ 0 by decide)
        have i1 := Int.emod_lt_of_pos d5 (show (0 : Int) < 7 by decide)
        obtain ⟨y, hy, hy'⟩ := at_int (xs := [V.int (1 + ((ts.map natV).length : Int)), V.int (-1), V.bl true, V.non, V.ref p0, V.int 0, V.int 2]) i0 (by show d5 % 7 < 7; exact i1)
        refine ⟨_, rfl, D, _, _, _, rfl, rfl, SqL.of ((r2 _) _ _ hDa), atI_nat (j := 5) h5, _, _, rfl, rfl, (by show (0 : Int) < 7; decide), Lo, _, _, _, rfl, rfl, SqL.of upd_same, hy', r0.trans (r2 _), ?_⟩
        have f0c := (r2 (.lst [V.int (1 + ((ts.map natV).length : Int)), V.int (-1), V.bl true, V.non, V.ref p0, V.int 0, V.int 2])) _ _ f0
        have hm := List.mem_of_getElem? hy
        simp only [List.mem_cons, List.not_mem_nil, or_false] at hm
        rcases hm with e | e | e | e | e | e | e
        · rw [e]; exact ⟨_, ent_int (bd_small (by omega) (by rw [List.length_map]; omega))⟩
        · rw [e]; exact ⟨_, ent_int (by unfold Bd; decide)⟩
        · rw [e]; exact ⟨_, ent_bl true⟩
        · rw [e]; exact ⟨_, ent_non⟩
        · rw [e]; exact ⟨_, ent_lst f0c⟩
        · rw [e]; exact ⟨_, ent_int (by unfold Bd; decide)⟩
        · rw [e]; exact ⟨_, ent_int (by unfold Bd; decide)⟩
      rintro vq H12 ⟨s12, dq, hoq⟩
      have hD12 := s12 _ _ hD11
      have gB := s12 _ _ gf
      have gW := s12 _ _ g11
      have eb12 := ents_same s12 eb
      have ew12 := ents_same s12 ew11
      have hP12 := hP11.kt (KT.same (K := K) s12)
      refine ⟨_, rfl, D, _, _, _, rfl, rfl, SqL.of hD12, atI_nat (j := 4) h4, _, rfl, BL, _, rfl, .inl (SqL.of gB), _, _, rfl, rfl, _, _, rfl, rfl, (by show (0 : Int) < ((bs.length : Nat) : Int) + 1; omega), ?_⟩
      obtain ⟨k4, e4⟩ := Int.eq_ofNat_of_zero_le (Int.emod_nonneg d4 (show ((bs.length : Nat) : Int) + 1 ≠ 0 by omega))
      have hk4 : k4 ≤ bs.length := by
        have := Int.emod_lt_of_pos d4 (show (0 : Int) < ((bs.length : Nat) : Int) + 1 by omega)
        omega
      have ec3 : cutV bs none (some (d4 % (((bs.length : Nat) : Int) + 1))) = bs.take k4 := by rw [e4]; exact cut_to hk4
      have ec4 : cutV bs (some (d4 % (((bs.length : Nat) : Int) + 1))) none = bs.drop k4 := by rw [e4]; exact cut_fromN
      refine ⟨_, rfl, _, rfl, _, rfl, BL, _, rfl, SqL.of gB, fun A2 eA2 => ?_⟩
      have sa2 : Same H12 (upd H12 A2 (.lst (cutV bs none (some (d4 % (((bs.length : Nat) : Int) + 1)))))) := same_new eA2 _
      have ga2 : (upd H12 A2 (.lst (cutV bs none (some (d4 % (((bs.length : Nat) : Int) + 1)))))) A2 = some (.lst (bs.take k4)) := by rw [upd_same, ec3]
      generalize upd H12 A2 (.lst (cutV bs none (some (d4 % (((bs.length : Nat) : Int) + 1))))) = Hp1 at *
      refine ⟨_, rfl, (by show 1 ≤ sizeLine; decide), fun B2 eB2 => ?_⟩
      have sb2 := same_new eB2 (.lst [vq])
      have gb2 : (upd Hp1 B2 (.lst [vq])) B2 = some (.lst [vq]) := upd_same
      generalize upd Hp1 B2 (.lst [vq]) = Hp2 at *
      refine ⟨A2, B2, _, _, rfl, rfl, sb2 _ _ ga2, gb2, Nat.le_of_lt (small1000 (by rw [List.length_take]; show min _ _ + 1 ≤ 1000; omega)), fun C2 eC2 => ?_⟩
      have sc2 := same_new eC2 (.lst (bs.take k4 ++ [vq]))
      have gc2 : (upd Hp2 C2 (.lst (bs.take k4 ++ [vq]))) C2 = some (.lst (bs.take k4 ++ [vq])) := upd_same
      generalize upd Hp2 C2 (.lst (bs.take k4 ++ [vq])) = Hp3 at *
      have s2c := sa2.trans (sb2.trans sc2)
      refine ⟨_, rfl, _, rfl, _, rfl, BL, _, rfl, SqL.of (s2c _ _ gB), fun E2 eE2 => ?_⟩
      have se2 : Same Hp3 (upd Hp3 E2 (.lst (cutV bs (some (d4 % (((bs.length : Nat) : Int) + 1))) none))) := same_new eE2 _
      have ge2 : (upd Hp3 E2 (.lst (cutV bs (some (d4 % (((bs.length : Nat) : Int) + 1))) none))) E2 = some (.lst (bs.drop k4)) := by rw [upd_same, ec4]
      generalize upd Hp3 E2 (.lst (cutV bs (some (d4 % (((bs.length : Nat) : Int) + 1))) none)) = Hp4 at *
      refine ⟨C2, E2, _, _, rfl, rfl, se2 _ _ gc2, ge2, Nat.le_of_lt (small1000 (by rw [List.length_append, List.length_take, List.length_drop, List.length_singleton]; omega)), fun DL eDL => ?_⟩
      have sf2 := same_new eDL (.lst (bs.take k4 ++ [vq] ++ bs.drop k4))
      have gf2 : (upd Hp4 DL (.lst (bs.take k4 ++ [vq] ++ bs.drop k4))) DL = some (.lst (bs.take k4 ++ [vq] ++ bs.drop k4)) := upd_same
      generalize upd Hp4 DL (.lst (bs.take k4 ++ [vq] ++ bs.drop k4)) = H13 at *
      have s1213 : Same H12 H13 := s2c.trans (se2.trans sf2)
      have ed : Paired (Ent K H13) (bs.take k4 ++ [vq] ++ bs.drop k4) (bd.take k4 ++ [dq] ++ bd.drop k4) :=
        papp (papp (ents_same s1213 (ptake k4 eb12)) (.cons (hoq.same s1213) .nil)) (ents_same s1213 (pdrop k4 eb12))
      have hdl : (bs.take k4 ++ [vq] ++ bs.drop k4).length ≤ 62 := by
        rw [List.length_append, List.length_append, List.length_take, List.length_drop, List.length_singleton]; omega
      generalize bs.take k4 ++ [vq] ++ bs.drop k4 = es at *
      generalize bd.take k4 ++ [dq] ++ bd.drop k4 = ee at *
      have gB13 := s1213 _ _ gB
      have gW13 := s1213 _ _ gW
      have eb13 := ents_same s1213 eb12
      have ew13 := ents_same s1213 ew12
      have hP13 := hP12.kt (KT.same (K := K) s1213)
      have s0013 : Same H H13 := s06.trans (s68.trans (s9.trans (s10.trans (s1011.trans (s12.trans s1213)))))
      refine ⟨_, rfl, W', _, rfl, .inl ⟨SqL.of gW13, fun T1 eT1 => ?_⟩⟩
      have u1 := same_new eT1 (.tup (ws'.map V.int))
      have gT1 : (upd H13 T1 (.tup (ws'.map V.int))) T1 = some (.tup (ws'.map V.int)) := upd_same
      have gB14 := u1 _ _ gB13
      have gf14 := u1 _ _ gf2
      generalize upd H13 T1 (.tup (ws'.map V.int)) = H14 at *
      refine ⟨_, rfl, BL, _, rfl, .inl ⟨SqL.of gB14, fun T2 eT2 => ?_⟩⟩
      have u2 := same_new eT2 (.tup bs)
      have gT2 : (upd H14 T2 (.tup bs)) T2 = some (.tup bs) := upd_same
      have gf15 := u2 _ _ gf14
      generalize upd H14 T2 (.tup bs) = H15 at *
      refine ⟨_, rfl, DL, _, rfl, .inl ⟨SqL.of gf15, fun T3 eT3 => ?_⟩⟩
      have u3 := same_new eT3 (.tup es)
      have gT3 : (upd H15 T3 (.tup es)) T3 = some (.tup es) := upd_same
      generalize upd H15 T3 (.tup es) = H16 at *
      refine ⟨(by show 3 ≤ sizeLine; decide), fun LL eLL => ?_⟩
      have u4 := same_new eLL (.lst [.ref T1, .ref T2, .ref T3])
      have gLL : (upd H16 LL (.lst [.ref T1, .ref T2, .ref T3])) LL = some (.lst [.ref T1, .ref T2, .ref T3]) := upd_same
      generalize upd H16 LL (.lst [.ref T1, .ref T2, .ref T3]) = H17 at *
      have q1 := (u2.trans (u3.trans u4)) _ _ gT1
      have q2 := (u3.trans u4) _ _ gT2
      have q3 := u4 _ _ gT3
      have u5 : Same H13 H17 := u1.trans (u2.trans (u3.trans u4))
      have hP17 := hP13.kt (KT.same (K := K) u5)
      have hwl7 : (ws'.map V.int).length ≤ 62 := by rw [hl7]; omega
      have all : ∀ y ∈ [V.ref T1, .ref T2, .ref T3], ∃ T us ds, y = .ref T ∧ H17 T = some (.tup us) ∧ Paired (Ent K H17) us ds ∧ us.length ≤ 62 := fun y hm => by
        simp only [List.mem_cons, List.not_mem_nil, or_false] at hm
        rcases hm with e | e | e
        · exact ⟨T1, _, _, e, q1, ents_same u5 ew13, hwl7⟩
        · exact ⟨T2, _, _, e, q2, ents_same u5 eb13, by omega⟩
        · exact ⟨T3, _, _, e, q3, ents_same u5 ed, hdl⟩
      refine ⟨LL, rfl, ⟨_, SqL.of gLL⟩, ?_⟩
      have s17 := s0013.trans u5
      refine for_list (K := K) (a := LL) (xs := [.ref T1, .ref T2, .ref T3]) (fun j σ H18 => ∃ (w12 w13 w14 w15 : Option V), σ = [some (.ref a), some (.int (0 + (i : Int))), some (.ref D), some (.ref ta), some pvv, some (.ref W'), some vo, some (.int (d7 % ((((ws'.map V.int).length : Nat) : Int) + 1))), some (.ref BL), some vq, some (.int (d4 % (((bs.length : Nat) : Int) + 1))), some (.ref DL), w12, w13, w14, w15, v16] ∧ Same H17 H18)
        ⟨v12, v13, v14, v15, rfl, Same.refl _⟩ (fun j σ H18 _ ⟨_, _, _, _, _, s⟩ => SqL.of (s _ _ gLL)) ?_ ?_
      · rintro j y σ H18 hy ⟨w12, w13, w14, w15, rfl, s18⟩
        obtain ⟨T, us, dz, rfl, hT, eu, hul⟩ := all y (List.mem_of_getElem? hy)
        have hdz : dz.length ≤ 100 := by rw [← eu.length]; omega
        have eu18 := ents_same s18 eu
        have hT18 := s18 _ _ hT
        have hP18 := hP17.kt (KT.same (K := K) s18)
        have rp := ents_repr eu hdz
        refine ⟨_, rfl, _, .tuple dz, rfl, .tup (SqT.of hT18) (ents_dp eu18), rp, ?_⟩
        refine ⟨_, rfl, _, rfl, pvv, P, T, us, rfl, hP18, ok, SqT.of hT18, by omega, ents_wh eu18, fun H19 s19 => ?_⟩
        have hT19 := s19 _ _ hT18
        have hP19 := hP18.kt (KT.same (K := K) s19)
        refine ⟨_, rfl, _, rfl, pvv, P, T, us, rfl, hP19, ok, SqT.of hT19, by omega, ents_wh (ents_same s19 eu18), fun H20 s20 => ?_⟩
        have rk : ReprOk (refD (walkF P (walk0 P) us 0)) := ref_ok fun j hj => by have := walkF_lt hj; omega
        refine ⟨_, rfl, _, refD (walkF P (walk0 P) us 0), rfl, ref_dp _, rk, ?_⟩
        refine ⟨_, rfl, _, refD (walkF P (walk0 P) us 0), rfl, ref_dp _, rk, ?_⟩
        refine ⟨rfl, _, rfl, ?_⟩
        rw [show decide (V.str (refD (walkF P (walk0 P) us 0)).shown = V.str (refD (walkF P (walk0 P) us 0)).shown) = true from decide_eq_true rfl]
        refine iteF ?_
        refine ⟨_, rfl, _, .tuple dz, rfl, .tup (SqT.of (s20 _ _ hT19)) (ents_dp (ents_same s20 (ents_same s19 eu18))), rp, ?_⟩
        refine ⟨_, rfl, rfl, _, rfl, ?_⟩
        rw [show decide (V.str (PyData.tuple dz).shown = V.str (PyData.tuple dz).shown) = true from decide_eq_true rfl]
        refine iteF ?_
        exact ⟨_, _, _, _, rfl, s18.trans (s19.trans s20)⟩
      · rintro σ H18 ⟨w12, w13, w14, w15, rfl, s18⟩
        exact ⟨_, _, _, _, _, _, _, _, _, _, _, _, _, _, _, _, rfl, s17.trans s18⟩
    · rintro σ H2 ⟨v1, v2, v3, v4, v5, v6, v7, v8, v9, v10, v11, v12, v13, v14, v15, v16, rfl, s2⟩
      refine ⟨(by show 0 ≤ sizeLine; decide), fun p0 e0 => ?_⟩
      have g0 : (upd H2 p0 (.tup [])) p0 = some (.tup []) := upd_same
      generalize upd H2 p0 (.tup []) = Ha at *
      refine ⟨(by show 0 ≤ sizeLine; decide), fun p1 e1 => ?_⟩
      have r1 := same_new e1 (.tup [])
      have g1 : (upd Ha p1 (.tup [])) p1 = some (.tup []) := upd_same
      have g0b := r1 _ _ g0
      generalize upd Ha p1 (.tup []) = Hb at *
      refine ⟨(by show 2 ≤ sizeLine; decide), fun p2 e2 => ?_⟩
      have r2 := same_new e2 (.tup [.ref p0, .ref p1])
      have g2 : (upd Hb p2 (.tup [.ref p0, .ref p1])) p2 = some (.tup [.ref p0, .ref p1]) := upd_same
      have g0c := r2 _ _ g0b
      have g1c := r2 _ _ g1
      generalize upd Hb p2 (.tup [.ref p0, .ref p1]) = Hc at *
      refine ⟨(by show 0 ≤ sizeLine; decide), fun p3 e3 => ?_⟩
      have r3 := same_new e3 (.tup [])
      have g3 : (upd Hc p3 (.tup [])) p3 = some (.tup []) := upd_same
      have g0d := r3 _ _ g0c
      have g1d := r3 _ _ g1c
      have g2d := r3 _ _ g2
      generalize upd Hc p3 (.tup []) = Hd at *
      refine ⟨.ref p2, ([], []), p3, [], rfl, ⟨p2, p0, p1, [], rfl, SqT.of g2d, SqT.of g0d, .nil, SqT.of g1d⟩, ⟨by decide, by decide, fun k z => nomatch z⟩, SqT.of g3, by decide, (fun u z => by cases z), fun _ T L1 L2 rows H3 nT nd hfr s3 hT hL1 hL2 hrs => ?_, fun i z => nomatch z⟩
      have hrw : ∃ r0, rows = [r0] ∧ H3 r0 = some (.lst []) := by
        have hh : LsAt H3 rows [[]] := hrs
        cases hh with
        | cons q rest => cases rest; exact ⟨_, rfl, q⟩
      obtain ⟨r0, rfl, hr0⟩ := hrw
      refine ⟨(by show 0 ≤ sizeLine; decide), fun l0 f0 => ?_⟩
      have w0 := same_new f0 (.lst [])
      have k0 : (upd H3 l0 (.lst [])) l0 = some (.lst []) := upd_same
      have hTa := w0 _ _ hT
      have hL1a := w0 _ _ hL1
      have hL2a := w0 _ _ hL2
      have hr0a := w0 _ _ hr0
      generalize upd H3 l0 (.lst []) = H4 at *
      refine ⟨(by show 1 ≤ sizeLine; decide), fun l1 f1 => ?_⟩
      have w1 := same_new f1 (.lst [.ref l0])
      have k1 : (upd H4 l1 (.lst [.ref l0])) l1 = some (.lst [.ref l0]) := upd_same
      have hTb := w1 _ _ hTa
      have hL1b := w1 _ _ hL1a
      have hL2b := w1 _ _ hL2a
      have hr0b := w1 _ _ hr0a
      have k0b := w1 _ _ k0
      generalize upd H4 l1 (.lst [.ref l0]) = H5 at *
      refine ⟨(by show 0 ≤ sizeLine; decide), fun l2 f2 => ?_⟩
      have w2 := same_new f2 (.lst [])
      have k2 : (upd H5 l2 (.lst [])) l2 = some (.lst []) := upd_same
      have hTc := w2 _ _ hTb
      have hL1c := w2 _ _ hL1b
      have hL2c := w2 _ _ hL2b
      have hr0c := w2 _ _ hr0b
      have k0c := w2 _ _ k0b
      have k1c := w2 _ _ k1
      generalize upd H5 l2 (.lst []) = H6 at *
      refine ⟨(by show 2 ≤ sizeLine; decide), fun tt ftt => ?_⟩
      have w3 := same_new ftt (.tup [.ref l1, .ref l2])
      have k3 : (upd H6 tt (.tup [.ref l1, .ref l2])) tt = some (.tup [.ref l1, .ref l2]) := upd_same
      have hTd := w3 _ _ hTc
      have hL1d := w3 _ _ hL1c
      have hL2d := w3 _ _ hL2c
      have hr0d := w3 _ _ hr0c
      have k0d := w3 _ _ k0c
      have k1d := w3 _ _ k1c
      have k2d := w3 _ _ k2
      generalize upd H6 tt (.tup [.ref l1, .ref l2]) = H7 at *
      refine ⟨.tuple [.list [.list []], .list []], .tuple [.list [.list []], .list []], .tup (SqT.of hTd) (.cons (.lst (SqL.of hL1d) (.cons (.lst (SqL.of hr0d) .nil) .nil)) (.cons (.lst (SqL.of hL2d) .nil) .nil)),
        .tup (SqT.of k3) (.cons (.lst (SqL.of k1d) (.cons (.lst (SqL.of k0d) .nil) .nil)) (.cons (.lst (SqL.of k2d) .nil) .nil)), by decide +kernel, by decide +kernel, ?_⟩
      rw [show PyData.eqv (.tuple [.list [.list []], .list []]) (.tuple [.list [.list []], .list []]) = true by decide +kernel]
      exact q _
end
end Far
set_option Elab.async false
set_option linter.all false
set_option maxRecDepth 100000
set_option maxHeartbeats 4000000
set_option pp.maxSteps 300
namespace Far
open PySem L2
theorem all_mk {l : PySem.W.OpenLaw} {w : World} {K : PySem.W.Frag} {h : Heap} {mg : Str → Option Value} {fa CF CN c1_ c2_ c3_ c4_ c5_ c6_ c7_ C f1 f2 f3 f4 f5 f6 f7 f8 f9 f10 f11 f12 f13 f14 f15 f16 f17 f18 f19 f20 f21 f22 f23 f24 f25 f26 f27 : Addr} (X : K.In h) (G : h.Ns mainGlobals mg) (hfa : mg "law" = some (.ref fa))
    {od1 an1 od2 an2 od3 an3 od4 an4 od5 an5 od6 an6 od7 an7 od8 an8 od9 an9 od10 an10 od11 an11 od12 an12 od13 an13 od14 an14 od15 an15 od16 an16 od17 an17 od18 an18 od19 an19 od20 an20 od21 an21 od22 an22 od23 an23 od24 an24 od25 an25 od26 an26 od27 an27 : Option Addr} {sl1 sl2 sl3 sl4 sl5 sl6 sl7 sl8 sl9 sl10 sl11 sl12 sl13 sl14 sl15 sl16 sl17 sl18 sl19 sl20 sl21 sl22 sl23 sl24 sl25 sl26 sl27 : Array (Option Value)} {oc1 kV1 dc1 pm1 cd1 ct1 oc2 kV2 dc2 pm2 cd2 ct2 oc3 kV3 dc3 pm3 cd3 ct3 oc4 kV4 dc4 pm4 cd4 ct4 oc5 kV5 dc5 pm5 cd5 ct5 oc6 kV6 dc6 pm6 cd6 ct6 oc7 kV7 dc7 pm7 cd7 ct7 oc8 kV8 dc8 pm8 cd8 ct8 oc9 kV9 dc9 pm9 cd9 ct9 oc10 kV10 dc10 pm10 cd10 ct10 oc11 kV11 dc11 pm11 cd11 ct11 oc12 kV12 dc12 pm12 cd12 ct12 oc13 kV13 dc13 pm13 cd13 ct13 oc14 kV14 dc14 pm14 cd14 ct14 oc15 kV15 dc15 pm15 cd15 ct15 oc16 kV16 dc16 pm16 cd16 ct16 oc17 kV17 dc17 pm17 cd17 ct17 oc18 kV18 dc18 pm18 cd18 ct18 oc19 kV19 dc19 pm19 cd19 ct19 oc20 kV20 dc20 pm20 cd20 ct20 oc21 kV21 dc21 pm21 cd21 ct21 oc22 kV22 dc22 pm22 cd22 ct22 oc23 kV23 dc23 pm23 cd23 ct23 oc24 kV24 dc24 pm24 cd24 ct24 oc25 kV25 dc25 pm25 cd25 ct25 oc26 kV26 dc26 pm26 cd26 ct26 oc27 kV27 dc27 pm27 cd27 ct27 : Value}
    (aC : PySem.W.nsIn K mainGlobals "Walk" = some (some (.ref C)))
    (a1 : PySem.W.nsIn K mainGlobals "is_whole" = some (some (.ref f1))) (l1 : K.lookup f1 = some ⟨oc1, od1, .func (PySem.W.fnOf "is_whole" "is_whole" (defArgs sIsWhole) (defBody sIsWhole) (defScope sIsWhole) .none kV1 dc1 pm1 an1 cd1 ct1), sl1⟩) (c1 : PySem.W.codeIn K cd1 "is_whole" = true) (k1 : PySem.W.keepIn K (.ref f1) = true)
    (a2 : PySem.W.findIn K (.ref C) "__init__" = some (some (.ref f2))) (i2 : PySem.W.isFn K (.ref f2) = true) (l2 : K.lookup f2 = some ⟨oc2, od2, .func (PySem.W.fnOf "__init__" "Walk.__init__" (defArgs sWInit) (defBody sWInit) (defScope sWInit) .none kV2 dc2 pm2 an2 cd2 ct2), sl2⟩) (c2 : PySem.W.codeIn K cd2 "Walk.__init__" = true) (k2 : PySem.W.keepIn K (.ref f2) = true)
    (a3 : PySem.W.findIn K (.ref C) "outcome" = some (some (.ref f3))) (i3 : PySem.W.isFn K (.ref f3) = true) (l3 : K.lookup f3 = some ⟨oc3, od3, .func (PySem.W.fnOf "outcome" "Walk.outcome" (defArgs sOutcome) (defBody sOutcome) (defScope sOutcome) .none kV3 dc3 pm3 an3 cd3 ct3), sl3⟩) (c3 : PySem.W.codeIn K cd3 "Walk.outcome" = true) (k3 : PySem.W.keepIn K (.ref f3) = true)
    (a4 : PySem.W.findIn K (.ref C) "has_left" = some (some (.ref f4))) (i4 : PySem.W.isFn K (.ref f4) = true) (l4 : K.lookup f4 = some ⟨oc4, od4, .func (PySem.W.fnOf "has_left" "Walk.has_left" (defArgs sHasLeft) (defBody sHasLeft) (defScope sHasLeft) .none kV4 dc4 pm4 an4 cd4 ct4), sl4⟩) (c4 : PySem.W.codeIn K cd4 "Walk.has_left" = true) (k4 : PySem.W.keepIn K (.ref f4) = true)
    (a5 : PySem.W.findIn K (.ref C) "move" = some (some (.ref f5))) (i5 : PySem.W.isFn K (.ref f5) = true) (l5 : K.lookup f5 = some ⟨oc5, od5, .func (PySem.W.fnOf "move" "Walk.move" (defArgs sMove) (defBody sMove) (defScope sMove) .none kV5 dc5 pm5 an5 cd5 ct5), sl5⟩) (c5 : PySem.W.codeIn K cd5 "Walk.move" = true) (k5 : PySem.W.keepIn K (.ref f5) = true)
    (a6 : PySem.W.findIn K (.ref C) "end_deed" = some (some (.ref f6))) (i6 : PySem.W.isFn K (.ref f6) = true) (l6 : K.lookup f6 = some ⟨oc6, od6, .func (PySem.W.fnOf "end_deed" "Walk.end_deed" (defArgs sEndDeed) (defBody sEndDeed) (defScope sEndDeed) .none kV6 dc6 pm6 an6 cd6 ct6), sl6⟩) (c6 : PySem.W.codeIn K cd6 "Walk.end_deed" = true) (k6 : PySem.W.keepIn K (.ref f6) = true)
    (a7 : PySem.W.findIn K (.ref C) "come_to" = some (some (.ref f7))) (i7 : PySem.W.isFn K (.ref f7) = true) (l7 : K.lookup f7 = some ⟨oc7, od7, .func (PySem.W.fnOf "come_to" "Walk.come_to" (defArgs sComeTo) (defBody sComeTo) (defScope sComeTo) .none kV7 dc7 pm7 an7 cd7 ct7), sl7⟩) (c7 : PySem.W.codeIn K cd7 "Walk.come_to" = true) (k7 : PySem.W.keepIn K (.ref f7) = true)
    (a8 : PySem.W.findIn K (.ref C) "move_lay" = some (some (.ref f8))) (i8 : PySem.W.isFn K (.ref f8) = true) (l8 : K.lookup f8 = some ⟨oc8, od8, .func (PySem.W.fnOf "move_lay" "Walk.move_lay" (defArgs sMoveLay) (defBody sMoveLay) (defScope sMoveLay) .none kV8 dc8 pm8 an8 cd8 ct8), sl8⟩) (c8 : PySem.W.codeIn K cd8 "Walk.move_lay" = true) (k8 : PySem.W.keepIn K (.ref f8) = true)
    (a9 : PySem.W.findIn K (.ref C) "put_near" = some (some (.ref f9))) (i9 : PySem.W.isFn K (.ref f9) = true) (l9 : K.lookup f9 = some ⟨oc9, od9, .func (PySem.W.fnOf "put_near" "Walk.put_near" (defArgs sPutNear) (defBody sPutNear) (defScope sPutNear) .none kV9 dc9 pm9 an9 cd9 ct9), sl9⟩) (c9 : PySem.W.codeIn K cd9 "Walk.put_near" = true) (k9 : PySem.W.keepIn K (.ref f9) = true)
    (a10 : PySem.W.findIn K (.ref C) "move_take" = some (some (.ref f10))) (i10 : PySem.W.isFn K (.ref f10) = true) (l10 : K.lookup f10 = some ⟨oc10, od10, .func (PySem.W.fnOf "move_take" "Walk.move_take" (defArgs sMoveTake) (defBody sMoveTake) (defScope sMoveTake) .none kV10 dc10 pm10 an10 cd10 ct10), sl10⟩) (c10 : PySem.W.codeIn K cd10 "Walk.move_take" = true) (k10 : PySem.W.keepIn K (.ref f10) = true)
    (a11 : PySem.W.findIn K (.ref C) "take_third" = some (some (.ref f11))) (i11 : PySem.W.isFn K (.ref f11) = true) (l11 : K.lookup f11 = some ⟨oc11, od11, .func (PySem.W.fnOf "take_third" "Walk.take_third" (defArgs sTakeThird) (defBody sTakeThird) (defScope sTakeThird) .none kV11 dc11 pm11 an11 cd11 ct11), sl11⟩) (c11 : PySem.W.codeIn K cd11 "Walk.take_third" = true) (k11 : PySem.W.keepIn K (.ref f11) = true)
    (a12 : PySem.W.findIn K (.ref C) "take_fourth" = some (some (.ref f12))) (i12 : PySem.W.isFn K (.ref f12) = true) (l12 : K.lookup f12 = some ⟨oc12, od12, .func (PySem.W.fnOf "take_fourth" "Walk.take_fourth" (defArgs sTakeFourth) (defBody sTakeFourth) (defScope sTakeFourth) .none kV12 dc12 pm12 an12 cd12 ct12), sl12⟩) (c12 : PySem.W.codeIn K cd12 "Walk.take_fourth" = true) (k12 : PySem.W.keepIn K (.ref f12) = true)
    (a13 : PySem.W.findIn K (.ref C) "move_try" = some (some (.ref f13))) (i13 : PySem.W.isFn K (.ref f13) = true) (l13 : K.lookup f13 = some ⟨oc13, od13, .func (PySem.W.fnOf "move_try" "Walk.move_try" (defArgs sMoveTry) (defBody sMoveTry) (defScope sMoveTry) .none kV13 dc13 pm13 an13 cd13 ct13), sl13⟩) (c13 : PySem.W.codeIn K cd13 "Walk.move_try" = true) (k13 : PySem.W.keepIn K (.ref f13) = true)
    (a14 : PySem.W.findIn K (.ref CN) "__init__" = some (some (.ref f14))) (i14 : PySem.W.isFn K (.ref f14) = true) (l14 : K.lookup f14 = some ⟨oc14, od14, .func (PySem.W.fnOf "__init__" "NoTurn.__init__" (defArgs sNTInit) (defBody sNTInit) (defScope sNTInit) .none kV14 dc14 pm14 an14 cd14 ct14), sl14⟩) (c14 : PySem.W.codeIn K cd14 "NoTurn.__init__" = true) (k14 : PySem.W.keepIn K (.ref f14) = true)
    (a15 : PySem.W.nsIn K mainGlobals "walked" = some (some (.ref f15))) (l15 : K.lookup f15 = some ⟨oc15, od15, .func (PySem.W.fnOf "walked" "walked" (defArgs sWalked) (defBody sWalked) (defScope sWalked) .none kV15 dc15 pm15 an15 cd15 ct15), sl15⟩) (c15 : PySem.W.codeIn K cd15 "walked" = true) (k15 : PySem.W.keepIn K (.ref f15) = true)
    (a16 : PySem.W.nsIn K mainGlobals "_law_mix" = some (some (.ref f16))) (l16 : K.lookup f16 = some ⟨oc16, od16, .func (PySem.W.fnOf "_law_mix" "_law_mix" (defArgs sMix) (defBody sMix) (defScope sMix) .none kV16 dc16 pm16 an16 cd16 ct16), sl16⟩) (c16 : PySem.W.codeIn K cd16 "_law_mix" = true) (k16 : PySem.W.keepIn K (.ref f16) = true)
    (a17 : PySem.W.nsIn K mainGlobals "_law_digits" = some (some (.ref f17))) (l17 : K.lookup f17 = some ⟨oc17, od17, .func (PySem.W.fnOf "_law_digits" "_law_digits" (defArgs sDigits) (defBody sDigits) (defScope sDigits) .none kV17 dc17 pm17 an17 cd17 ct17), sl17⟩) (c17 : PySem.W.codeIn K cd17 "_law_digits" = true) (k17 : PySem.W.keepIn K (.ref f17) = true)
    (a18 : PySem.W.nsIn K mainGlobals "_law_at" = some (some (.ref f18))) (l18 : K.lookup f18 = some ⟨oc18, od18, .func (PySem.W.fnOf "_law_at" "_law_at" (defArgs sAt) (defBody sAt) (defScope sAt) .none kV18 dc18 pm18 an18 cd18 ct18), sl18⟩) (c18 : PySem.W.codeIn K cd18 "_law_at" = true) (k18 : PySem.W.keepIn K (.ref f18) = true)
    (a19 : PySem.W.nsIn K mainGlobals "_law_first" = some (some (.ref f19))) (l19 : K.lookup f19 = some ⟨oc19, od19, .func (PySem.W.fnOf "_law_first" "_law_first" (defArgs sLFirst) (defBody sLFirst) (defScope sLFirst) .none kV19 dc19 pm19 an19 cd19 ct19), sl19⟩) (c19 : PySem.W.codeIn K cd19 "_law_first" = true) (k19 : PySem.W.keepIn K (.ref f19) = true)
    (a20 : PySem.W.nsIn K mainGlobals "_law_take_part" = some (some (.ref f20))) (l20 : K.lookup f20 = some ⟨oc20, od20, .func (PySem.W.fnOf "_law_take_part" "_law_take_part" (defArgs sLTakeP) (defBody sLTakeP) (defScope sLTakeP) .none kV20 dc20 pm20 an20 cd20 ct20), sl20⟩) (c20 : PySem.W.codeIn K cd20 "_law_take_part" = true) (k20 : PySem.W.keepIn K (.ref f20) = true)
    (a21 : PySem.W.nsIn K mainGlobals "_law_try_part" = some (some (.ref f21))) (l21 : K.lookup f21 = some ⟨oc21, od21, .func (PySem.W.fnOf "_law_try_part" "_law_try_part" (defArgs sLTryP) (defBody sLTryP) (defScope sLTryP) .none kV21 dc21 pm21 an21 cd21 ct21), sl21⟩) (c21 : PySem.W.codeIn K cd21 "_law_try_part" = true) (k21 : PySem.W.keepIn K (.ref f21) = true)
    (a22 : PySem.W.nsIn K mainGlobals "_law_small_step" = some (some (.ref f22))) (l22 : K.lookup f22 = some ⟨oc22, od22, .func (PySem.W.fnOf "_law_small_step" "_law_small_step" (defArgs sLStep) (defBody sLStep) (defScope sLStep) .none kV22 dc22 pm22 an22 cd22 ct22), sl22⟩) (c22 : PySem.W.codeIn K cd22 "_law_small_step" = true) (k22 : PySem.W.keepIn K (.ref f22) = true)
    (a23 : PySem.W.nsIn K mainGlobals "_law_play" = some (some (.ref f23))) (l23 : K.lookup f23 = some ⟨oc23, od23, .func (PySem.W.fnOf "_law_play" "_law_play" (defArgs sPlayD) (defBody sPlayD) (defScope sPlayD) .none kV23 dc23 pm23 an23 cd23 ct23), sl23⟩) (c23 : PySem.W.codeIn K cd23 "_law_play" = true) (k23 : PySem.W.keepIn K (.ref f23) = true)
    (a24 : PySem.W.nsIn K mainGlobals "_law_to_end" = some (some (.ref f24))) (l24 : K.lookup f24 = some ⟨oc24, od24, .func (PySem.W.fnOf "_law_to_end" "_law_to_end" (defArgs sLToEnd) (defBody sLToEnd) (defScope sLToEnd) .none kV24 dc24 pm24 an24 cd24 ct24), sl24⟩) (c24 : PySem.W.codeIn K cd24 "_law_to_end" = true) (k24 : PySem.W.keepIn K (.ref f24) = true)
    (a25 : PySem.W.nsIn K mainGlobals "_law_due" = some (some (.ref f25))) (l25 : K.lookup f25 = some ⟨oc25, od25, .func (PySem.W.fnOf "_law_due" "_law_due" (defArgs sLDue) (defBody sLDue) (defScope sLDue) .none kV25 dc25 pm25 an25 cd25 ct25), sl25⟩) (c25 : PySem.W.codeIn K cd25 "_law_due" = true) (k25 : PySem.W.keepIn K (.ref f25) = true)
    (a26 : PySem.W.nsIn K mainGlobals "_law_refused" = some (some (.ref f26))) (l26 : K.lookup f26 = some ⟨oc26, od26, .func (PySem.W.fnOf "_law_refused" "_law_refused" (defArgs sLRefused) (defBody sLRefused) (defScope sLRefused) .none kV26 dc26 pm26 an26 cd26 ct26), sl26⟩) (c26 : PySem.W.codeIn K cd26 "_law_refused" = true) (k26 : PySem.W.keepIn K (.ref f26) = true)
    (a27 : PySem.W.nsIn K mainGlobals "law" = some (some (.ref f27))) (l27 : K.lookup f27 = some ⟨oc27, od27, .func (PySem.W.fnOf "law" "law" (defArgs sLaw) (defBody sLaw) (defScope sLaw) .none kV27 dc27 pm27 an27 cd27 ct27), sl27⟩) (c27 : PySem.W.codeIn K cd27 "law" = true) (k27 : PySem.W.keepIn K (.ref f27) = true)
    (pg : PySem.W.plainGet K C Str.empty = true) (hd : PySem.W.hasDictIn K C = true) (po : PySem.W.plainOver K C = true) (sa : PySem.W.findIn K (.ref C) "__setattr__" = some (some (.builtin "object.__setattr__"))) (mk : PySem.W.makesIn K C = true) (kc : PySem.W.keepIn K (.ref C) = true)
    (n1 : PySem.W.findIn K (.ref C) "play" = some none)
    (n2 : PySem.W.findIn K (.ref C) "rules" = some none)
    (n3 : PySem.W.findIn K (.ref C) "due_deeds" = some none)
    (n4 : PySem.W.findIn K (.ref C) "past_deeds" = some none)
    (n5 : PySem.W.findIn K (.ref C) "small_done" = some none)
    (n6 : PySem.W.findIn K (.ref C) "far_read" = some none)
    (n7 : PySem.W.findIn K (.ref C) "held" = some none)
    (n8 : PySem.W.findIn K (.ref C) "told" = some none)
    (n9 : PySem.W.findIn K (.ref C) "boxes" = some none)
    (n10 : PySem.W.findIn K (.ref C) "near" = some none)
    (n11 : PySem.W.findIn K (.ref C) "far" = some none)
    (z1 : PySem.W.nsIn K mainGlobals "len" = some none)
    (z2 : PySem.W.nsIn K mainGlobals "list" = some none)
    (z3 : PySem.W.nsIn K mainGlobals "tuple" = some none)
    (z4 : PySem.W.nsIn K mainGlobals "range" = some none)
    (z5 : PySem.W.nsIn K mainGlobals "isinstance" = some none)
    (z6 : PySem.W.nsIn K mainGlobals "int" = some none)
    (z7 : PySem.W.nsIn K mainGlobals "bool" = some none)
    (z8 : PySem.W.nsIn K mainGlobals "enumerate" = some none)
    (z9 : PySem.W.nsIn K mainGlobals "abs" = some none)
    (z10 : PySem.W.nsIn K mainGlobals "min" = some none)
    (z11 : PySem.W.nsIn K mainGlobals "max" = some none)
    (z12 : PySem.W.nsIn K mainGlobals "sorted" = some none)
    (z13 : PySem.W.nsIn K mainGlobals "repr" = some none)
    (z14 : PySem.W.nsIn K mainGlobals "ValueError" = some none)
    (aF : PySem.W.nsIn K mainGlobals "FarError" = some (some (.ref CF))) (aN : PySem.W.nsIn K mainGlobals "NoTurn" = some (some (.ref CN))) (aE1 : PySem.W.nsIn K mainGlobals "NoBack" = some (some (.ref c1_))) (aE2 : PySem.W.nsIn K mainGlobals "NoJob" = some (some (.ref c2_))) (aE3 : PySem.W.nsIn K mainGlobals "NoLine" = some (some (.ref c3_))) (aE4 : PySem.W.nsIn K mainGlobals "NoOrder" = some (some (.ref c4_))) (aE5 : PySem.W.nsIn K mainGlobals "NoSize" = some (some (.ref c5_))) (aE6 : PySem.W.nsIn K mainGlobals "NoText" = some (some (.ref c6_))) (aE7 : PySem.W.nsIn K mainGlobals "NoYard" = some (some (.ref c7_)))
    (qF : PySem.W.excIn K CF bmVE "ValueError.__new__" = true) (qN : excIn2 K CN (some (.ref f14)) = true) (sN : subIn K CN CF = true)
    (xb1 : PySem.W.specialIn K (.ref CF) "__getattribute__" = some (some (.builtin "type.__getattribute__"))) (xb2 : PySem.W.readsIn K CF (.type "type") = true) (xb3 : PySem.W.findCls K (.ref CF) (.type "type") "__init__" = some (.val (.builtin "ValueError.__init__")))
    (o1 : PySem.W.findIn K (.ref CN) "__setattr__" = some (some (.builtin "object.__setattr__"))) (o2 : PySem.W.excOver K CN = true) (o3 : PySem.W.hasDictIn K CN = true) (o4 : PySem.W.findIn K (.ref CN) "__getattribute__" = some (some (.builtin "BaseException.__getattribute__"))) (o5 : PySem.W.findIn K (.ref CN) "__getattr__" = some none) (o6 : PySem.W.findIn K (.ref CN) "__class__" = some (some (.builtin "object.__class__"))) (o7 : PySem.W.findIn K (.ref CN) "place" = some none)
    (o8 : PySem.W.kitAny K (.ref CN) ([c1_, c2_, c3_, c4_, c5_, c6_, c7_].map Value.ref) = some false) (o9 : PySem.W.kitOne K (.ref CN) (.ref CN) = some true) (o10 : PySem.W.kitOne K (.ref CN) (.type "ValueError") = some true) (kN : PySem.W.keepIn K (.ref CN) = true) :
    ∃ fd : FuncData, (∀ (s : Shared) (v : Value), BindsTo s fd ⟨[v], []⟩ [("script", v)]) ∧ ∀ base : Heap, K.In base → base.Ns mainGlobals mg → FnOk l.prog w K mg base CX0 9 fa fd ["script"] (spLaw K) := by
  have e := hfa.symm.trans (PySem.W.mg_of X G a27)
  cases e
  have F1 := fun_mk (st := sIsWhole) l1 c1 k1
  have F2 := fun_mk (st := sWInit) l2 c2 k2
  have F3 := fun_mk (st := sOutcome) l3 c3 k3
  have F4 := fun_mk (st := sHasLeft) l4 c4 k4
  have F5 := fun_mk (st := sMove) l5 c5 k5
  have F6 := fun_mk (st := sEndDeed) l6 c6 k6
  have F7 := fun_mk (st := sComeTo) l7 c7 k7
  have F8 := fun_mk (st := sMoveLay) l8 c8 k8
  have F9 := fun_mk (st := sPutNear) l9 c9 k9
  have F10 := fun_mk (st := sMoveTake) l10 c10 k10
  have F11 := fun_mk (st := sTakeThird) l11 c11 k11
  have F12 := fun_mk (st := sTakeFourth) l12 c12 k12
  have F13 := fun_mk (st := sMoveTry) l13 c13 k13
  have F14 := fun_mk (st := sNTInit) l14 c14 k14
  have F15 := fun_mk (st := sWalked) l15 c15 k15
  have F16 := fun_mk (st := sMix) l16 c16 k16
  have F17 := fun_mk (st := sDigits) l17 c17 k17
  have F18 := fun_mk (st := sAt) l18 c18 k18
  have F19 := fun_mk (st := sLFirst) l19 c19 k19
  have F20 := fun_mk (st := sLTakeP) l20 c20 k20
  have F21 := fun_mk (st := sLTryP) l21 c21 k21
  have F22 := fun_mk (st := sLStep) l22 c22 k22
  have F23 := fun_mk (st := sPlayD) l23 c23 k23
  have F24 := fun_mk (st := sLToEnd) l24 c24 k24
  have F25 := fun_mk (st := sLDue) l25 c25 k25
  have F26 := fun_mk (st := sLRefused) l26 c26 k26
  have F27 := fun_mk (st := sLaw) l27 c27 k27
  have b1 := F1.binds (ps := ["thing"]) fun _ _ _ _ _ _ us hl => match us, hl with | [_], _ => rfl
  have m1 := PySem.W.mg_of X G a1
  have b2 := F2.binds (ps := ["self", "play", "rules"]) fun _ _ _ _ _ _ us hl => match us, hl with | [_, _, _], _ => rfl
  have m2 : Mk K C f2 := ⟨mk, a2, i2, kc⟩
  have b3 := F3.binds (ps := ["self"]) fun _ _ _ _ _ _ us hl => match us, hl with | [_], _ => rfl
  have m3 : Meth K C "outcome" f3 := ⟨a3, i3, k3⟩
  have b4 := F4.binds (ps := ["self", "who"]) fun _ _ _ _ _ _ us hl => match us, hl with | [_, _], _ => rfl
  have m4 : Meth K C "has_left" f4 := ⟨a4, i4, k4⟩
  have b5 := F5.binds (ps := ["self", "who"]) fun _ _ _ _ _ _ us hl => match us, hl with | [_, _], _ => rfl
  have m5 : Meth K C "move" f5 := ⟨a5, i5, k5⟩
  have b6 := F6.binds (ps := ["self", "who"]) fun _ _ _ _ _ _ us hl => match us, hl with | [_, _], _ => rfl
  have m6 : Meth K C "end_deed" f6 := ⟨a6, i6, k6⟩
  have b7 := F7.binds (ps := ["self", "who", "what"]) fun _ _ _ _ _ _ us hl => match us, hl with | [_, _, _], _ => rfl
  have m7 : Meth K C "come_to" f7 := ⟨a7, i7, k7⟩
  have b8 := F8.binds (ps := ["self", "number"]) fun _ _ _ _ _ _ us hl => match us, hl with | [_, _], _ => rfl
  have m8 : Meth K C "move_lay" f8 := ⟨a8, i8, k8⟩
  have b9 := F9.binds (ps := ["self", "thing"]) fun _ _ _ _ _ _ us hl => match us, hl with | [_, _], _ => rfl
  have m9 : Meth K C "put_near" f9 := ⟨a9, i9, k9⟩
  have b10 := F10.binds (ps := ["self", "number"]) fun _ _ _ _ _ _ us hl => match us, hl with | [_, _], _ => rfl
  have m10 : Meth K C "move_take" f10 := ⟨a10, i10, k10⟩
  have b11 := F11.binds (ps := ["self"]) fun _ _ _ _ _ _ us hl => match us, hl with | [_], _ => rfl
  have m11 : Meth K C "take_third" f11 := ⟨a11, i11, k11⟩
  have b12 := F12.binds (ps := ["self"]) fun _ _ _ _ _ _ us hl => match us, hl with | [_], _ => rfl
  have m12 : Meth K C "take_fourth" f12 := ⟨a12, i12, k12⟩
  have b13 := F13.binds (ps := ["self", "who", "number"]) fun _ _ _ _ _ _ us hl => match us, hl with | [_, _, _], _ => rfl
  have m13 : Meth K C "move_try" f13 := ⟨a13, i13, k13⟩
  have b14 := F14.binds (ps := ["self", "place"]) fun _ _ _ _ _ _ us hl => match us, hl with | [_, _], _ => rfl
  have b15 := F15.binds (ps := ["play", "weaving"]) fun _ _ _ _ _ _ us hl => match us, hl with | [_, _], _ => rfl
  have m15 := PySem.W.mg_of X G a15
  have b16 := F16.binds (ps := ["cell", "k"]) fun _ _ _ _ _ _ us hl => match us, hl with | [_, _], _ => rfl
  have m16 := PySem.W.mg_of X G a16
  have b17 := F17.binds (ps := ["cell", "many"]) fun _ _ _ _ _ _ us hl => match us, hl with | [_, _], _ => rfl
  have m17 := PySem.W.mg_of X G a17
  have b18 := F18.binds (ps := ["script", "k"]) fun _ _ _ _ _ _ us hl => match us, hl with | [_, _], _ => rfl
  have m18 := PySem.W.mg_of X G a18
  have b19 := F19.binds (ps := ["play"]) fun _ _ _ _ _ _ us hl => match us, hl with | [_], _ => rfl
  have m19 := PySem.W.mg_of X G a19
  have b20 := F20.binds (ps := ["rules", "near", "far", "box", "part"]) fun _ _ _ _ _ _ us hl => match us, hl with | [_, _, _, _, _], _ => rfl
  have m20 := PySem.W.mg_of X G a20
  have b21 := F21.binds (ps := ["rules", "near", "far", "box", "part"]) fun _ _ _ _ _ _ us hl => match us, hl with | [_, _, _, _, _], _ => rfl
  have m21 := PySem.W.mg_of X G a21
  have b22 := F22.binds (ps := ["play", "rules", "state", "who"]) fun _ _ _ _ _ _ us hl => match us, hl with | [_, _, _, _], _ => rfl
  have m22 := PySem.W.mg_of X G a22
  have b23 := F23.binds (ps := ["some", "most", "tries"]) fun _ _ _ _ _ _ us hl => match us, hl with | [_, _, _], _ => rfl
  have m23 := PySem.W.mg_of X G a23
  have b24 := F24.binds (ps := ["play", "some"]) fun _ _ _ _ _ _ us hl => match us, hl with | [_, _], _ => rfl
  have m24 := PySem.W.mg_of X G a24
  have b25 := F25.binds (ps := ["play", "weaving"]) fun _ _ _ _ _ _ us hl => match us, hl with | [_, _], _ => rfl
  have m25 := PySem.W.mg_of X G a25
  have b26 := F26.binds (ps := ["play", "weaving"]) fun _ _ _ _ _ _ us hl => match us, hl with | [_, _], _ => rfl
  have m26 := PySem.W.mg_of X G a26
  have mF := PySem.W.mg_of X G aF
  have mN := PySem.W.mg_of X G aN
  have mE1 := PySem.W.mg_of X G aE1
  have mE2 := PySem.W.mg_of X G aE2
  have mE3 := PySem.W.mg_of X G aE3
  have mE4 := PySem.W.mg_of X G aE4
  have mE5 := PySem.W.mg_of X G aE5
  have mE6 := PySem.W.mg_of X G aE6
  have mE7 := PySem.W.mg_of X G aE7
  have xF : XC K CF := ⟨qF⟩
  have xM : XM K CN f14 := ⟨qN, i14, kN⟩
  have xb : XB K CF := ⟨xb1, xb2, xb3⟩
  have xo : XO K CN := ⟨o1, o2, o3, o4, o5⟩
  have xN : XN K CN [c1_, c2_, c3_, c4_, c5_, c6_, c7_] := ⟨⟨xM.xk, o4, o5, o6⟩, xo, o7, o8, o9, o10⟩
  have mC := PySem.W.mg_of X G aC
  have y1 := PySem.W.mg_none_of X G z1
  have y2 := PySem.W.mg_none_of X G z2
  have y3 := PySem.W.mg_none_of X G z3
  have y4 := PySem.W.mg_none_of X G z4
  have y5 := PySem.W.mg_none_of X G z5
  have y6 := PySem.W.mg_none_of X G z6
  have y7 := PySem.W.mg_none_of X G z7
  have y8 := PySem.W.mg_none_of X G z8
  have y9 := PySem.W.mg_none_of X G z9
  have y10 := PySem.W.mg_none_of X G z10
  have y11 := PySem.W.mg_none_of X G z11
  have y12 := PySem.W.mg_none_of X G z12
  have y13 := PySem.W.mg_none_of X G z13
  have y14 := PySem.W.mg_none_of X G z14
  have T : TxtW K mg C := ⟨⟨pg, hd, po, sa⟩, n1, n2, n3, n4, n5, n6, n7, n8, n9, n10, n11, mC, y1, y2, y3, y4, y5, y6, y7, y8, y9, y10, y11, y12, y13⟩
  refine ⟨PySem.W.fnOf "law" "law" (defArgs sLaw) (defBody sLaw) (defScope sLaw) .none kV27 dc27 pm27 an27 cd27 ct27, fun s v => .of_eq rfl, fun base _ _ => ?_⟩
  have G16 := ok_mix (P := l.prog) (w := w) (mg := mg) (base := base) F16 T 
  have G17 := ok_digits (P := l.prog) (w := w) (mg := mg) (base := base) F17 T G16 b16 k16 m16
  have G18 := ok_at (P := l.prog) (w := w) (mg := mg) (base := base) F18 T 
  have G23 := ok_playD (P := l.prog) (w := w) (mg := mg) (base := base) F23 T 
  have G19 := ok_lFirst (P := l.prog) (w := w) (mg := mg) (base := base) F19 T 
  have G21 := ok_lTryP (P := l.prog) (w := w) (mg := mg) (base := base) F21 T 
  have G20 := ok_lTakeP (P := l.prog) (w := w) (mg := mg) (base := base) F20 T 
  have G22 := ok_lStep (P := l.prog) (w := w) (mg := mg) (base := base) F22 T G21 b21 k21 m21 G20 b20 k20 m20
  have G24 := ok_lToEnd (P := l.prog) (w := w) (mg := mg) (base := base) F24 T G19 b19 k19 m19 G22 b22 k22 m22
  have G25 := ok_lDue (P := l.prog) (w := w) (mg := mg) (base := base) F25 T G19 b19 k19 m19 G22 b22 k22 m22
  have G2 := ok_wInit (P := l.prog) (w := w) (mg := mg) (base := base) F2 T 
  have G1 := ok_isWhole (P := l.prog) (w := w) (mg := mg) (base := base) F1 T 
  have G4 := ok_hasLeft (P := l.prog) (w := w) (mg := mg) (base := base) F4 T G1 b1 k1 m1
  have G6 := ok_endDeed (P := l.prog) (w := w) (mg := mg) (base := base) F6 T 
  have G7 := ok_comeTo (P := l.prog) (w := w) (mg := mg) (base := base) F7 T G6 b6 m6
  have G13 := ok_moveTry (P := l.prog) (w := w) (mg := mg) (base := base) F13 T G7 b7 m7
  have G9 := ok_putNear (P := l.prog) (w := w) (mg := mg) (base := base) F9 T 
  have G8 := ok_moveLay (P := l.prog) (w := w) (mg := mg) (base := base) F8 T G9 b9 m9 G6 b6 m6
  have G11 := ok_takeThird (P := l.prog) (w := w) (mg := mg) (base := base) F11 T G7 b7 m7
  have G12 := ok_takeFourth (P := l.prog) (w := w) (mg := mg) (base := base) F12 T 
  have G10 := ok_moveTake (P := l.prog) (w := w) (mg := mg) (base := base) F10 T G11 b11 m11 G12 b12 m12 G7 b7 m7
  have G5 := ok_move (P := l.prog) (w := w) (mg := mg) (base := base) F5 T G13 b13 m13 G8 b8 m8 G10 b10 m10
  have G3 := ok_outcome (P := l.prog) (w := w) (mg := mg) (base := base) F3 T 
  have G14 := ok_ntInit (P := l.prog) (w := w) (mg := mg) (base := base) F14 mF xb xM.xk xo o7
  have G15 := ok_walkedE (P := l.prog) (w := w) (mg := mg) (base := base) F15 T xM G14 b14 mN G2 b2 m2 G4 b4 m4 G5 b5 m5 G3 b3 m3
  have G26 := ok_lRefused (P := l.prog) (w := w) (mg := mg) (base := base) F26 T xF sN xN mF mN y14 mE1 mE2 mE3 mE4 mE5 mE6 mE7 G15 b15 k15 m15
  exact ok_law (P := l.prog) (w := w) (mg := mg) (base := base) F27 T G17 b17 k17 m17 G18 b18 k18 m18 G23 b23 k23 m23 G24 b24 k24 m24 G25 b25 k25 m25 G26 b26 k26 m26 G15 b15 k15 m15
theorem walk {l : PySem.W.OpenLaw} {q : Program} {loose : List Str} {XP : (Str → Option Value) → Heap → Prop} {YP : World → Heap → Prop} {d : DefRec} {K : Params → PySem.W.Frag} (hn : l.most = some 63) (hdf : d.params.defaults = [])
    (hY : ∀ (w : World) (h : Heap), YP w h → (K w.params).In h)
    (F : ∀ (w : World) (mg : Str → Option Value) (fa : Addr) (h : Heap), (K w.params).In h → h.Ns mainGlobals mg → mg d.name = some (.ref fa) →
      ∃ fd : FuncData, (∀ (s : Shared) (u : Value), BindsTo s fd ⟨[u], []⟩ [("script", u)]) ∧ ∀ base : Heap, (K w.params).In base → base.Ns mainGlobals mg → FnOk l.prog w (K w.params) mg base CX0 9 fa fd ["script"] (spLaw (K w.params))) :
    PySem.W.WalkO q loose XP YP l.row.toRowW d [] (fun f vs => PySem.call f vs) :=
  L2.walk_of (n := 63) (k := 9) (x := "script") (CX := fun _ => CX0) (sp := fun w => spLaw (K w.params)) hn (by decide) hdf ⟨rfl, by decide, by decide, rfl⟩ hY F (fun _ _ a ns hl _ hS => ⟨a, ns, rfl, hS, hl, fun _ => rfl⟩) fun _ _ _ _ _ z => z
end Far
open PySem PySem.W PyProof.Rows
set_option maxRecDepth 100000 in
set_option maxHeartbeats 0 in
theorem PySem.Challenge.cw_farend_k48_small_weavings_refused_holds : PySem.Challenge.rw_farend_k48_small_weavings_refused.Holds := by
  w_on; o_law; k_head; (case hw => w_witness2)
  k_fill
  refine Far.walk (l := PySem.Challenge.rw_farend_k48_small_weavings_refused) rfl rfl (fun w h Y => PySem.W.kIn_of Y) ?F
  case F =>
    intro w mg fa h KX G hmg
    refine' Far.all_mk KX G hmg ?aC ?a1 ?l1 ?c1 ?k1 ?a2 ?i2 ?l2 ?c2 ?k2 ?a3 ?i3 ?l3 ?c3 ?k3 ?a4 ?i4 ?l4 ?c4 ?k4 ?a5 ?i5 ?l5 ?c5 ?k5 ?a6 ?i6 ?l6 ?c6 ?k6 ?a7 ?i7 ?l7 ?c7 ?k7 ?a8 ?i8 ?l8 ?c8 ?k8 ?a9 ?i9 ?l9 ?c9 ?k9 ?a10 ?i10 ?l10 ?c10 ?k10 ?a11 ?i11 ?l11 ?c11 ?k11 ?a12 ?i12 ?l12 ?c12 ?k12 ?a13 ?i13 ?l13 ?c13 ?k13 ?a14 ?i14 ?l14 ?c14 ?k14 ?a15 ?l15 ?c15 ?k15 ?a16 ?l16 ?c16 ?k16 ?a17 ?l17 ?c17 ?k17 ?a18 ?l18 ?c18 ?k18 ?a19 ?l19 ?c19 ?k19 ?a20 ?l20 ?c20 ?k20 ?a21 ?l21 ?c21 ?k21 ?a22 ?l22 ?c22 ?k22 ?a23 ?l23 ?c23 ?k23 ?a24 ?l24 ?c24 ?k24 ?a25 ?l25 ?c25 ?k25 ?a26 ?l26 ?c26 ?k26 ?a27 ?l27 ?c27 ?k27 ?pg ?hd ?po ?sa ?mk ?kc ?n1 ?n2 ?n3 ?n4 ?n5 ?n6 ?n7 ?n8 ?n9 ?n10 ?n11 ?z1 ?z2 ?z3 ?z4 ?z5 ?z6 ?z7 ?z8 ?z9 ?z10 ?z11 ?z12 ?z13 ?z14 ?aF ?aN ?aE1 ?aE2 ?aE3 ?aE4 ?aE5 ?aE6 ?aE7 ?qF ?qN ?sN ?xb1 ?xb2 ?xb3 ?o1 ?o2 ?o3 ?o4 ?o5 ?o6 ?o7 ?o8 ?o9 ?o10 ?kN
    (case aC => k_is)
    (case aN => k_is)
    (case a1 => k_is)
    (case l1 => k_is)
    (case c1 => k_is)
    (case k1 => k_is)
    (case a2 => k_is)
    (case i2 => k_is)
    (case l2 => k_is)
    (case c2 => k_is)
    (case k2 => k_is)
    (case a3 => k_is)
    (case i3 => k_is)
    (case l3 => k_is)
    (case c3 => k_is)
    (case k3 => k_is)
    (case a4 => k_is)
    (case i4 => k_is)
    (case l4 => k_is)
    (case c4 => k_is)
    (case k4 => k_is)
    (case a5 => k_is)
    (case i5 => k_is)
    (case l5 => k_is)
    (case c5 => k_is)
    (case k5 => k_is)
    (case a6 => k_is)
    (case i6 => k_is)
    (case l6 => k_is)
    (case c6 => k_is)
    (case k6 => k_is)
    (case a7 => k_is)
    (case i7 => k_is)
    (case l7 => k_is)
    (case c7 => k_is)
    (case k7 => k_is)
    (case a8 => k_is)
    (case i8 => k_is)
    (case l8 => k_is)
    (case c8 => k_is)
    (case k8 => k_is)
    (case a9 => k_is)
    (case i9 => k_is)
    (case l9 => k_is)
    (case c9 => k_is)
    (case k9 => k_is)
    (case a10 => k_is)
    (case i10 => k_is)
    (case l10 => k_is)
    (case c10 => k_is)
    (case k10 => k_is)
    (case a11 => k_is)
    (case i11 => k_is)
    (case l11 => k_is)
    (case c11 => k_is)
    (case k11 => k_is)
    (case a12 => k_is)
    (case i12 => k_is)
    (case l12 => k_is)
    (case c12 => k_is)
    (case k12 => k_is)
    (case a13 => k_is)
    (case i13 => k_is)
    (case l13 => k_is)
    (case c13 => k_is)
    (case k13 => k_is)
    (case a14 => k_is)
    (case i14 => k_is)
    (case l14 => k_is)
    (case c14 => k_is)
    (case k14 => k_is)
    (case a15 => k_is)
    (case l15 => k_is)
    (case c15 => k_is)
    (case k15 => k_is)
    (case a16 => k_is)
    (case l16 => k_is)
    (case c16 => k_is)
    (case k16 => k_is)
    (case a17 => k_is)
    (case l17 => k_is)
    (case c17 => k_is)
    (case k17 => k_is)
    (case a18 => k_is)
    (case l18 => k_is)
    (case c18 => k_is)
    (case k18 => k_is)
    (case a19 => k_is)
    (case l19 => k_is)
    (case c19 => k_is)
    (case k19 => k_is)
    (case a20 => k_is)
    (case l20 => k_is)
    (case c20 => k_is)
    (case k20 => k_is)
    (case a21 => k_is)
    (case l21 => k_is)
    (case c21 => k_is)
    (case k21 => k_is)
    (case a22 => k_is)
    (case l22 => k_is)
    (case c22 => k_is)
    (case k22 => k_is)
    (case a23 => k_is)
    (case l23 => k_is)
    (case c23 => k_is)
    (case k23 => k_is)
    (case a24 => k_is)
    (case l24 => k_is)
    (case c24 => k_is)
    (case k24 => k_is)
    (case a25 => k_is)
    (case l25 => k_is)
    (case c25 => k_is)
    (case k25 => k_is)
    (case a26 => k_is)
    (case l26 => k_is)
    (case c26 => k_is)
    (case k26 => k_is)
    (case a27 => k_is)
    (case l27 => k_is)
    (case c27 => k_is)
    (case k27 => k_is)
    (case pg => k_is)
    (case hd => k_is)
    (case po => k_is)
    (case sa => k_is)
    (case mk => k_is)
    (case kc => k_is)
    (case n1 => k_is)
    (case n2 => k_is)
    (case n3 => k_is)
    (case n4 => k_is)
    (case n5 => k_is)
    (case n6 => k_is)
    (case n7 => k_is)
    (case n8 => k_is)
    (case n9 => k_is)
    (case n10 => k_is)
    (case n11 => k_is)
    (case z1 => k_is)
    (case z2 => k_is)
    (case z3 => k_is)
    (case z4 => k_is)
    (case z5 => k_is)
    (case z6 => k_is)
    (case z7 => k_is)
    (case z8 => k_is)
    (case z9 => k_is)
    (case z10 => k_is)
    (case z11 => k_is)
    (case z12 => k_is)
    (case z13 => k_is)
    (case z14 => k_is)
    (case aF => first | k_is | kernel_rfl)
    (case aE1 => first | k_is | kernel_rfl)
    (case aE2 => first | k_is | kernel_rfl)
    (case aE3 => first | k_is | kernel_rfl)
    (case aE4 => first | k_is | kernel_rfl)
    (case aE5 => first | k_is | kernel_rfl)
    (case aE6 => first | k_is | kernel_rfl)
    (case aE7 => first | k_is | kernel_rfl)
    (case qF => first | k_exc | k_is | kernel_rfl)
    (case qN => first | kernel_rfl | k_is)
    (case sN => first | kernel_rfl | k_is)
    (case xb1 => first | kernel_rfl | k_is)
    (case xb2 => first | kernel_rfl | k_is)
    (case xb3 => first | kernel_rfl | k_is)
    (case o1 => first | k_is | kernel_rfl)
    (case o2 => first | kernel_rfl | k_is)
    (case o3 => first | k_is | kernel_rfl)
    (case o4 => first | k_is | kernel_rfl)
    (case o5 => first | k_is | kernel_rfl)
    (case o6 => first | k_is | kernel_rfl)
    (case o7 => first | k_is | kernel_rfl)
    (case o8 => first | kernel_rfl | k_is)
    (case o9 => first | kernel_rfl | k_is)
    (case o10 => first | kernel_rfl | k_is)
    (case kN => first | k_is | kernel_rfl)
#print axioms PySem.Challenge.cw_farend_k48_small_weavings_refused_holds