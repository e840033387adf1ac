import PyProof.Rows.All
import Wide.All
import OpenK.AllK
import Wide.FinOn
import PyProof.EqAt
import PyProof.EqKinds
import PyProof.TupleCall
import KE.BitLaws
import PyProof.ReprBulk
import PyProof.DictCompW
import KE.KSortTupG
import KE.KDictSum
import PyProof.Rows.CallKwBuiltin
import KE.KMinBuiltin
import PyProof.DictWalks
import PyProof.StationsW
import PyProof.NsDelKeeps
import PyProof.ExcInit
import PyProof.ExcBaseAll.ValueError
import PyProof.InstStoreFacts
import PyProof.ExcArgsOwn
import PyProof.FString
import PyProof.GenQ
import PyProof.GenArm
import KE.KNestM
import KE.KLam
import PySem.Challenge.RW_farend_k13_turns_that_are_none
set_option Elab.async false
set_option linter.all false
set_option maxRecDepth 100000
namespace L2
open PySem PySem.Spec PyProof.Rows
abbrev Key := Sum Int Str
def keyIs : Key → Value → Bool
  | .inl k, v => Value.isInt k v
  | .inr x, v => Value.isStrOf x v
def keyH (w : World) : Key → Int
  | .inl k => hashInt k
  | .inr x => hashStr w x
theorem keyIs_shape : ∀ {k : Key} {v : Value}, keyIs k v = true → (∃ i t, k = Sum.inl i ∧ v = Value.int i t) ∨ (∃ x t, k = Sum.inr x ∧ v = Value.str x t)
  | .inl i, v, h => by
    obtain ⟨t, e⟩ := Value.isInt_shape (k := i) (v := v) h
    exact .inl ⟨i, t, rfl, e⟩
  | .inr x, v, h => by
    obtain ⟨t, e⟩ := Value.isStrOf_shape (x := x) (v := v) h
    exact .inr ⟨x, t, rfl, e⟩
theorem key_ll (a b : Int) : decide ((Sum.inl a : Key) = Sum.inl b) = (a == b) := by
  by_cases e : a = b
  · subst e; simp
  · have h : ¬ (Sum.inl a : Key) = Sum.inl b := fun q => e (Sum.inl.inj q)
    rw [decide_eq_false h]
    exact (beq_eq_false_iff_ne.mpr e).symm
theorem key_rr (a b : Str) : decide ((Sum.inr a : Key) = Sum.inr b) = decide (a = b) := by
  by_cases e : a = b
  · subst e; simp
  · have h : ¬ (Sum.inr a : Key) = Sum.inr b := fun q => e (Sum.inr.inj q)
    rw [decide_eq_false h, decide_eq_false e]
theorem key_lr (a : Int) (b : Str) : decide ((Sum.inl a : Key) = Sum.inr b) = false := decide_eq_false (fun q => nomatch q)
theorem key_rl (a : Str) (b : Int) : decide ((Sum.inr a : Key) = Sum.inl b) = false := decide_eq_false (fun q => nomatch q)
def mixKind (prog : Program) (w : World) : PySem.KeyKind prog w Key where
  is := keyIs
  hash := keyH w
  inj := fun v a b ha hb => by
    rcases keyIs_shape ha with ⟨i, t, rfl, rfl⟩ | ⟨x, t, rfl, rfl⟩
    · rcases keyIs_shape hb with ⟨j, u, rfl, e⟩ | ⟨y, u, rfl, e⟩
      · injection e with e1 _; rw [e1]
      · exact nomatch e
    · rcases keyIs_shape hb with ⟨j, u, rfl, e⟩ | ⟨y, u, rfl, e⟩
      · exact nomatch e
      · injection e with e1 _; rw [e1]
  byValue := fun k v h => by
    rcases keyIs_shape h with ⟨i, t, rfl, rfl⟩ | ⟨x, t, rfl, rfl⟩ <;> rfl
  pyHash := fun hv h => by
    rcases keyIs_shape hv with ⟨i, t, rfl, rfl⟩ | ⟨x, t, rfl, rfl⟩
    · exact wpAny_pyHash_int h
    · exact wpAny_pyHash_str h
  eqBool := fun hu hv h => by
    rcases keyIs_shape hu with ⟨i, t, rfl, rfl⟩ | ⟨x, t, rfl, rfl⟩
    · rcases keyIs_shape hv with ⟨j, u, rfl, rfl⟩ | ⟨y, u, rfl, rfl⟩
      · rw [key_ll] at h; exact wpAny_eqBool_int h
      · rw [key_lr] at h; exact SeqAt.EqAt.int_str i t y u _ _ _ _ h
    · rcases keyIs_shape hv with ⟨j, u, rfl, rfl⟩ | ⟨y, u, rfl, rfl⟩
      · rw [key_rl] at h; exact SeqAt.EqAt.str_int x t j u _ _ _ _ h
      · rw [key_rr] at h; exact wpAny_eqBool_str h
  «strs» := fun k x t v h => by
    rcases keyIs_shape h with ⟨i, u, rfl, e⟩ | ⟨y, u, rfl, e⟩
    · exact nomatch e
    · injection e with e1 _
      subst e1
      cases v <;> rfl
end L2
namespace L2
open PySem PySem.Spec PyProof.Rows
inductive V where
  | non | bl (b : Bool) | int (i : Int) | str (x : Str) | byt (b : Array UInt8) | flt (b : UInt64) | ref (a : Addr) | ty (n : String)
  deriving DecidableEq
def RelV : V → Value → Prop
  | .non, u => u = Value.none
  | .bl b, u => u = Value.bool b
  | .int i, u => ∃ t, u = Value.int i t
  | .str x, u => ∃ t, u = Value.str x t
  | .byt b, u => ∃ t, u = Value.bytes b t
  | .flt b, u => ∃ t, u = Value.float b t
  | .ref a, u => u = Value.ref a
  | .ty n, u => u = Value.type n
abbrev Vals : List V → List Value → Prop := Paired RelV
theorem Vals.length {xs : List V} {us : List Value} (r : Vals xs us) : xs.length = us.length := Paired.length r
theorem Vals.get : ∀ {xs : List V} {us : List Value} {i : Nat} {x : V}, Vals xs us → xs[i]? = some x → ∃ u, us[i]? = some u ∧ RelV x u
  | _, _, _, _, .nil, e => by simp at e
  | _, _, 0, _, .cons r _, e => by simp at e; subst e; exact ⟨_, rfl, r⟩
  | _, _, i + 1, x, .cons _ t, e => by
    obtain ⟨u, h1, h2⟩ := Vals.get (i := i) (x := x) t (by simpa using e)
    exact ⟨u, by simpa using h1, h2⟩
theorem Vals.set {x : V} {u : Value} (r : RelV x u) : ∀ {xs : List V} {us : List Value} (i : Nat), Vals xs us → Vals (xs.set i x) (us.set i u)
  | _, _, _, .nil => .nil
  | _, _, 0, .cons _ t => .cons r t
  | _, _, i + 1, .cons q t => .cons q (Vals.set r i t)
theorem Vals.append : ∀ {xs ys : List V} {us ws : List Value}, Vals xs us → Vals ys ws → Vals (xs ++ ys) (us ++ ws)
  | _, _, _, _, .nil, s => s
  | _, _, _, _, .cons r t, s => .cons r (Vals.append t s)
theorem Vals.take : ∀ {xs : List V} {us : List Value} (n : Nat), Vals xs us → Vals (xs.take n) (us.take n)
  | _, _, 0, _ => .nil
  | _, _, _ + 1, .nil => .nil
  | _, _, n + 1, .cons r t => .cons r (Vals.take n t)
theorem Vals.drop : ∀ {xs : List V} {us : List Value} (n : Nat), Vals xs us → Vals (xs.drop n) (us.drop n)
  | _, _, 0, r => r
  | _, _, _ + 1, .nil => .nil
  | _, _, n + 1, .cons _ t => Vals.drop n t
theorem Vals.none_of : ∀ {xs : List V} {us : List Value} {i : Nat}, Vals xs us → xs[i]? = none → us[i]? = none := fun {xs us i} r e => by
  have h1 := r.length
  have h2 : xs.length ≤ i := List.getElem?_eq_none_iff.mp e
  exact List.getElem?_eq_none_iff.mpr (by omega)
def RelO : Option V → Option Value → Prop
  | some v, some u => RelV v u
  | none, none => True
  | _, _ => False
def KV {κ : Type} : List (κ × V) → List (κ × Value) → Prop := Paired fun (p : κ × V) (q : κ × Value) => p.1 = q.1 ∧ RelV p.2 q.2
def kV : Key → V
  | .inl i => .int i
  | .inr x => .str x
inductive HO where
  | lst (xs : List V)
  | tup (xs : List V)
  | dK (kvs : List (Key × V)) | dT (kvs : List (List Key × V))
  | set (S : Int → Bool) (n : Nat)
  | ins (C dx : Addr) (fs : List (Str × V))
  | own (x : Addr)
  | xd (fs : List (Str × V))
  | met (f x : Addr)
  | rng (lo hi : Int)
  | frz (o : Obj) (u : HO)
  | tbl (ps : Array Value)
  | ext (φ : Heap → Prop)
abbrev Hp := Addr → Option HO
def upd (H : Hp) (a : Addr) (o : HO) : Hp := fun b => if b = a then some o else H b
theorem upd_same {H : Hp} {a : Addr} {o : HO} : upd H a o a = some o := by unfold upd; rw [if_pos rfl]
theorem upd_ne {H : Hp} {a b : Addr} {o : HO} (h : b ≠ a) : upd H a o b = H b := by unfold upd; rw [if_neg h]
theorem upd_upd {H : Hp} {a : Addr} {o u : HO} : upd (upd H a o) a u = upd H a u := by
  funext b; unfold upd; split <;> rfl
theorem ne_of {H : Hp} {a b : Addr} {o u : HO} (h : H a = some o) (h' : H b = some u) (d : o ≠ u) : a ≠ b := by
  intro e; subst e; rw [h] at h'; exact d (Option.some.inj h')
theorem ne_of_none {H : Hp} {a b : Addr} {o : HO} (h : H a = some o) (h' : H b = none) : a ≠ b := by
  intro e; subst e; rw [h] at h'; cases h'
def TupN (h : Heap) (a : Addr) (items : Array Value) : Prop := ∃ o, h.get? a = some o ∧ o.cls = .type "tuple" ∧ o.dict = none ∧ ∃ n, o.data = .seq items n
theorem TupN.tup {h : Heap} {a : Addr} {items : Array Value} (x : TupN h a items) : IsTup h a items := let ⟨o, e, c, _, d⟩ := x; ⟨o, e, c, d⟩
theorem TupN.new (h : Heap) (items : Array Value) : TupN (h.push { cls := .type "tuple", data := .seq items }) h.objs.size items := ⟨_, Heap.get?_push_size _ rfl, rfl, rfl, _, rfl⟩
section
variable (P : Program) (w : World)
def ObjOk (H : Hp) (h : Heap) (a : Addr) : HO → Prop
  | .lst xs => xs.length ≤ sizeLine ∧ ∃ (its : List Value) (n : Nat), Vals xs its ∧ h.get? a = some { cls := .type "list", data := .seq its.toArray n }
  | .tup xs => xs.length ≤ sizeLine ∧ ∃ its : List Value, Vals xs its ∧ TupN h a its.toArray
  | .dK kvs => kvs.length ≤ sizeLine ∧ (a == sysModules) = false ∧ ∃ vs, KV kvs vs ∧ h.DictOf (mixKind P w) a vs
  | .dT kvs => kvs.length ≤ sizeLine ∧ (a == sysModules) = false ∧ ∃ xs : List (List Key × Addr × Value),
      Paired (fun (p : List Key × V) (q : List Key × Addr × Value) => p.1 = q.1 ∧ H q.2.1 = some (.tup (p.1.map kV)) ∧ RelV p.2 q.2.2) kvs xs ∧
      ∃ o es ep, h.get? a = some o ∧ o.ExactDict ∧ o.data = .dict es ep ∧ es.toList = xs.map (entryOfKey (tupleKind (mixKind P w))) ∧ (xs.map (·.1)).Nodup
  | .set S n => h.SetOf (intKind P w) a S n
  | .ins C dx fs => H dx = some (.own a) ∧ fs.length ≤ 1000 ∧ dx ≠ a ∧ h.get? a = some (PySem.W.instObj C dx) ∧
      ∃ mA, h.Ns1 dx mA ∧ (∀ f, RelO (fs.lookup f) (mA f)) ∧ PySem.Within mA (fs.map (·.1))
  | .own _ => ∃ o, h.get? a = some o
  | .xd fs => ∃ mA, h.Ns1 a mA ∧ ∀ f, RelO (fs.lookup f) (mA f)
  | .rng lo hi => ∃ t u v, h.get? a = some { cls := .type "range", data := .fields #[.int lo t, .int hi u, .int 1 v] }
  | .frz o u => h.get? a = some o ∧ ObjOk H h a u
  | .tbl ps => h.get? a = some { cls := .none, data := .fields ps }
  | .met f x => h.get? a = some (PySem.W.methodObj (.ref f) (.ref x))
  | .ext φ => φ h ∧ (∃ o, h.get? a = some o) ∧ ∀ h1 h2 : Heap, φ h1 → (∀ o, h1.get? a = some o → h2.get? a = some o) → φ h2
def HOk (H : Hp) (h : Heap) : Prop := ∀ a o, H a = some o → ObjOk P w H h a o
end
section
variable {P : Program} {w : World} {H H' : Hp} {h h' : Heap} {a : Addr} {o : HO}
theorem ObjOk.lt (x : ObjOk P w H h a o) : a < h.objs.size := by
  cases o with
  | lst xs => obtain ⟨_, _, _, _, e⟩ := x; exact Heap.lt_size e
  | tup xs => obtain ⟨_, _, _, p⟩ := x; exact p.tup.lt
  | dK kvs => obtain ⟨_, _, _, _, o, _, _, e, _⟩ := x; exact Heap.lt_size e
  | dT kvs => obtain ⟨_, _, _, _, o, _, _, e, _⟩ := x; exact Heap.lt_size e
  | set S n => obtain ⟨o, _, _, _, e, _⟩ := x; exact Heap.lt_size e
  | ins C dx fs => obtain ⟨_, _, _, e, _⟩ := x; exact Heap.lt_size e
  | own y => obtain ⟨_, e⟩ := x; exact Heap.lt_size e
  | xd fs => obtain ⟨_, ⟨_, _, _, e, _⟩, _⟩ := x; exact Heap.lt_size e
  | rng lo hi => obtain ⟨_, _, _, e⟩ := x; exact Heap.lt_size e
  | frz ob u => obtain ⟨e, _⟩ := x; exact Heap.lt_size e
  | tbl ps => exact Heap.lt_size (show h.get? a = some _ from x)
  | met f y => exact Heap.lt_size (show h.get? a = some _ from x)
  | ext φ => obtain ⟨_, ⟨_, e⟩, _⟩ := x; exact Heap.lt_size e
theorem Paired.mapP {α β : Type} {F G : α → β → Prop} : ∀ {l₁ : List α} {l₂ : List β}, Paired F l₁ l₂ → (∀ a b, F a b → G a b) → Paired G l₁ l₂
  | _, _, .nil, _ => .nil
  | _, _, .cons r t, f => .cons (f _ _ r) (Paired.mapP t f)
theorem ObjOk.stay (x : ObjOk P w H h a o) (k : ∀ b u, (b = a ∨ H b = some (.own a)) → h.get? b = some u → h'.get? b = some u)
    (ho : ∀ b, H b = some (.own a) → H' b = some (.own a)) (ht : ∀ b xs, H b = some (.tup xs) → H' b = some (.tup xs)) : ObjOk P w H' h' a o := by
  induction o with
  | lst xs => obtain ⟨z, its, n, r, e⟩ := x; exact ⟨z, its, n, r, k _ _ (.inl rfl) e⟩
  | tup xs => obtain ⟨z, its, r, ob, e, c⟩ := x; exact ⟨z, its, r, ob, k _ _ (.inl rfl) e, c⟩
  | dK kvs => obtain ⟨z, y, vs, r, ob, es, ep, e, c⟩ := x; exact ⟨z, y, vs, r, ob, es, ep, k _ _ (.inl rfl) e, c⟩
  | dT kvs =>
    obtain ⟨z, y, xs, r, ob, es, ep, e, c⟩ := x
    exact ⟨z, y, xs, Paired.mapP r fun p q z => ⟨z.1, ht _ _ z.2.1, z.2.2⟩, ob, es, ep, k _ _ (.inl rfl) e, c⟩
  | set S n => obtain ⟨ob, es, ep, t, e, c⟩ := x; exact ⟨ob, es, ep, t, k _ _ (.inl rfl) e, c⟩
  | ins C dx fs =>
    obtain ⟨d, z, ne, e, mA, ⟨od, es, ep, e2, c⟩, r⟩ := x
    exact ⟨ho _ d, z, ne, k _ _ (.inl rfl) e, mA, ⟨od, es, ep, k _ _ (.inr d) e2, c⟩, r⟩
  | own y => obtain ⟨ob, e⟩ := x; exact ⟨ob, k _ _ (.inl rfl) e⟩
  | xd fs => obtain ⟨mA, ⟨od, es, ep, e, c⟩, r⟩ := x; exact ⟨mA, ⟨od, es, ep, k _ _ (.inl rfl) e, c⟩, r⟩
  | rng lo hi => obtain ⟨t, u, v, e⟩ := x; exact ⟨t, u, v, k _ _ (.inl rfl) e⟩
  | frz ob u ih => obtain ⟨e, q⟩ := x; exact ⟨k _ _ (.inl rfl) e, ih q⟩
  | tbl ps =>
    have e : h.get? a = some { cls := .none, data := .fields ps } := x
    show h'.get? a = some { cls := .none, data := .fields ps }
    exact k a _ (.inl rfl) e
  | met f y =>
    have e : h.get? a = some (PySem.W.methodObj (.ref f) (.ref y)) := x
    show h'.get? a = some (PySem.W.methodObj (.ref f) (.ref y))
    exact k a _ (.inl rfl) e
  | ext φ => obtain ⟨p, ⟨o, e⟩, st⟩ := x; exact ⟨st _ _ p fun o q => k _ _ (.inl rfl) q, ⟨o, k _ _ (.inl rfl) e⟩, st⟩
theorem HOk.lt (x : HOk P w H h) (e : H a = some o) : a < h.objs.size := (x a o e).lt
theorem HOk.fresh (x : HOk P w H h) (e : h.objs.size ≤ a) : H a = none := by
  cases q : H a with
  | none => rfl
  | some u => exact absurd (Nat.lt_of_lt_of_le (x.lt q) e) (Nat.lt_irrefl _)
theorem HOk.kept (x : HOk P w H h) (k : ∀ b u, h.get? b = some u → h'.get? b = some u) : HOk P w H h' := fun a o e =>
  (x a o e).stay (fun b u _ q => k b u q) (fun _ q => q) fun _ _ q => q
theorem HOk.laid (x : HOk P w H h) (k : ∀ b u, h.get? b = some u → h'.get? b = some u) (hp : h.objs.size ≤ a) (new : ObjOk P w (upd H a o) h' a o) : HOk P w (upd H a o) h' := fun b u e => by
  have hn := x.fresh hp
  by_cases hb : b = a
  · subst hb; rw [upd_same] at e; cases e; exact new
  · rw [upd_ne hb] at e
    exact (x b u e).stay (fun c v _ q => k c v q) (fun c q => by rw [upd_ne (ne_of_none q hn)]; exact q) fun c xs q => by rw [upd_ne (ne_of_none q hn)]; exact q
end
def Rd (H : Hp) (a : Addr) (u : HO) : Prop := H a = some u ∨ ∃ o, H a = some (.frz o u)
theorem Rd.of {H : Hp} {a : Addr} {u : HO} (h : H a = some u) : Rd H a u := .inl h
theorem Rd.ok {P : Program} {w : World} {H : Hp} {h : Heap} {a : Addr} {u : HO} (r : Rd H a u) (x : HOk P w H h) : ObjOk P w H h a u := by
  rcases r with r | ⟨o, r⟩
  · exact x a u r
  · obtain ⟨_, q⟩ := x a _ r
    exact q
def Mut : Option HO → Prop
  | some (.lst _) => True
  | some (.dK _) => True
  | some (.dT _) => True
  | some (.set _ _) => True
  | some (.ins _ _ _) => True
  | some (.ext _) => True
  | _ => False
section
variable {P : Program} {w : World} {H : Hp} {h h' : Heap} {x e : Addr} {o' : HO}
theorem HOk.write (ok : HOk P w H h) (mu : Mut (H x)) (he : e = x ∨ H e = some (.own x)) (k : ∀ b u, b ≠ e → h.get? b = some u → h'.get? b = some u) (heo : ∃ u, h'.get? e = some u)
    (new : ObjOk P w (upd H x o') h' x o') : HOk P w (upd H x o') h' := fun b u q => by
  have nown : ∀ c y, H c = some (.own y) → c ≠ x := fun c y r z => by subst z; rw [r] at mu; exact mu
  have ntup : ∀ c xs, H c = some (.tup xs) → c ≠ x := fun c xs r z => by subst z; rw [r] at mu; exact mu
  by_cases hb : b = x
  · subst hb; rw [upd_same] at q; cases q; exact new
  · rw [upd_ne hb] at q
    by_cases hbe : b = e
    · have q' : H b = some (.own x) := by
        rcases he with z | z
        · exact absurd (hbe.trans z) hb
        · rw [hbe]; exact z
      rw [q] at q'; cases q'
      obtain ⟨v, hv⟩ := heo
      exact ⟨v, by rw [hbe]; exact hv⟩
    · refine (ok b u q).stay (fun c v hc r => k c v ?_ r) (fun c r => by rw [upd_ne (nown c b r)]; exact r) fun c xs r => by rw [upd_ne (ntup c xs r)]; exact r
      rcases hc with rfl | hc
      · exact hbe
      · rintro rfl
        rcases he with z | z
        · exact nown c b hc z
        · rw [hc] at z; cases z; exact hb rfl
end
structure Un (fs ex : List Addr) (H H' : Hp) (h h' : Heap) : Prop where
  keep : ∀ b o, h.get? b = some o → H b = none → b ∉ fs → b ∉ ex → h'.get? b = some o
  slot : ∀ b o, h.get? b = some o → H b = none → b ∈ fs → b ∉ ex → ∃ sl, h'.get? b = some { o with slots := sl }
  free : ∀ b o, h.get? b = some o → H b = none → b ∉ ex → H' b = none
  there : ∀ b o, h.get? b = some o → b ∉ ex → ∃ o', h'.get? b = some o'
  tups : ∀ b xs, H b = some (.tup xs) → H' b = some (.tup xs)
  frzs : ∀ b o u, H b = some (.frz o u) → H' b = some (.frz o u)
  tbls : ∀ b ps, H b = some (.tbl ps) → ∃ more, H' b = some (.tbl (ps ++ more))
section
variable {fs fs' ex ex' : List Addr} {H H1 H2 : Hp} {h h1 h2 h' : Heap} {a x e : Addr} {o : HO}
theorem Un.any (u : Un fs ex H H1 h h1) {b : Addr} {ob : Obj} (q : h.get? b = some ob) (n : H b = none) (hx : b ∉ ex) : ∃ sl, h1.get? b = some { ob with slots := sl } := by
  by_cases hb : b ∈ fs
  · exact u.slot b ob q n hb hx
  · exact ⟨ob.slots, u.keep b ob q n hb hx⟩
theorem Un.trans (a : Un fs ex H H1 h h1) (b : Un fs ex H1 H2 h1 h2) : Un fs ex H H2 h h2 where
  keep := fun c ob q n hc hx => b.keep c ob (a.keep c ob q n hc hx) (a.free c ob q n hx) hc hx
  slot := fun c ob q n hc hx => by
    obtain ⟨sl, e1⟩ := a.slot c ob q n hc hx
    obtain ⟨sl', e2⟩ := b.slot c _ e1 (a.free c ob q n hx) hc hx
    exact ⟨sl', e2⟩
  free := fun c ob q n hx => by
    obtain ⟨o', e1⟩ := a.there c ob q hx
    exact b.free c o' e1 (a.free c ob q n hx) hx
  there := fun c ob q hx => by
    obtain ⟨o', e1⟩ := a.there c ob q hx
    exact b.there c o' e1 hx
  tups := fun c xs q => b.tups c xs (a.tups c xs q)
  frzs := fun c ob xs q => b.frzs c ob xs (a.frzs c ob xs q)
  tbls := fun c ps q => by
    obtain ⟨m1, e1⟩ := a.tbls c ps q
    obtain ⟨m2, e2⟩ := b.tbls c _ e1
    exact ⟨m1 ++ m2, by rw [e2, Array.append_assoc]⟩
theorem Un.kept (k : ∀ b u, h.get? b = some u → h'.get? b = some u) : Un fs ex H H h h' :=
  ⟨fun b ob q _ _ _ => k b ob q, fun b ob q _ _ _ => ⟨ob.slots, k b ob q⟩, fun _ _ _ n _ => n, fun b ob q _ => ⟨ob, k b ob q⟩, fun _ _ q => q, fun _ _ _ q => q, fun _ ps q => ⟨#[], by rw [q]; simp⟩⟩
theorem Un.refl : Un fs ex H H h h := Un.kept fun _ _ q => q
theorem Un.laid (k : ∀ b u, h.get? b = some u → h'.get? b = some u) (hp : h.objs.size ≤ a) (hn : H a = none) : Un fs ex H (upd H a o) h h' where
  keep := fun b u q _ _ _ => k b u q
  slot := fun b u q _ _ _ => ⟨u.slots, k b u q⟩
  free := fun b u q n _ => by rw [upd_ne (Nat.ne_of_lt (Nat.lt_of_lt_of_le (Heap.lt_size q) hp))]; exact n
  there := fun b u q _ => ⟨u, k b u q⟩
  tups := fun b xs q => by rw [upd_ne (ne_of_none q hn)]; exact q
  frzs := fun b u xs q => by rw [upd_ne (ne_of_none q hn)]; exact q
  tbls := fun b ps q => ⟨#[], by rw [upd_ne (ne_of_none q hn), q]; simp⟩
theorem Un.write (mu : Mut (H x)) (he : e = x ∨ H e = some (.own x)) (k : ∀ b u, b ≠ e → h.get? b = some u → h'.get? b = some u) (heo : ∃ u, h'.get? e = some u) : Un fs ex H (upd H x o) h h' := by
  have hx : ∀ b, H b = none → b ≠ x := fun b n z => by subst z; rw [n] at mu; exact mu
  have hb : ∀ b, H b = none → b ≠ e := fun b n z => by
    subst z
    rcases he with r | r
    · exact hx b n r
    · rw [n] at r; cases r
  have hm : ∀ b u, H b = some u → ¬ Mut (some u) → b ≠ x := fun b u q nm z => by subst z; rw [q] at mu; exact nm mu
  refine ⟨fun b u q n _ _ => k b u (hb b n) q, fun b u q n _ _ => ⟨u.slots, k b u (hb b n) q⟩, fun b u q n _ => by rw [upd_ne (hx b n)]; exact n, fun b u q _ => ?_,
    fun b xs q => by rw [upd_ne (hm b _ q fun z => z)]; exact q, fun b u xs q => by rw [upd_ne (hm b _ q fun z => z)]; exact q, fun b ps q => ⟨#[], by rw [upd_ne (hm b _ q fun z => z), q]; simp⟩⟩
  by_cases hbe : b = e
  · subst hbe; exact heo
  · exact ⟨u, k b u hbe q⟩
theorem Un.mono (u : Un fs ex H H1 h h1) (hs : ∀ b ∈ fs, b ∈ fs') (hx : ∀ b ∈ ex, b ∈ ex') : Un fs' ex' H H1 h h1 :=
  ⟨fun b ob q n hb he => u.keep b ob q n (fun z => hb (hs b z)) fun z => he (hx b z), fun _ _ q n _ he => u.any q n fun z => he (hx _ z), fun b ob q n he => u.free b ob q n fun z => he (hx b z), fun b ob q he => u.there b ob q fun z => he (hx b z), u.tups, u.frzs, u.tbls⟩
end
def trk (h : Heap) (H : Hp) : List Addr := (List.range h.objs.size).filter fun a => (H a).isSome
def hidT (h : Heap) (H : Hp) : Heap := PySem.W.hideAll h (trk h H)
theorem hidT_size (h : Heap) (H : Hp) : (hidT h H).objs.size = h.objs.size := PySem.W.hideAll_size _ _
theorem hidT_get {h : Heap} {H : Hp} {b : Addr} {o : Obj} (e : h.get? b = some o) (n : H b = none) : (hidT h H).get? b = some o :=
  PySem.W.hideAll_get _ e fun hm => by
    have q : (H b).isSome = true := (List.mem_filter.mp hm).2
    rw [n] at q; simp at q
theorem of_hidT {h : Heap} {H : Hp} {b : Addr} {o : Obj} (e : (hidT h H).get? b = some o) : h.get? b = some o ∧ H b = none := by
  have e' : h.get? b = some o := PySem.W.of_hideAll (trk h H) e
  refine ⟨e', ?_⟩
  cases q : H b with
  | none => rfl
  | some x =>
    have hm : b ∈ trk h H := List.mem_filter.mpr ⟨List.mem_range.mpr (Heap.lt_size e'), by simp [q]⟩
    have z : (hidT h H).get? b = none := PySem.W.hideAll_none (trk h H) hm
    rw [z] at e; cases e
def allNews (g h : Heap) (L : Addr) : List (Addr × Obj) := (List.range h.objs.size).filterMap fun a => if a = L ∨ (g.get? a).isSome = true then none else (h.get? a).map fun o => (a, o)
def rest (g h : Heap) (L d : Addr) : List (Addr × Obj) := (allNews g h L).filter fun p => decide (p.1 ≠ d)
end L2
namespace L2
open PySem PySem.Spec PyProof.Rows
structure Mod (K : PySem.W.Frag) (mg : Str → Option Value) (base : Heap) : Prop where
  kin : K.In base
  glob : base.Ns mainGlobals mg
  blt : ∃ mb, base.Ns builtinsNs mb ∧ ∀ x : Str, x ≠ "__name__" → mb x = bootBuiltins x
  nolimit : base.NoLimit
structure Cx where
  prog : Program
  w : World
  K : PySem.W.Frag
  mg : Str → Option Value
  base : Heap
  A : Around
  N : List Str
  s_0 : Shared
  H_0 : Hp
  env : Env
  outer : List Env
  stack : List Env
  ex : List Addr
  fn : Str → Bool
  calm : Bool
  pn : List (Addr × Obj)
  xe : Value → Shared → Prop
def frs (l : List Env) : List Addr := l.filterMap (·.frame)
abbrev Cx.fs (X : Cx) : List Addr := frs X.outer
def Vis (sc : Scope) (x : Str) : Prop := sc.names.lookup x = some .local ∨ sc.names.lookup x = some .cell ∨ sc.names.lookup x = some .free
def Loc (sc : Scope) (x : Str) : Prop := sc.names.lookup x = some .local ∨ sc.names.lookup x = some .cell
def Look (env : Env) (h : Heap) (m : Str → Option Value) (x : Str) (u : Value) : Prop :=
  (env.kindOf x = some .local ∧ m x = some u) ∨ ((env.kindOf x = some .cell ∨ env.kindOf x = some .free) ∧ ∃ c, env.cells.lookup x = some c ∧ h.IsCell c (some u))
structure Cx.Ok (X : Cx) : Prop where
  mod : Mod X.K X.mg X.base
  kind : X.env.scope.kind = .function
  glob : X.env.globals = mainGlobals
  blt : X.env.builtins = builtinsNs
  above : X.s_0.heap.objs.size ≤ X.env.locals
  inj : ∀ x y c, X.env.cells.lookup x = some c → X.env.cells.lookup y = some c → x = y
  has : ∀ x, (X.env.kindOf x = some .cell ∨ X.env.kindOf x = some .free) → ∃ c, X.env.cells.lookup x = some c
  cab : ∀ x c, X.fn x = true → X.env.cells.lookup x = some c → X.s_0.heap.objs.size ≤ c
  hd : X.calm = true → X.A.handled = none
  frames : X.A.frames = some X.stack
  stk : X.stack = X.outer ∨ (X.stack = X.env :: X.outer ∧ X.env.frame = some X.env.locals)
  exf : ∀ b ∈ X.ex, b ≠ X.env.locals ∧ ∀ x c, X.env.cells.lookup x = some c → c ≠ b
  bs : ∀ b o, X.base.get? b = some o → X.s_0.heap.get? b = some o ∧ X.H_0 b = none
  bsz : X.base.objs.size ≤ X.s_0.heap.objs.size
  noex : ∀ b o, X.base.get? b = some o → b ∉ X.ex
  exfs : ∀ b ∈ X.ex, b ∉ X.fs
  funs : X.s_0.heap.FunFrames X.base X.outer
  frf : ∀ b ∈ X.fs, X.H_0 b = none
structure Inv (X : Cx) (pins : List (Addr × Obj)) (σ : List (Option V)) (H : Hp) (s : Shared) : Prop where
  ok : X.Ok
  os : s.os = X.s_0.os
  bare : AllBare s.gens
  base : Un X.fs X.ex X.H_0 H X.s_0.heap s.heap
  loc : ∃ m, s.heap.Ns X.env.locals m ∧ ∀ (i : Nat) (x : Str) (v : V), X.N[i]? = some x → σ[i]? = some (some v) → Vis X.env.scope x → ∃ u, RelV v u ∧ Look X.env s.heap m x u
  cell : ∀ x c, X.env.cells.lookup x = some c → ∃ v, s.heap.IsCell c v
  free : H X.env.locals = none
  freeC : ∀ x c, X.env.cells.lookup x = some c → H c = none
  pin : ∀ p ∈ X.pn ++ pins, s.heap.get? p.1 = some p.2 ∧ H p.1 = none ∧ p.1 ≠ X.env.locals ∧ p.1 ∉ X.fs ∧ ∀ v, p.2.data ≠ .cell v
  hok : HOk X.prog X.w H s.heap
  len : σ.length = X.N.length
section
variable {X : Cx} {pins : List (Addr × Obj)} {σ : List (Option V)} {H H' : Hp} {s : Shared} {h' : Heap}
theorem Cx.Ok.nofr (ok : X.Ok) {b : Addr} {o : Obj} (e : X.base.get? b = some o) : b ∉ X.fs := fun hb => by
  have := (ok.funs.mem hb).1
  rw [e] at this; cases this
theorem Inv.bs (I : Inv X pins σ H s) : ∀ b o, X.base.get? b = some o → s.heap.get? b = some o ∧ H b = none := fun b o e =>
  ⟨I.base.keep b o (I.ok.bs b o e).1 (I.ok.bs b o e).2 (I.ok.nofr e) (I.ok.noex b o e), I.base.free b o (I.ok.bs b o e).1 (I.ok.bs b o e).2 (I.ok.noex b o e)⟩
theorem Inv.bk (I : Inv X pins σ H s) : ∀ b o, X.base.get? b = some o → s.heap.get? b = some o := fun b o e => (I.bs b o e).1
theorem Inv.mod (I : Inv X pins σ H s) : Mod X.K X.mg X.base := I.ok.mod
theorem Inv.kIn (I : Inv X pins σ H s) : X.K.In s.heap := I.ok.mod.kin.keeps I.bk
theorem Inv.nolimit (I : Inv X pins σ H s) : s.heap.NoLimit := I.ok.mod.nolimit.keeps I.bk
theorem Inv.fr (I : Inv X pins σ H s) : ∃ m, Fr X.base X.env.locals s.heap m :=
  let ⟨m, hn, _⟩ := I.loc
  ⟨m, hn, I.bk, Nat.le_trans I.ok.bsz I.ok.above⟩
theorem Inv.lt (I : Inv X pins σ H s) : X.env.locals < s.heap.objs.size := let ⟨_, hn, _⟩ := I.loc; hn.lt
theorem Inv.sz (I : Inv X pins σ H s) : X.s_0.heap.objs.size ≤ s.heap.objs.size := Nat.le_trans I.ok.above (Nat.le_of_lt I.lt)
theorem Inv.nofs (I : Inv X pins σ H s) {a : Addr} (h : s.heap.objs.size ≤ a) : a ∉ X.fs := fun hb => by
  obtain ⟨_, o, ho, _⟩ := I.ok.funs.mem hb
  exact absurd (Nat.lt_of_lt_of_le (Heap.lt_size ho) (Nat.le_trans I.sz h)) (Nat.lt_irrefl _)
theorem Inv.cne (I : Inv X pins σ H s) : ∀ x c, X.env.cells.lookup x = some c → c ≠ X.env.locals := fun x c e z => by
  obtain ⟨v, o, ho, hd⟩ := I.cell x c e
  obtain ⟨m, ⟨o', es, ep, ho', hd', _⟩, _⟩ := I.loc
  rw [z, ho'] at ho; cases ho; rw [hd'] at hd; cases hd
theorem Inv.funs (I : Inv X pins σ H s) : s.heap.FunFrames X.base X.outer := by
  have all : ∀ (l : List Env), (∀ b ∈ frs l, b ∈ X.fs) → X.s_0.heap.FunFrames X.base l → s.heap.FunFrames X.base l := by
    intro l
    induction l with
    | nil => intro _ _; trivial
    | cons env r ih =>
      intro hs hl
      obtain ⟨hk, ⟨L, o, hf, hn, ho, hd⟩, hr⟩ := hl
      have hL : L ∈ X.fs := hs L (by unfold frs; rw [List.filterMap_cons, hf]; exact List.mem_cons_self)
      obtain ⟨sl, e⟩ := I.base.slot L o ho (I.ok.frf L hL) hL fun z => I.ok.exfs L z hL
      exact ⟨hk, ⟨L, _, hf, hn, e, hd⟩, ih (fun b hb => hs b (by unfold frs; rw [List.filterMap_cons, hf]; exact List.mem_cons_of_mem _ hb)) hr⟩
  exact all X.outer (fun _ hb => hb) I.ok.funs
theorem Inv.stack (I : Inv X pins σ H s) : s.heap.FunFrames X.base X.stack := by
  rcases I.ok.stk with e | ⟨e, hf⟩
  · rw [e]; exact I.funs
  · rw [e]
    obtain ⟨m, hn, _⟩ := I.loc
    refine .cons (by rw [I.ok.kind]; decide) hf hn ?_ I.funs
    exact Heap.get?_none_of_le (Nat.le_trans I.ok.bsz I.ok.above)
theorem Inv.stkSub (I : Inv X pins σ H s) : ∀ b ∈ frs X.stack, b ∈ X.env.locals :: X.fs := fun b hb => by
  rcases I.ok.stk with e | ⟨e, hf⟩
  · rw [e] at hb; exact List.mem_cons_of_mem _ hb
  · rw [e] at hb
    unfold frs at hb
    rw [List.filterMap_cons, hf] at hb
    exact hb
theorem Inv.stkFree (I : Inv X pins σ H s) : ∀ b ∈ frs X.stack, H b = none := fun b hb => by
  rcases List.mem_cons.mp (I.stkSub b hb) with e | hb
  · rw [e]; exact I.free
  · obtain ⟨_, o, ho, _⟩ := I.ok.funs.mem hb
    exact I.base.free b o ho (I.ok.frf b hb) fun z => I.ok.exfs b z hb
theorem Inv.step {g' : Array GenState} {t' : Nat} {d' : Drawn} {ch : List Addr} (I : Inv X pins σ H s)
    (hch : ∀ b ∈ ch, (b ∈ X.ex ∨ X.s_0.heap.objs.size ≤ b) ∧ b ≠ X.env.locals ∧ (∀ x c, X.env.cells.lookup x = some c → c ≠ b) ∧ ∀ p ∈ X.pn ++ pins, p.1 ≠ b)
    (keep : ∀ b o, b ≠ X.env.locals → b ∉ X.fs → b ∉ ch → s.heap.get? b = some o → H b = none → h'.get? b = some o)
    (slot : ∀ b o, b ≠ X.env.locals → b ∈ X.fs → b ∉ ch → s.heap.get? b = some o → H b = none → ∃ sl, h'.get? b = some { o with slots := sl }) (free : ∀ b o, b ∉ ch → s.heap.get? b = some o → H b = none → H' b = none)
    (there : ∀ b o, b ∉ ch → s.heap.get? b = some o → ∃ o', h'.get? b = some o')
    (tups : ∀ b xs, H b = some (.tup xs) → H' b = some (.tup xs)) (frzs : ∀ b o u, H b = some (.frz o u) → H' b = some (.frz o u)) (tbls : ∀ b ps, H b = some (.tbl ps) → ∃ more, H' b = some (.tbl (ps ++ more)))
    (ns : ∀ m, s.heap.Ns X.env.locals m → h'.Ns X.env.locals m) (hok : HOk X.prog X.w H' h') (hg : AllBare g') :
    Inv X pins σ H' { s with heap := h', gens := g', drawn := d', toks := t' } := by
  have neL : ∀ b o, X.s_0.heap.get? b = some o → b ≠ X.env.locals := fun b o e => Nat.ne_of_lt (Nat.lt_of_lt_of_le (Heap.lt_size e) I.ok.above)
  have neC : ∀ b o, X.s_0.heap.get? b = some o → b ∉ X.ex → b ∉ ch := fun b o e hx hb => by
    rcases (hch b hb).1 with z | z
    · exact hx z
    · exact absurd (Nat.lt_of_lt_of_le (Heap.lt_size e) z) (Nat.lt_irrefl _)
  have cellK : ∀ x c, X.env.cells.lookup x = some c → ∀ v, s.heap.IsCell c v → h'.IsCell c v := fun x c e v ⟨o, ho, hd⟩ => by
    have nch : c ∉ ch := fun z => (hch c z).2.2.1 x c e rfl
    by_cases hc : c ∈ X.fs
    · obtain ⟨sl, q⟩ := slot c o (I.cne x c e) hc nch ho (I.freeC x c e)
      exact ⟨_, q, hd⟩
    · exact ⟨o, keep c o (I.cne x c e) hc nch ho (I.freeC x c e), hd⟩
  refine ⟨I.ok, I.os, hg, ⟨fun b o e n hb hx => ?_, fun b o e n hb hx => ?_, fun b o e n hx => ?_, fun b o e hx => ?_, fun b xs e => tups b xs (I.base.tups b xs e), fun b o xs e => frzs b o xs (I.base.frzs b o xs e), fun b ps e => ?_⟩, ?_, fun x c e => ?_, ?_, fun x c e => ?_, fun p hp => ?_, hok, I.len⟩
  · exact keep b o (neL b o e) hb (neC b o e hx) (I.base.keep b o e n hb hx) (I.base.free b o e n hx)
  · obtain ⟨sl, e1⟩ := I.base.slot b o e n hb hx
    obtain ⟨sl', e2⟩ := slot b _ (neL b o e) hb (neC b o e hx) e1 (I.base.free b o e n hx)
    exact ⟨sl', e2⟩
  · obtain ⟨o', e1⟩ := I.base.there b o e hx
    exact free b o' (neC b o e hx) e1 (I.base.free b o e n hx)
  · obtain ⟨o', e1⟩ := I.base.there b o e hx
    exact there b o' (neC b o e hx) e1
  · obtain ⟨m1, e1⟩ := I.base.tbls b ps e
    obtain ⟨m2, e2⟩ := tbls b _ e1
    exact ⟨m1 ++ m2, by rw [e2, Array.append_assoc]⟩
  · obtain ⟨m, hn, hl⟩ := I.loc
    refine ⟨m, ns m hn, fun i x v e1 e2 e3 => ?_⟩
    obtain ⟨u, r, l⟩ := hl i x v e1 e2 e3
    refine ⟨u, r, ?_⟩
    rcases l with l | ⟨k, c, e, z⟩
    · exact .inl l
    · exact .inr ⟨k, c, e, cellK x c e _ z⟩
  · obtain ⟨v, z⟩ := I.cell x c e
    exact ⟨v, cellK x c e v z⟩
  · obtain ⟨m, ⟨o, _, _, ho, _⟩, _⟩ := I.loc
    exact free _ o (fun z => (hch _ z).2.1 rfl) ho I.free
  · obtain ⟨v, o, ho, hd⟩ := I.cell x c e
    exact free c o (fun z => (hch c z).2.2.1 x c e rfl) ho (I.freeC x c e)
  · obtain ⟨e, n, ne, nf, d⟩ := I.pin p hp
    have nch : p.1 ∉ ch := fun z => (hch p.1 z).2.2.2 p hp rfl
    exact ⟨keep p.1 p.2 ne nf nch e n, free p.1 p.2 nch e n, ne, nf, d⟩
theorem Inv.un {t' : Nat} (I : Inv X pins σ H s) (u : Un X.fs [] H H' s.heap h') (hok : HOk X.prog X.w H' h') : Inv X pins σ H' { s with heap := h', toks := t' } := by
  obtain ⟨m, ⟨o, es, ep, ho, r⟩, _⟩ := id I.loc
  obtain ⟨sl, hL⟩ := u.any ho I.free (by simp)
  exact I.step (g' := s.gens) (d' := s.drawn) (ch := []) (fun _ z => nomatch z) (fun b o _ hb _ e n => u.keep b o e n hb (by simp)) (fun b o _ hb _ e n => u.slot b o e n hb (by simp)) (fun b o _ e n => u.free b o e n (by simp)) (fun b o _ e => u.there b o e (by simp)) u.tups u.frzs u.tbls (fun m' hm => by
    obtain ⟨o', es', ep', ho', r'⟩ := hm
    rw [ho] at ho'; cases ho'
    exact ⟨_, es', ep', hL, r'⟩) hok I.bare
theorem Inv.call {g' : Array GenState} {t' : Nat} {d' : Drawn} {ch : List Addr} (I : Inv X pins σ H s) (u : Un (frs X.stack) ch H H' s.heap h') (hok : HOk X.prog X.w H' h') (hg : AllBare g')
    (hch : ∀ b ∈ ch, (b ∈ X.ex ∨ X.s_0.heap.objs.size ≤ b) ∧ b ≠ X.env.locals ∧ (∀ x c, X.env.cells.lookup x = some c → c ≠ b) ∧ ∀ p ∈ X.pn ++ pins, p.1 ≠ b) :
    Inv X pins σ H' { s with heap := h', gens := g', drawn := d', toks := t' } := by
  obtain ⟨m, ⟨o, es, ep, ho, r⟩, _⟩ := id I.loc
  obtain ⟨sl, hL⟩ := u.any ho I.free fun z => (hch _ z).2.1 rfl
  exact I.step (ch := ch) hch (fun b o hL hb hc e n => u.keep b o e n (fun z => (List.mem_cons.mp (I.stkSub b z)).elim hL hb) hc) (fun b o _ _ hc e n => u.any e n hc) (fun b o hc e n => u.free b o e n hc) (fun b o hc e => u.there b o e hc) u.tups u.frzs u.tbls (fun m' hm => by
    obtain ⟨o', es', ep', ho', r'⟩ := hm
    rw [ho] at ho'; cases ho'
    exact ⟨_, es', ep', hL, r'⟩) hok hg
theorem Inv.turned {t' : Nat} {it : Addr} (I : Inv X pins σ H s) (k : ∀ b o, b ≠ it → s.heap.get? b = some o → h'.get? b = some o) (hn : H it = none) (hL : it ≠ X.env.locals)
    (h1 : it ∈ X.ex ∨ X.s_0.heap.objs.size ≤ it) (h2 : ∀ x c, X.env.cells.lookup x = some c → c ≠ it) (h3 : ∀ p ∈ X.pn ++ pins, p.1 ≠ it) : Inv X pins σ H { s with heap := h', toks := t' } := by
  have nit : ∀ b u, H b = some u → b ≠ it := fun b u e z => by rw [z, hn] at e; cases e
  refine I.step (g' := s.gens) (d' := s.drawn) (ch := [it]) (fun b hb => ?_) (fun b o _ _ hc e _ => k b o (fun z => hc (by simp [z])) e) (fun b o _ _ hc e _ => ⟨o.slots, k b o (fun z => hc (by simp [z])) e⟩) (fun _ _ _ _ n => n)
    (fun b o hc e => ⟨o, k b o (fun z => hc (by simp [z])) e⟩) (fun _ _ e => e) (fun _ _ _ e => e) (fun b ps e => ⟨#[], by rw [e]; simp⟩) (fun m hm => ?_) (fun b u e => ?_) I.bare
  · have e : b = it := by simpa using hb
    subst e
    exact ⟨h1, hL, h2, h3⟩
  · obtain ⟨o, es, ep, ho, r⟩ := hm
    exact ⟨o, es, ep, k _ o (Ne.symm hL) ho, r⟩
  · refine (I.hok b u e).stay (fun c v hc q => k c v ?_ q) (fun _ q => q) fun _ _ q => q
    rcases hc with z | z
    · rw [z]; exact nit b u e
    · exact nit c _ z
theorem Inv.tok (I : Inv X pins σ H s) (t : Nat) : Inv X pins σ H { s with toks := t } := I.un (h' := s.heap) (t' := t) Un.refl I.hok
theorem Inv.kept {t' : Nat} (I : Inv X pins σ H s) (k : ∀ b u, s.heap.get? b = some u → h'.get? b = some u) : Inv X pins σ H { s with heap := h', toks := t' } := I.un (Un.kept k) (I.hok.kept k)
theorem Inv.laid {a : Addr} {o : HO} {t' : Nat} (I : Inv X pins σ H s) (k : ∀ b u, s.heap.get? b = some u → h'.get? b = some u) (hp : s.heap.objs.size ≤ a) (new : ObjOk X.prog X.w (upd H a o) h' a o) :
    Inv X pins σ (upd H a o) { s with heap := h', toks := t' } := I.un (Un.laid k hp (I.hok.fresh hp)) (I.hok.laid k hp new)
theorem Inv.write {x e : Addr} {o : HO} {t' : Nat} (I : Inv X pins σ H s) (mu : Mut (H x)) (he : e = x ∨ H e = some (.own x)) (k : ∀ b u, b ≠ e → s.heap.get? b = some u → h'.get? b = some u) (heo : ∃ u, h'.get? e = some u)
    (new : ObjOk X.prog X.w (upd H x o) h' x o) : Inv X pins σ (upd H x o) { s with heap := h', toks := t' } := I.un (Un.write mu he k heo) (I.hok.write mu he k heo new)
theorem Inv.weak {σ' : List (Option V)} (I : Inv X pins σ H s) (hl : σ'.length = σ.length) (w : ∀ (i : Nat) v, σ'[i]? = some (some v) → σ[i]? = some (some v)) : Inv X pins σ' H s :=
  ⟨I.ok, I.os, I.bare, I.base, let ⟨m, hn, hl'⟩ := I.loc; ⟨m, hn, fun i x v e1 e2 e3 => hl' i x v e1 (w i v e2) e3⟩, I.cell, I.free, I.freeC, I.pin, I.hok, hl.trans I.len⟩
theorem Inv.pins_of {pins' : List (Addr × Obj)} (I : Inv X pins σ H s) (h : ∀ p ∈ pins', s.heap.get? p.1 = some p.2 ∧ H p.1 = none ∧ p.1 ≠ X.env.locals ∧ p.1 ∉ X.fs ∧ ∀ v, p.2.data ≠ .cell v) : Inv X pins' σ H s :=
  ⟨I.ok, I.os, I.bare, I.base, I.loc, I.cell, I.free, I.freeC, fun p hp => (List.mem_append.mp hp).elim (fun z => I.pin p (List.mem_append_left _ z)) (h p), I.hok, I.len⟩
theorem nodup_ix {N : List Str} (hN : N.Nodup) {i j : Nat} {x : Str} (a : N[i]? = some x) (b : N[j]? = some x) : i = j := by
  obtain ⟨h1, e1⟩ := List.getElem?_eq_some_iff.mp a
  obtain ⟨h2, e2⟩ := List.getElem?_eq_some_iff.mp b
  exact (List.getElem_inj hN).mp (e1.trans e2.symm)
theorem store_ok2 {M : Model} {A : Around} {E : Value → Shared → Prop} {i : Nat} {x : Str} {v : V} {u : Value} {Q : Unit → Shared → Prop} (I : Inv X pins σ H s) (hN : X.N.Nodup) (hi : X.N[i]? = some x) (hx : Loc X.env.scope x) (r : RelV v u)
    (h : ∀ s', Inv X pins (σ.set i (some v)) H s' → (∃ a, Heap.SameBut a s.heap s'.heap ∧ (a = X.env.locals ∨ X.env.cells.lookup x = some a)) → Q () s') (hf : X.fn x = true ∨ X.env.scope.names.lookup x = some .local := by first | exact .inl rfl | exact .inr rfl | assumption) : wpAny M A (storeName X.env x u) Q E s := by
  obtain ⟨m, hn, hl⟩ := id I.loc
  have hcls : (X.env.scope.kind == .class || (X.env.scope.kind == .module && X.env.locals != X.env.globals)) = false := by rw [I.ok.kind]; rfl
  have hiσ : i < σ.length := by rw [I.len]; exact (List.getElem?_eq_some_iff.mp hi).1
  have cne := I.cne
  have tracked : ∀ {a : Addr} {h' : Heap}, (∃ o, s.heap.get? a = some o ∧ H a = none) → Heap.SameBut a s.heap h' → HOk X.prog X.w H h' := fun {a h'} ha hs b ob e => by
    obtain ⟨_, _, hfree⟩ := ha
    refine (I.hok b ob e).stay (fun c w' hc q => (hs.2 c ?_).trans q) (fun _ q => q) fun _ _ q => q
    rintro rfl
    rcases hc with rfl | hc
    · rw [hfree] at e; cases e
    · rw [hfree] at hc; cases hc
  rcases hx with hk | hk
  · refine wpAny_storeName_local hk hn (fun h' hn' hs => ?_) hcls
    obtain ⟨oL, _, _, hoL, _⟩ := id hn
    refine h _ ⟨I.ok, I.os, I.bare, ⟨fun b o e n hb hx => ?_, fun b o e n hb hx => ?_, I.base.free, fun b o e hx => ?_, I.base.tups, I.base.frzs, I.base.tbls⟩, ⟨_, hn', fun j y v' e1 e2 e3 => ?_⟩, fun y c e => ?_, I.free, I.freeC, fun p hp => ?_, tracked ⟨oL, hoL, I.free⟩ hs, by simpa using I.len⟩ ⟨_, hs, .inl rfl⟩
    · exact (hs.2 b (Nat.ne_of_lt (Nat.lt_of_lt_of_le (Heap.lt_size e) I.ok.above))).trans (I.base.keep b o e n hb hx)
    · obtain ⟨sl, e1⟩ := I.base.slot b o e n hb hx
      exact ⟨sl, (hs.2 b (Nat.ne_of_lt (Nat.lt_of_lt_of_le (Heap.lt_size e) I.ok.above))).trans e1⟩
    · obtain ⟨o', e1⟩ := I.base.there b o e hx
      exact ⟨o', (hs.2 b (Nat.ne_of_lt (Nat.lt_of_lt_of_le (Heap.lt_size e) I.ok.above))).trans e1⟩
    · by_cases hj : j = i
      · subst hj
        rw [hi] at e1; cases e1
        rw [List.getElem?_set_self hiσ] at e2
        cases e2
        exact ⟨u, r, .inl ⟨hk, by simp⟩⟩
      · rw [List.getElem?_set_ne (Ne.symm hj)] at e2
        obtain ⟨u', r', q⟩ := hl j y v' e1 e2 e3
        refine ⟨u', r', ?_⟩
        rcases q with ⟨k, e⟩ | ⟨k, c, e, z⟩
        · refine .inl ⟨k, ?_⟩
          have : y ≠ x := fun e => hj (nodup_ix hN e1 (e ▸ hi))
          simp [this, e]
        · exact .inr ⟨k, c, e, z.sameBut hs (cne y c e)⟩
    · obtain ⟨w', z⟩ := I.cell y c e
      exact ⟨w', z.sameBut hs (cne y c e)⟩
    · obtain ⟨e, n, ne, nf, d⟩ := I.pin p hp
      exact ⟨(hs.2 p.1 ne).trans e, n, ne, nf, d⟩
  · have hfn : X.fn x = true := by
      rcases hf with z | z
      · exact z
      · rw [z] at hk; cases hk
    obtain ⟨c, hc⟩ := I.ok.has x (.inl hk)
    obtain ⟨w', z⟩ := I.cell x c hc
    refine wpAny_storeName_cell I.ok.kind hk hc z (fun h' hc' hs => ?_)
    obtain ⟨oc, hoc, hocd⟩ := id z
    refine h { s with heap := h' } ⟨I.ok, I.os, I.bare, ⟨fun b o e n hb hx => ?_, fun b o e n hb hx => ?_, I.base.free, fun b o e hx => ?_, I.base.tups, I.base.frzs, I.base.tbls⟩, ⟨m, hn.sameBut hs (Ne.symm (cne x c hc)), fun j y v' e1 e2 e3 => ?_⟩, fun y c' e => ?_, I.free, I.freeC, fun p hp => ?_, tracked ⟨oc, hoc, I.freeC x c hc⟩ hs, by simpa using I.len⟩ ⟨c, hs, .inr hc⟩
    · exact (hs.2 b (Nat.ne_of_lt (Nat.lt_of_lt_of_le (Heap.lt_size e) (I.ok.cab x c hfn hc)))).trans (I.base.keep b o e n hb hx)
    · obtain ⟨sl, e1⟩ := I.base.slot b o e n hb hx
      exact ⟨sl, (hs.2 b (Nat.ne_of_lt (Nat.lt_of_lt_of_le (Heap.lt_size e) (I.ok.cab x c hfn hc)))).trans e1⟩
    · obtain ⟨o', e1⟩ := I.base.there b o e hx
      exact ⟨o', (hs.2 b (Nat.ne_of_lt (Nat.lt_of_lt_of_le (Heap.lt_size e) (I.ok.cab x c hfn hc)))).trans e1⟩
    · by_cases hj : j = i
      · subst hj
        rw [hi] at e1; cases e1
        rw [List.getElem?_set_self hiσ] at e2
        cases e2
        exact ⟨u, r, .inr ⟨.inl hk, c, hc, hc'⟩⟩
      · rw [List.getElem?_set_ne (Ne.symm hj)] at e2
        obtain ⟨u', r', q⟩ := hl j y v' e1 e2 e3
        refine ⟨u', r', ?_⟩
        rcases q with q | ⟨k, c', e, z'⟩
        · exact .inl q
        · refine .inr ⟨k, c', e, z'.sameBut hs ?_⟩
          rintro rfl
          exact hj (nodup_ix hN e1 (I.ok.inj _ _ _ e hc ▸ hi))
    · by_cases hcc : c' = c
      · subst hcc; exact ⟨_, hc'⟩
      · obtain ⟨w2, z2⟩ := I.cell y c' e
        exact ⟨w2, z2.sameBut hs hcc⟩
    · obtain ⟨e, n, ne, nf, d⟩ := I.pin p hp
      refine ⟨(hs.2 p.1 ?_).trans e, n, ne, nf, d⟩
      intro q
      rw [q, hoc] at e
      have q' : oc = p.2 := Option.some.inj e
      exact d w' (by rw [← q']; exact hocd)
theorem store_ok {M : Model} {A : Around} {E : Value → Shared → Prop} {i : Nat} {x : Str} {v : V} {u : Value} {Q : Unit → Shared → Prop} (I : Inv X pins σ H s) (hN : X.N.Nodup) (hi : X.N[i]? = some x) (hx : Loc X.env.scope x) (r : RelV v u)
    (h : ∀ s', Inv X pins (σ.set i (some v)) H s' → Q () s') (hf : X.fn x = true ∨ X.env.scope.names.lookup x = some .local := by first | exact .inl rfl | exact .inr rfl | assumption) : wpAny M A (storeName X.env x u) Q E s :=
  store_ok2 I hN hi hx r (fun s' I' _ => h s' I') hf
theorem Inv.call' {s' : Shared} {ch : List Addr} (I : Inv X pins σ H s) (ho : s'.os = s.os) (u : Un (frs X.stack) ch H H' s.heap s'.heap) (hok : HOk X.prog X.w H' s'.heap) (hg : AllBare s'.gens)
    (hch : ∀ b ∈ ch, (b ∈ X.ex ∨ X.s_0.heap.objs.size ≤ b) ∧ b ≠ X.env.locals ∧ (∀ x c, X.env.cells.lookup x = some c → c ≠ b) ∧ ∀ p ∈ X.pn ++ pins, p.1 ≠ b) : Inv X pins σ H' s' := by
  obtain ⟨h', g', d', t', o'⟩ := s'
  have e : o' = s.os := ho
  subst e
  exact I.call (g' := g') (t' := t') (d' := d') u hok hg hch
end
abbrev XK := Value → Option Addr → Hp → Prop
abbrev St := List (Option V)
abbrev VK := V → Hp → Prop
abbrev TE := St → Hp → VK → Prop
abbrev TT := St → Hp → (Bool → Hp → Prop) → Prop
abbrev TA := St → Hp → (List V → Hp → Prop) → Prop
structure Ends where
  nx : St → Hp → Prop
  rt : VK
  bk : St → Hp → Prop := fun _ _ => False
  ct : St → Hp → Prop := fun _ _ => False
abbrev TS := Ends → St → Hp → Prop
def EP (X : Cx) (pins : List (Addr × Obj)) (σ : St) (Q : VK) (u : Value) (s' : Shared) : Prop := ∃ v H', Inv X pins σ H' s' ∧ RelV v u ∧ Q v H'
def TP (X : Cx) (pins : List (Addr × Obj)) (σ : St) (Q : Bool → Hp → Prop) (b : Bool) (s' : Shared) : Prop := ∃ H', Inv X pins σ H' s' ∧ Q b H'
def AP (X : Cx) (pins : List (Addr × Obj)) (σ : St) (Q : List V → Hp → Prop) (us : List Value) (s' : Shared) : Prop := ∃ vs H', Inv X pins σ H' s' ∧ Vals vs us ∧ Q vs H'
def SP (X : Cx) (pins : List (Addr × Obj)) (D : Ends) (f : Flow) (s' : Shared) : Prop :=
  match f with
  | .next => ∃ σ' H', Inv X pins σ' H' s' ∧ D.nx σ' H'
  | .brk => ∃ σ' H', Inv X pins σ' H' s' ∧ D.bk σ' H'
  | .cont => ∃ σ' H', Inv X pins σ' H' s' ∧ D.ct σ' H'
  | .ret u => ∃ v σ' H', Inv X pins σ' H' s' ∧ RelV v u ∧ D.rt v H'
def PE (X : Cx) (e : Expr) (t : TE) : Prop :=
  ∀ (pins : List (Addr × Obj)) (s : Shared) (σ : St) (H : Hp) (Q : VK), Inv X pins σ H s → t σ H Q → wpAny (model X.prog X.w) X.A (eval e X.env) (EP X pins σ Q) X.xe s
def PT (X : Cx) (e : Expr) (t : TT) : Prop :=
  ∀ (pins : List (Addr × Obj)) (s : Shared) (σ : St) (H : Hp) (Q : Bool → Hp → Prop), Inv X pins σ H s → t σ H Q → wpAny (model X.prog X.w) X.A (isTrue e X.env (eval e X.env)) (TP X pins σ Q) X.xe s
def PW (X : Cx) (e : Expr) (t : TT) : Prop :=
  ∀ (whole : Sem Value) (pins : List (Addr × Obj)) (s : Shared) (σ : St) (H : Hp) (Q : Bool → Hp → Prop), Inv X pins σ H s → t σ H Q → wpAny (model X.prog X.w) X.A (isTrue e X.env whole) (TP X pins σ Q) X.xe s
theorem PW.pt {X : Cx} {e : Expr} {t : TT} (h : PW X e t) : PT X e t := h _
def PA (X : Cx) (es : List Expr) (t : TA) : Prop :=
  ∀ (pos : Pos) (pins : List (Addr × Obj)) (s : Shared) (σ : St) (H : Hp) (Q : List V → Hp → Prop), Inv X pins σ H s → t σ H Q → wpAny (model X.prog X.w) X.A (spliced (backTo pos (starEach es X.env))) (AP X pins σ Q) X.xe s
def PS (X : Cx) (st : Stmt) (t : TS) : Prop :=
  ∀ (pins : List (Addr × Obj)) (s : Shared) (σ : St) (H : Hp) (D : Ends), Inv X pins σ H s → t D σ H → wpAny (model X.prog X.w) X.A (exec st X.env) (SP X pins D) X.xe s
def PSs (X : Cx) (st : List Stmt) (t : TS) : Prop :=
  ∀ (pins : List (Addr × Obj)) (s : Shared) (σ : St) (H : Hp) (D : Ends), Inv X pins σ H s → t D σ H → wpAny (model X.prog X.w) X.A (execs st X.env) (SP X pins D) X.xe s
theorem thn {α : Type} {t : Sem α} {Q Q' : α → Shared → Prop} {M : Model} {A : Around} {E : Value → Shared → Prop} {s : Shared} (h : wpAny M A t Q E s) (hQ : ∀ a s, Q a s → Q' a s) : wpAny M A t Q' E s := wpAny_mono h hQ fun _ _ x => x
end L2
namespace L2
open PySem PySem.Spec PyProof.Rows
section
variable {X : Cx}
def tVar (i : Nat) : TE := fun σ H Q => ∃ v, σ[i]? = some (some v) ∧ Q v H
def tC (v : V) : TE := fun _ H Q => Q v H
theorem pe_var {i : Nat} {x : Str} {pos : Pos} (hN : X.N[i]? = some x) (hv : Vis X.env.scope x) (hd : (x == ("__debug__" : Str)) = false := by decide) (hcd : (x == ("__classdict__" : Str)) = false := by decide) : PE X (.Name x pos) (tVar i) := by
  intro pins s σ H Q I h
  obtain ⟨v, e, h⟩ := h
  obtain ⟨m, hn, hl⟩ := I.loc
  obtain ⟨u, r, l⟩ := hl i x v hN e hv
  have fin : EP X pins σ Q u s := ⟨v, H, I, r, h⟩
  rcases l with ⟨hk, hm⟩ | ⟨hk, c, hc, hcell⟩
  · exact wpAny_Name (wpAny_loadName_local I.ok.kind hk hn hm fin) hd
  · rcases hk with hk | hk
    · exact wpAny_Name (wpAny_loadName_cell I.ok.kind hk hc hcell fin) hd
    · exact wpAny_Name (wpAny_loadName_free I.ok.kind hk hc hcell fin hcd) hd
theorem pe_int {i j pos} : PE X (.Constant (.int i) j pos) (tC (.int i)) := fun _ _ _ H _ I h => wpAny_Constant_int ⟨.int i, H, I.tok _, ⟨_, rfl⟩, h⟩
theorem pe_bl {b j pos} : PE X (.Constant (.bool b) j pos) (tC (.bl b)) := fun _ _ _ H _ I h => Constant_bool ⟨.bl b, H, I, rfl, h⟩
theorem pe_non {j pos} : PE X (.Constant .none j pos) (tC .non) := fun _ _ _ H _ I h => Constant_none ⟨.non, H, I, rfl, h⟩
theorem pe_str {x j pos} : PE X (.Constant (.str x) j pos) (tC (.str x)) := fun _ _ _ H _ I h => Calls.Constant_str ⟨.str x, H, I.tok _, ⟨_, rfl⟩, h⟩
def Gl (X : Cx) (x : Str) : Prop := X.env.kindOf x = some .globalImplicit
theorem ld_glob {E : Value → Shared → Prop} {pins : List (Addr × Obj)} {s : Shared} {σ : St} {H : Hp} {x : Str} {u : Value} {pos : Pos} {Q : Value → Shared → Prop} (I : Inv X pins σ H s) (hg : Gl X x) (hm : X.mg x = some u) (h : Q u s)
    (hd : (x == ("__debug__" : Str)) = false := by decide) : wpAny (model X.prog X.w) X.A (eval (.Name x pos) X.env) Q E s :=
  Calls.Name_function_global I.ok.kind hg (Calls.loadGlobal_global (by rw [I.ok.glob]; exact I.mod.glob.keeps I.bk) hm h) hd
theorem ld_blt {E : Value → Shared → Prop} {pins : List (Addr × Obj)} {s : Shared} {σ : St} {H : Hp} {x : Str} {u : Value} {pos : Pos} {Q : Value → Shared → Prop} (I : Inv X pins σ H s) (hg : Gl X x) (hm : X.mg x = none) (hv : bootBuiltins x = some u) (h : Q u s)
    (hn : x ≠ "__name__" := by decide) (hd : (x == ("__debug__" : Str)) = false := by decide) : wpAny (model X.prog X.w) X.A (eval (.Name x pos) X.env) Q E s := by
  obtain ⟨mb, h1, h2⟩ := I.mod.blt
  exact Calls.Name_function_global I.ok.kind hg (Calls.loadGlobal_builtin (by rw [I.ok.glob]; exact I.mod.glob.keeps I.bk) hm (by rw [I.ok.blt]; exact h1.keeps I.bk) ((h2 x hn).trans hv) h) hd
theorem pe_glob {x : Str} {v : V} {u : Value} {pos : Pos} (hg : Gl X x) (hm : X.mg x = some u) (r : RelV v u) (hd : (x == ("__debug__" : Str)) = false := by decide) : PE X (.Name x pos) (tC v) :=
  fun _ _ _ H _ I h => ld_glob I hg hm ⟨v, H, I, r, h⟩ hd
theorem pe_bltn {x : Str} {v : V} {u : Value} {pos : Pos} (hg : Gl X x) (hm : X.mg x = none) (hv : bootBuiltins x = some u) (r : RelV v u) (hn : x ≠ "__name__" := by decide) (hd : (x == ("__debug__" : Str)) = false := by decide) : PE X (.Name x pos) (tC v) :=
  fun _ _ _ H _ I h => ld_blt I hg hm hv ⟨v, H, I, r, h⟩ hn hd
def t2I (ta tb : TE) (k : Int → Int → Hp → Prop) : St → Hp → Prop := fun σ H => ta σ H fun x H1 => tb σ H1 fun y H2 => ∃ i j, x = .int i ∧ y = .int j ∧ k i j H2
def tAdd (ta tb : TE) : TE := fun σ H Q => t2I ta tb (fun i j H2 => Q (.int (i + j)) H2) σ H
def tSub (ta tb : TE) : TE := fun σ H Q => t2I ta tb (fun i j H2 => Q (.int (i - j)) H2) σ H
def tMul (ta tb : TE) : TE := fun σ H Q => t2I ta tb (fun i j H2 => (-(2 ^ 64) < i ∧ i < 2 ^ 64) ∧ Q (.int (i * j)) H2) σ H
variable {a b : Expr} {ta tb : TE} {pos : Pos}
def PC (X : Cx) (op : CmpOp) (a b : Expr) (t : TE) : Prop :=
  ∀ (pins : List (Addr × Obj)) (s : Shared) (σ : St) (H : Hp) (Q : VK), Inv X pins σ H s → t σ H Q →
    wpAny (model X.prog X.w) X.A (eval a X.env) (fun v s₁ => wpAny (model X.prog X.w) X.A (eval b X.env) (fun u s₂ => wpAny (model X.prog X.w) X.A (compareOp op v u) (EP X pins σ Q) X.xe s₂) X.xe s₁) X.xe s
def tCmp (p : Int → Int → Bool) (ta tb : TE) : TE := fun σ H Q => t2I ta tb (fun i j H2 => Q (.bl (p i j)) H2) σ H
abbrev tLt : TE → TE → TE := tCmp fun i j => decide (i < j)
abbrev tLe : TE → TE → TE := tCmp fun i j => decide (i ≤ j)
abbrev tGt : TE → TE → TE := tCmp fun i j => decide (j < i)
abbrev tGe : TE → TE → TE := tCmp fun i j => decide (j ≤ i)
abbrev tEqI : TE → TE → TE := tCmp fun i j => decide (i = j)
abbrev tNeI : TE → TE → TE := tCmp fun i j => !decide (i = j)
def tIsN (ta : TE) : TE := fun σ H Q => ta σ H fun x H1 => Q (.bl (decide (x = .non))) H1
def tNotN (ta : TE) : TE := fun σ H Q => ta σ H fun x H1 => Q (.bl (!decide (x = .non))) H1
def tB (t : TE) : TT := fun σ H Q => t σ H fun x H1 => ∃ c, x = .bl c ∧ Q c H1
theorem pt_val {e : Expr} {t : TE} (h : PE X e t) (he : ∀ whole, isTrue e X.env whole = (do let v ← whole; standAt e.pos; holding [v] (truthy v)) := by intro _; rfl) : PT X e (tB t) := by
  intro pins s σ H Q I hw
  refine isTrue_plain (thn (h pins s σ H _ I hw) fun v s1 ⟨x, H1, I1, r1, q1⟩ => ?_) (he _)
  obtain ⟨d, rfl, q⟩ := q1
  cases r1
  exact wpAny_truthy_bool ⟨H1, I1, q⟩
variable {tA tB' : TT} {rest : List Expr}
def tAnd (t u : TT) : TT := fun σ H Q => t σ H fun c H1 => if c = true then u σ H1 Q else Q false H1
def tOr (t u : TT) : TT := fun σ H Q => t σ H fun c H1 => if c = true then Q true H1 else u σ H1 Q
def tNot (t : TT) : TT := fun σ H Q => t σ H fun c H1 => Q (!c) H1
theorem pw_and1 (ha : PT X a tA) : PW X (.BoolOp .And [a] pos) tA := by
  intro wh pins s σ H Q I h
  refine isTrue_and (thn (ha pins s σ H Q I h) fun c s1 e => ?_)
  cases c with
  | true => exact isTrue_and_nil e
  | false => exact e
theorem pw_or1 (ha : PT X a tA) : PW X (.BoolOp .Or [a] pos) tA := by
  intro wh pins s σ H Q I h
  refine isTrue_or (thn (ha pins s σ H Q I h) fun c s1 e => ?_)
  cases c with
  | false => exact isTrue_or_nil e
  | true => exact e
theorem pw_and (ha : PT X a tA) (hb : PW X (.BoolOp .And (b :: rest) pos) tB') : PW X (.BoolOp .And (a :: b :: rest) pos) (tAnd tA tB') := by
  intro wh pins s σ H Q I h
  refine isTrue_and (thn (ha pins s σ H _ I h) fun c s1 ⟨H1, I1, q1⟩ => ?_)
  cases c with
  | true => exact hb wh pins s1 σ H1 Q I1 q1
  | false => exact ⟨H1, I1, q1⟩
theorem pw_or (ha : PT X a tA) (hb : PW X (.BoolOp .Or (b :: rest) pos) tB') : PW X (.BoolOp .Or (a :: b :: rest) pos) (tOr tA tB') := by
  intro wh pins s σ H Q I h
  refine isTrue_or (thn (ha pins s σ H _ I h) fun c s1 ⟨H1, I1, q1⟩ => ?_)
  cases c with
  | true => exact ⟨H1, I1, q1⟩
  | false => exact hb wh pins s1 σ H1 Q I1 q1
theorem pt_not (ha : PT X a tA) : PT X (.UnaryOp .Not a pos) (tNot tA) := by
  intro pins s σ H Q I h
  exact isTrue_not (ha pins s σ H (fun c H1 => Q (!c) H1) I h)
def tAndV (ta tb : TE) : TE := fun σ H Q => ta σ H fun x H1 => ∃ c, x = .bl c ∧ if c = true then tb σ H1 Q else Q (.bl false) H1
def tOrV (ta tb : TE) : TE := fun σ H Q => ta σ H fun x H1 => ∃ c, x = .bl c ∧ if c = true then Q (.bl true) H1 else tb σ H1 Q
def tNotV (ta : TE) : TE := fun σ H Q => ta σ H fun x H1 => ∃ c, x = .bl c ∧ Q (.bl (!c)) H1
theorem pe_one {op} {t : TE} (h : PE X a t) : PE X (.BoolOp op [a] pos) t := fun pins s σ H Q I hw => BoolOp_one (h pins s σ H Q I hw)
theorem pe_and (ha : PE X a ta) (hb : PE X (.BoolOp .And (b :: rest) pos) tb) : PE X (.BoolOp .And (a :: b :: rest) pos) (tAndV ta tb) := by
  intro pins s σ H Q I h
  refine BoolOp_and (thn (ha pins s σ H _ I h) fun v s1 ⟨x, H1, I1, r1, q1⟩ => ?_)
  obtain ⟨c, rfl, q1⟩ := q1
  cases r1
  refine wpAny_truthy_bool ?_
  cases c with
  | true => exact hb pins s1 σ H1 Q I1 q1
  | false => exact ⟨.bl false, H1, I1, rfl, q1⟩
theorem pe_or (ha : PE X a ta) (hb : PE X (.BoolOp .Or (b :: rest) pos) tb) : PE X (.BoolOp .Or (a :: b :: rest) pos) (tOrV ta tb) := by
  intro pins s σ H Q I h
  refine BoolOp_or (thn (ha pins s σ H _ I h) fun v s1 ⟨x, H1, I1, r1, q1⟩ => ?_)
  obtain ⟨c, rfl, q1⟩ := q1
  cases r1
  refine wpAny_truthy_bool ?_
  cases c with
  | false => exact hb pins s1 σ H1 Q I1 q1
  | true => exact ⟨.bl true, H1, I1, rfl, q1⟩
theorem pe_not (ha : PE X a ta) : PE X (.UnaryOp .Not a pos) (tNotV ta) := by
  intro pins s σ H Q I h
  refine UnaryOp_ (thn (ha pins s σ H _ I h) fun v s1 ⟨x, H1, I1, r1, q1⟩ => ?_)
  obtain ⟨c, rfl, q1⟩ := q1
  cases r1
  exact not_of (wpAny_truthy_bool ⟨.bl (!c), H1, I1, rfl, q1⟩)
def tIf (t : TT) (ta tb : TE) : TE := fun σ H Q => t σ H fun c H1 => if c = true then ta σ H1 Q else tb σ H1 Q
theorem pe_ifExp {c : Expr} (hc : PT X c tA) (ha : PE X a ta) (hb : PE X b tb) : PE X (.IfExp c a b pos) (tIf tA ta tb) := by
  intro pins s σ H Q I h
  refine wpAny_IfExp (thn (hc pins s σ H _ I h) fun d s1 ⟨H1, I1, q1⟩ => ?_)
  cases d with
  | true => exact ha pins s1 σ H1 Q I1 q1
  | false => exact hb pins s1 σ H1 Q I1 q1
end
end L2
namespace L2
open PySem PySem.Spec PyProof.Rows
def SqL (K : PySem.W.Frag) (H : Hp) (a : Addr) (xs : List V) : Prop :=
  Rd H a (.lst xs) ∨
    ∃ (o : Obj) (its : Array Value) (n : Nat), K.lookup a = some o ∧ o.cls = .type "list" ∧ o.dict = none ∧ o.data = .seq its n ∧ its.size ≤ sizeLine ∧ Vals xs its.toList
def SqT (K : PySem.W.Frag) (H : Hp) (a : Addr) (xs : List V) : Prop :=
  Rd H a (.tup xs) ∨
    ∃ (o : Obj) (its : Array Value) (n : Nat), K.lookup a = some o ∧ o.cls = .type "tuple" ∧ o.dict = none ∧ o.data = .seq its n ∧ its.size ≤ sizeLine ∧ Vals xs its.toList
def absV : Value → Option V
  | .none => some .non
  | .bool b => some (.bl b)
  | .int i _ => some (.int i)
  | .str x _ => some (.str x)
  | .bytes b _ => some (.byt b)
  | .float b _ => some (.flt b)
  | .ref a => some (.ref a)
  | .type n => some (.ty n)
  | _ => none
theorem RelV.abs {x : V} {u : Value} (r : RelV x u) : absV u = some x := by
  cases x with
  | non => cases r; rfl
  | bl _ => cases r; rfl
  | int _ => obtain ⟨t, rfl⟩ := r; rfl
  | str _ => obtain ⟨t, rfl⟩ := r; rfl
  | byt _ => obtain ⟨t, rfl⟩ := r; rfl
  | flt _ => obtain ⟨t, rfl⟩ := r; rfl
  | ref _ => cases r; rfl
  | ty _ => cases r; rfl
theorem RelV.inj {x y : V} {u : Value} (r : RelV x u) (q : RelV y u) : x = y := Option.some.inj (r.abs.symm.trans q.abs)
theorem Vals.inj : ∀ {xs ys : List V} {us : List Value}, Vals xs us → Vals ys us → xs = ys
  | _, _, _, .nil, .nil => rfl
  | _, _, _, .cons r t, .cons r' t' => by rw [r.inj r', Vals.inj t t']
section
variable {X : Cx} {pins : List (Addr × Obj)} {σ : St} {H : Hp} {s : Shared} {a : Addr} {xs ys : List V}
theorem SqL.of {K : PySem.W.Frag} (h : H a = some (.lst xs)) : SqL K H a xs := .inl (.inl h)
theorem SqT.of {K : PySem.W.Frag} (h : H a = some (.tup xs)) : SqT K H a xs := .inl (.inl h)
theorem Inv.list (I : Inv X pins σ H s) (h : SqL X.K H a xs) : ∃ its : List Value, Vals xs its ∧ PlainL s.heap a its.toArray ∧ xs.length ≤ sizeLine := by
  rcases h with h | ⟨o, its, n, hk, hc, hd, hs, hz, r⟩
  · obtain ⟨z, its, n, r, e⟩ := h.ok I.hok
    exact ⟨its, r, ⟨_, n, e, rfl, rfl, rfl⟩, z⟩
  · refine ⟨its.toList, r, ⟨o, n, I.kIn a o hk, hc, hd, by simpa using hs⟩, ?_⟩
    have e := r.length
    simp only [Array.length_toList] at e
    omega
theorem Inv.tuple (I : Inv X pins σ H s) (h : SqT X.K H a xs) : ∃ its : List Value, Vals xs its ∧ IsTup s.heap a its.toArray ∧ xs.length ≤ sizeLine := by
  rcases h with h | ⟨o, its, n, hk, hc, _, hs, hz, r⟩
  · obtain ⟨z, its, r, p⟩ := h.ok I.hok
    exact ⟨its, r, p.tup, z⟩
  · refine ⟨its.toList, r, ⟨o, I.kIn a o hk, hc, n, by simpa using hs⟩, ?_⟩
    have e := r.length
    simp only [Array.length_toList] at e
    omega
theorem Inv.list_inj (I : Inv X pins σ H s) (h : SqL X.K H a xs) (h' : SqL X.K H a ys) : xs = ys := by
  obtain ⟨its, r, ⟨o, n, e, _, _, d⟩, _⟩ := I.list h
  obtain ⟨its', r', ⟨o', n', e', _, _, d'⟩, _⟩ := I.list h'
  rw [e] at e'; cases e'
  rw [d] at d'
  injection d' with d1 _
  have : its = its' := by simpa using congrArg Array.toList d1
  subst this
  exact r.inj r'
theorem Inv.tuple_inj (I : Inv X pins σ H s) (h : SqT X.K H a xs) (h' : SqT X.K H a ys) : xs = ys := by
  obtain ⟨its, r, ⟨o, e, _, n, d⟩, _⟩ := I.tuple h
  obtain ⟨its', r', ⟨o', e', _, n', d'⟩, _⟩ := I.tuple h'
  rw [e] at e'; cases e'
  rw [d] at d'
  injection d' with d1 _
  have : its = its' := by simpa using congrArg Array.toList d1
  subst this
  exact r.inj r'
end
abbrev Cx.wish (X : Cx) (E : Value → Shared → Prop) : Cx := { X with xe := E }
abbrev Cx.nox (X : Cx) : Cx := X.wish fun _ _ => False
theorem Cx.Ok.wish {X : Cx} (ok : X.Ok) (E : Value → Shared → Prop) : (X.wish E).Ok :=
  ⟨ok.mod, ok.kind, ok.glob, ok.blt, ok.above, ok.inj, ok.has, ok.cab, ok.hd, ok.frames, ok.stk, ok.exf, ok.bs, ok.bsz, ok.noex, ok.exfs, ok.funs, ok.frf⟩
theorem Cx.Ok.unwish {X : Cx} {E : Value → Shared → Prop} (ok : (X.wish E).Ok) : X.Ok :=
  ⟨ok.mod, ok.kind, ok.glob, ok.blt, ok.above, ok.inj, ok.has, ok.cab, ok.hd, ok.frames, ok.stk, ok.exf, ok.bs, ok.bsz, ok.noex, ok.exfs, ok.funs, ok.frf⟩
section
variable {X : Cx} {pins : List (Addr × Obj)} {σ : St} {H : Hp} {s : Shared} {E : Value → Shared → Prop}
theorem Inv.wish (I : Inv X pins σ H s) (E : Value → Shared → Prop) : Inv (X.wish E) pins σ H s := ⟨I.ok.wish E, I.os, I.bare, I.base, I.loc, I.cell, I.free, I.freeC, I.pin, I.hok, I.len⟩
theorem Inv.unwish (I : Inv (X.wish E) pins σ H s) : Inv X pins σ H s := ⟨I.ok.unwish, I.os, I.bare, I.base, I.loc, I.cell, I.free, I.freeC, I.pin, I.hok, I.len⟩
theorem SP.unwish {D : Ends} {f : Flow} {s' : Shared} (h : SP (X.wish E) pins D f s') : SP X pins D f s' := by
  cases f with
  | next => obtain ⟨σ', H', I, q⟩ := h; exact ⟨σ', H', I.unwish, q⟩
  | brk => obtain ⟨σ', H', I, q⟩ := h; exact ⟨σ', H', I.unwish, q⟩
  | cont => obtain ⟨σ', H', I, q⟩ := h; exact ⟨σ', H', I.unwish, q⟩
  | ret u => obtain ⟨v, σ', H', I, r, q⟩ := h; exact ⟨v, σ', H', I.unwish, r, q⟩
theorem PE.nox {e : Expr} {t : TE} (h : PE X.nox e t) : PE X e t := fun pins s σ H Q I hw =>
  wpAny_mono (h pins s σ H Q (I.wish _) hw) (fun _ _ ⟨v, H', I', r, q⟩ => ⟨v, H', I'.unwish, r, q⟩) fun _ _ z => False.elim z
theorem PT.nox {e : Expr} {t : TT} (h : PT X.nox e t) : PT X e t := fun pins s σ H Q I hw =>
  wpAny_mono (h pins s σ H Q (I.wish _) hw) (fun _ _ ⟨H', I', q⟩ => ⟨H', I'.unwish, q⟩) fun _ _ z => False.elim z
theorem PSs.nox {st : List Stmt} {t : TS} (h : PSs X.nox st t) : PSs X st t := fun pins s σ H D I hw =>
  wpAny_mono (h pins s σ H D (I.wish _) hw) (fun _ _ q => q.unwish) fun _ _ z => False.elim z
end
section
variable {X : Cx} {st : Stmt} {rest : List Stmt} {t u : TS} {e : Expr} {te : TE} {pos : Pos}
def tNext : TS := fun D σ H => D.nx σ H
def tSeq (t u : TS) : TS := fun D σ H => t { D with nx := u D } σ H
theorem pss_nil : PSs X [] tNext := fun _ _ σ H _ I h => wpAny_execs_nil ⟨σ, H, I, h⟩
theorem pss_cons (h1 : PS X st t) (h2 : PSs X rest u) : PSs X (st :: rest) (tSeq t u) := by
  intro pins s σ H D I h
  refine wpAny_execs_cons (thn (h1 pins s σ H { D with nx := u D } I h) fun f s1 q => ?_)
  cases f with
  | next =>
    obtain ⟨σ', H', I', q⟩ := q
    exact h2 pins s1 σ' H' D I' q
  | ret v => exact q
  | brk => exact q
  | cont => exact q
theorem pss_one (h1 : PS X st t) : PSs X [st] t := by
  intro pins s σ H D I h
  refine wpAny_execs_cons (thn (h1 pins s σ H D I h) fun f s1 q => ?_)
  cases f with
  | next => exact wpAny_execs_nil q
  | ret v => exact q
  | brk => exact q
  | cont => exact q
def tBreak : TS := fun D σ H => D.bk σ H
def tCont : TS := fun D σ H => D.ct σ H
theorem Inv.quiet {pins : List (Addr × Obj)} {σ : St} {H : Hp} {s : Shared} (I : Inv X pins σ H s) : interactive X.env = false := by simp [interactive, I.ok.kind]
def tDrop (te : TE) : TS := fun D σ H => te σ H fun _ H1 => D.nx σ H1
theorem ps_expr (he : PE X e te) (hs : swapsWith e none pos.line X.env = pure false := by rfl) : PS X (.Expr e pos) (tDrop te) := by
  intro pins s σ H D I h
  exact wpAny_Expr_any (thn (he pins s σ H _ I h) fun v s1 ⟨x, H1, I1, r1, q1⟩ => ⟨σ, H1, I1, q1⟩) I.quiet hs
def tRet (te : TE) : TS := fun D σ H => te σ H D.rt
theorem ps_ret (he : PE X e te) : PS X (.Return (some e) pos) (tRet te) := by
  intro pins s σ H D I h
  exact wpAny_Return_some (thn (he pins s σ H _ I h) fun v s1 ⟨x, H1, I1, r1, q1⟩ => ⟨x, σ, H1, I1, r1, q1⟩)
def tRetN : TS := fun D _ H => D.rt .non H
theorem ps_retN : PS X (.Return none pos) tRetN := fun _ _ σ H _ I h => wpAny_Return_none ⟨.non, σ, H, I, rfl, h⟩
def tIfS (c : TT) (t u : TS) : TS := fun D σ H => c σ H fun b H1 => if b = true then t D σ H1 else u D σ H1
theorem ps_if {c : Expr} {a b : List Stmt} {tc : TT} (hc : PT X c tc) (ha : PSs X a t) (hb : PSs X b u) : PS X (.If c a b pos) (tIfS tc t u) := by
  intro pins s σ H D I h
  refine wpAny_If (thn (hc pins s σ H _ I h) fun d s1 ⟨H1, I1, q1⟩ => ?_)
  cases d with
  | true => exact ha pins s1 σ H1 D I1 q1
  | false => exact hb pins s1 σ H1 D I1 q1
def tNever : TS := fun _ _ _ => False
end
abbrev TG := V → St → Hp → (St → Hp → Prop) → Prop
abbrev TGs := List V → St → Hp → (St → Hp → Prop) → Prop
def PG (X : Cx) (target : Expr) (t : TG) : Prop :=
  ∀ (pins : List (Addr × Obj)) (s : Shared) (σ : St) (H : Hp) (v : V) (u : Value) (Q : St → Hp → Prop), Inv X pins σ H s → RelV v u → t v σ H Q →
    wpAny (model X.prog X.w) X.A (assign target X.env u) (fun _ s' => ∃ σ' H', Inv X pins σ' H' s' ∧ Q σ' H') X.xe s
def PGs (X : Cx) (ts : List Expr) (t : TGs) : Prop :=
  ∀ (pins : List (Addr × Obj)) (s : Shared) (σ : St) (H : Hp) (vs : List V) (us : List Value) (Q : St → Hp → Prop), Inv X pins σ H s → Vals vs us → t vs σ H Q →
    wpAny (model X.prog X.w) X.A (assignInOrder ((assignEach ts X.env).map (·.2)) us) (fun _ s' => ∃ σ' H', Inv X pins σ' H' s' ∧ Q σ' H') X.xe s
abbrev TSet := V → V → V → Hp → (Hp → Prop) → Prop
def PSet (X : Cx) (t : TSet) : Prop :=
  ∀ (pins : List (Addr × Obj)) (s : Shared) (σ : St) (H : Hp) (o i v : V) (ov iv u : Value) (Q : Hp → Prop), Inv X pins σ H s → RelV o ov → RelV i iv → RelV v u → t o i v H Q →
    wpAny (model X.prog X.w) X.A (setItem ov iv u) (fun _ s' => ∃ H', Inv X pins σ H' s' ∧ Q H') X.xe s
abbrev TIp := V → V → Hp → VK → Prop
def PIp (X : Cx) (op : Operator) (t : TIp) : Prop :=
  ∀ (pins : List (Addr × Obj)) (s : Shared) (σ : St) (H : Hp) (x y : V) (v u : Value) (Q : VK), Inv X pins σ H s → RelV x v → RelV y u → t x y H Q →
    wpAny (model X.prog X.w) X.A (inplaceOp op v u) (EP X pins σ Q) X.xe s
section
variable {X : Cx} {pos : Pos}
def gName (i : Nat) : TG := fun v σ H Q => Q (σ.set i (some v)) H
theorem pg_name {i : Nat} {x : Str} (hN : X.N.Nodup) (hi : X.N[i]? = some x) (hx : Loc X.env.scope x) (hf : X.fn x = true ∨ X.env.scope.names.lookup x = some .local := by first | exact .inl rfl | exact .inr rfl | assumption) : PG X (.Name x pos) (gName i) := by
  intro pins s σ H v u Q I r h
  exact wpAny_assign_Name (store_ok I hN hi hx r (fun s' I' => ⟨_, H, I', h⟩) hf)
def gNil : TGs := fun vs σ H Q => vs = [] ∧ Q σ H
def gCons (t : TG) (u : TGs) : TGs := fun vs σ H Q => ∃ v r, vs = v :: r ∧ t v σ H fun σ' H' => u r σ' H' Q
theorem pgs_nil : PGs X [] gNil := by
  intro pins s σ H vs us Q I r h
  obtain ⟨e, h⟩ := h
  subst e
  cases r
  exact assignInOrder_nil ⟨σ, H, I, h⟩
theorem pgs_cons {e : Expr} {es : List Expr} {t : TG} {u : TGs} (h1 : PG X e t) (h2 : PGs X es u)
    (hs : (assignEach (e :: es) X.env).map (·.2) = assign e X.env :: (assignEach es X.env).map (·.2) := by rfl) : PGs X (e :: es) (gCons t u) := by
  intro pins s σ H vs us Q I r h
  obtain ⟨v, vr, e1, h⟩ := h
  subst e1
  cases r with
  | cons r rr =>
    rw [hs]
    refine assignInOrder_cons (thn (h1 pins s σ H _ _ _ I r h) fun _ s1 ⟨σ1, H1, I1, q1⟩ => ?_)
    exact h2 pins s1 σ1 H1 _ _ Q I1 rr q1
def gTup (K : PySem.W.Frag) (n : Nat) (t : TGs) : TG := fun v σ H Q => ∃ a xs, v = .ref a ∧ SqT K H a xs ∧ xs.length = n ∧ t xs σ H Q
theorem pg_tup {es : List Expr} {k : Nat} {t : TGs} {n : Nat} (hc : X.calm = true) (h : PGs X es t)
    (hn : (assignEach es X.env).length = n := by rfl) (hst : (assignEach es X.env).findIdx? (·.1) = none := by rfl) : PG X (.Tuple es k pos) (gTup X.K n t) := by
  intro pins s σ H v u Q I r hw
  obtain ⟨a, xs, e1, hq, hl, hw⟩ := hw
  subst e1
  cases r
  obtain ⟨its, rv, ht, hz⟩ := I.tuple hq
  refine assign_Tuple_tuple (I.ok.hd hc) ht (by simp [hn, ← hl, rv.length]) hst fun h' hx => ?_
  have I1 : Inv X pins σ H { s with heap := h' } := I.kept (t' := s.toks) fun b o e => hx b o (Nat.ne_of_lt (Heap.lt_size e)) e
  exact h pins _ σ H xs _ Q I1 (by simpa using rv) hw
def gSub (to ti : TE) (t : TSet) : TG := fun v σ H Q => to σ H fun o H1 => ti σ H1 fun i H2 => t o i v H2 fun H3 => Q σ H3
theorem pg_sub {o i : Expr} {to ti : TE} {t : TSet} (ho : PE X o to) (hi : PE X i ti) (hs : PSet X t)
    (ha : ∀ v, assign (.Subscript o i pos) X.env v = (do
      let ov ← holding [v] (eval o X.env)
      let iv ← holding [v, ov] (eval i X.env)
      standAt pos
      holding [v, ov, iv] (setItem ov iv v)
      release [v, ov, iv] []) := by intro _; rfl) : PG X (.Subscript o i pos) (gSub to ti t) := by
  intro pins s σ H v u Q I r h
  rw [ha]
  refine wpAny_bind (wpAny_holding (thn (ho pins s σ H _ I h) fun ov s1 ⟨x, H1, I1, r1, q1⟩ => ?_))
  refine wpAny_bind (wpAny_holding (thn (hi pins s1 σ H1 _ I1 q1) fun iv s2 ⟨y, H2, I2, r2, q2⟩ => ?_))
  refine wpAny_bind (wpAny_standAt (wpAny_bind (wpAny_holding (thn (hs pins s2 σ H2 x y v ov iv u _ I2 r1 r2 r q2) fun _ s3 ⟨H3, I3, q3⟩ => ?_))))
  exact wpAny_release ⟨σ, H3, I3, q3⟩
def tAsg (te : TE) (g : TG) : TS := fun D σ H => te σ H fun x H1 => g x σ H1 D.nx
theorem ps_asg {tg e : Expr} {te : TE} {g : TG} (he : PE X e te) (hg : PG X tg g) (hs : swapsWithSole [tg] e pos.line X.env = pure false := by rfl) (hw : swappedStores [tg] e X.env = pure none := by rfl)
    (h1 : (assignEach [tg] X.env).map (·.2) = [assign tg X.env] := by rfl) : PS X (.Assign [tg] e pos) (tAsg te g) := by
  intro pins s σ H D I h
  refine wpAny_Assign_stores (thn (he pins s σ H _ I h) fun v s1 ⟨x, H1, I1, r1, q1⟩ => ?_) hs hw
  rw [h1]
  exact thn (hg pins s1 σ H1 x v _ I1 r1 q1) fun _ s2 q => q
theorem ps_set {i : Nat} {x : Str} {e : Expr} {te : TE} {pos' : Pos} (hN : X.N.Nodup) (hi : X.N[i]? = some x) (hx : Loc X.env.scope x) (he : PE X e te) (hs : swapsWith e (some (.Name x pos')) pos.line X.env = pure false := by rfl) (hf : X.fn x = true ∨ X.env.scope.names.lookup x = some .local := by first | exact .inl rfl | exact .inr rfl | assumption) :
    PS X (.Assign [.Name x pos'] e pos) (tAsg te (gName i)) := by
  intro pins s σ H D I h
  refine wpAny_Assign_Name (thn (he pins s σ H _ I h) fun v s1 ⟨y, H1, I1, r1, q1⟩ => ?_) hs
  exact store_ok I1 hN hi hx r1 (fun s2 I2 => ⟨_, H1, I2, q1⟩) hf
def tPar (i j : Nat) (ta : TA) : TS := fun D σ H => ta σ H fun vs H1 => ∃ v w, vs = [v, w] ∧ D.nx ((σ.set i (some v)).set j (some w)) H1
def tAug (i : Nat) (te : TE) (ti : TIp) : TS := fun D σ H => ∃ x, σ[i]? = some (some x) ∧ te σ H fun y H1 => ti x y H1 fun z H2 => D.nx (σ.set i (some z)) H2
def tAugS (to ti te : TE) (tget : V → V → Hp → VK → Prop) (tip : TIp) (tset : TSet) : TS := fun D σ H => to σ H fun o H1 => ti σ H1 fun i H2 => tget o i H2 fun x H3 => te σ H3 fun y H4 => tip x y H4 fun z H5 => tset o i z H5 fun H6 => D.nx σ H6
def PGet (X : Cx) (t : V → V → Hp → VK → Prop) : Prop :=
  ∀ (pins : List (Addr × Obj)) (s : Shared) (σ : St) (H : Hp) (o i : V) (ov iv : Value) (Q : VK), Inv X pins σ H s → RelV o ov → RelV i iv → t o i H Q →
    wpAny (model X.prog X.w) X.A (getItem ov iv) (EP X pins σ Q) X.xe s
def ipI (f : Int → Int → Int) : TIp := fun x y H Q => ∃ i j, x = .int i ∧ y = .int j ∧ Q (.int (f i j)) H
end
section
variable {X : Cx} {pos : Pos}
def tWhile (c : TT) (tb : TS) : TS := fun D σ H => ∃ W : Nat → St → Hp → Prop, (∃ m, W m σ H) ∧ ∀ m σ H, W m σ H →
  c σ H fun b H1 => if b = true then ∃ N : St → Hp → Prop, (∀ σ' H', N σ' H' → ∃ m', m' < m ∧ W m' σ' H') ∧ tb { D with nx := N, ct := N, bk := D.nx } σ H1 else D.nx σ H1
theorem ps_while {c : Expr} {body : List Stmt} {tc : TT} {tb : TS} (hp : PassesOwn (model X.prog X.w) X.A X.env X.xe) (hc : PT X c tc) (hb : PSs X body tb) : PS X (.While c body [] pos) (tWhile tc tb) := by
  intro pins s σ H D I h
  obtain ⟨W, ⟨m0, w0⟩, turn⟩ := h
  refine wpAny_While (codeAny_whileLoop (fun n s' => ∃ σ' H', Inv X pins σ' H' s' ∧ W n σ' H') ?_ m0 ⟨σ, H, I, w0⟩)
  rintro n s1 ⟨σ1, H1, I1, w1⟩
  refine wpAny_passesOwn hp (thn (hc pins s1 σ1 H1 _ I1 (turn n σ1 H1 w1)) fun b s2 ⟨H2, I2, q2⟩ => ?_)
  cases b with
  | true =>
    obtain ⟨N, hN, q2⟩ := q2
    rw [if_pos rfl]
    refine wpAny_passesOwn hp (thn (hb pins s2 σ1 H2 _ I2 q2) fun f s3 q3 => ?_)
    cases f with
    | next =>
      obtain ⟨σ3, H3, I3, n3⟩ := q3
      obtain ⟨m', hm, w3⟩ := hN σ3 H3 n3
      exact ⟨m', hm, σ3, H3, I3, w3⟩
    | cont =>
      obtain ⟨σ3, H3, I3, n3⟩ := q3
      obtain ⟨m', hm, w3⟩ := hN σ3 H3 n3
      exact ⟨m', hm, σ3, H3, I3, w3⟩
    | brk => exact q3
    | ret v => exact q3
  | false =>
    rw [if_neg Bool.false_ne_true]
    exact wpAny_execs_nil ⟨σ1, H2, I2, q2⟩
end
structure It where
  go : Nat → Hp → Prop
  yld : Nat → Hp → V → Hp → Prop
  stop : Nat → Hp → Prop
def FpOk (X : Cx) (pins : List (Addr × Obj)) (H : Hp) (b : Addr) : Prop :=
  H b = none ∧ b ≠ X.env.locals ∧ b ∉ X.fs ∧ (b ∈ X.ex ∨ X.s_0.heap.objs.size ≤ b) ∧ (∀ x c, X.env.cells.lookup x = some c → c ≠ b) ∧ ∀ p ∈ X.pn ++ pins, p.1 ≠ b
theorem Inv.fpOk {X : Cx} {pins : List (Addr × Obj)} {σ : St} {H H' : Hp} {s : Shared} {b : Addr} (I : Inv X pins σ H s) (hb : s.heap.objs.size ≤ b) (hn : H' b = none) : FpOk X pins H' b := by
  refine ⟨hn, Nat.ne_of_gt (Nat.lt_of_lt_of_le I.lt hb), I.nofs hb, .inr (Nat.le_trans I.sz hb), fun x c e z => ?_, fun p hp z => ?_⟩
  · obtain ⟨v, q⟩ := I.cell x c e
    exact absurd (Nat.lt_of_lt_of_le q.lt (by rw [z]; exact hb)) (Nat.lt_irrefl _)
  · exact absurd (Nat.lt_of_lt_of_le (Heap.lt_size (I.pin p hp).1) (by rw [z]; exact hb)) (Nat.lt_irrefl _)
structure Turn (P : Program) (w : World) (K : PySem.W.Frag) (tg : Expr) (J : It) (fp : List Addr) (it : Addr) (tn : Nat → Heap → Prop) : Prop where
  mem : it ∈ fp
  obj : ∀ i h, tn i h → ∀ b ∈ fp, ∃ o, h.get? b = some o ∧ ∀ v, o.data ≠ .cell v
  keep : ∀ i h h', tn i h → (∀ b ∈ fp, ∀ o, h.get? b = some o → h'.get? b = some o) → tn i h'
  item : ∀ (X : Cx), X.prog = P → X.w = w → X.K = K → X.calm = true → ∀ (i : Nat) (pins : List (Addr × Obj)) (s : Shared) (σ : St) (H : Hp) (E : Value → Shared → Prop), Inv X pins σ H s → (∀ b ∈ fp, FpOk X pins H b) → tn i s.heap → J.go i H →
    wpAny (model P w) X.A (pyNext (.ref it)) (fun r s1 => ∃ u, r = some u ∧
      wpAny (model P w) X.A (letOwnedTupleGo tg (.ref it) u) (fun _ s2 => ∃ x H', Inv X pins σ H' s2 ∧ RelV x u ∧ J.yld i H x H' ∧ tn (i + 1) s2.heap ∧ ∀ b ∈ fp, H' b = none) E s1) E s
  done : ∀ (X : Cx), X.prog = P → X.w = w → X.K = K → X.calm = true → ∀ (i : Nat) (pins : List (Addr × Obj)) (s : Shared) (σ : St) (H : Hp) (E : Value → Shared → Prop), Inv X pins σ H s → (∀ b ∈ fp, FpOk X pins H b) → tn i s.heap → J.stop i H →
    wpAny (model P w) X.A (pyNext (.ref it)) (fun r s1 => r = none ∧ Inv X pins σ H s1) E s
  self : ∀ (A : Around) (i : Nat) (s : Shared) (Q : Value → Shared → Prop) (E : Value → Shared → Prop), tn i s.heap → Q (.ref it) s → wpAny (model P w) A (pyIter (.ref it)) Q E s
abbrev TI := St → Hp → (It → Hp → Prop) → Prop
def PIE (X : Cx) (pins : List (Addr × Obj)) (σ : St) (tg : Expr) (R : It → Hp → Prop) (itv : Value) (s2 : Shared) : Prop :=
  ∃ (it : Addr) (fp : List Addr) (tn : Nat → Heap → Prop) (J : It) (H' : Hp), itv = .ref it ∧ Inv X pins σ H' s2 ∧ Turn X.prog X.w X.K tg J fp it tn ∧ tn 0 s2.heap ∧ (∀ b ∈ fp, FpOk X pins H' b) ∧ R J H'
def PI (X : Cx) (tg iter : Expr) (wi : TI) : Prop :=
  ∀ (pins : List (Addr × Obj)) (s : Shared) (σ : St) (H : Hp) (R : It → Hp → Prop), Inv X pins σ H s → wi σ H R →
    wpAny (model X.prog X.w) X.A (eval iter X.env) (fun v s1 => wpAny (model X.prog X.w) X.A (pyIter v) (PIE X pins σ tg R) X.xe s1) X.xe s
theorem go_of {M : Model} {A : Around} {E : Value → Shared → Prop} {s : Shared} {tg : Expr} {it : Addr} {u : Value} {o : Obj} {n : String} {vs : Array Value} {Q : Unit → Shared → Prop} (ho : s.heap.get? it = some o) (hc : o.cls = .type n) (hd : o.data = .fields vs)
    (hn : ["enumerate", "zip", "dict_itemiterator", "dict_reverseitemiterator", "odict_iterator", "itertools.zip_longest", "itertools.pairwise"].contains n = false) (hQ : Q () s) : wpAny M A (letOwnedTupleGo tg (.ref it) u) Q E s := by
  unfold letOwnedTupleGo
  cases tg <;> first
    | exact wpAny_pure hQ
    | (cases u <;> first
        | exact wpAny_pure hQ
        | (refine wpAny_bind (wpAny_load ho ?_)
           rw [hc, hd]
           show wpAny M A (if (["enumerate", "zip", "dict_itemiterator", "dict_reverseitemiterator", "odict_iterator", "itertools.zip_longest", "itertools.pairwise"].contains n && vs[0]? == some (rawInt _)) = true then _ else _) Q E s
           rw [if_neg (by intro h; rw [hn, Bool.false_and] at h; cases h)]
           exact wpAny_pure hQ))
def Itl (K : PySem.W.Frag) (a : Addr) : It :=
  ⟨fun i H => ∃ xs x, SqL K H a xs ∧ xs[i]? = some x, fun i H x H' => H' = H ∧ ∀ xs, SqL K H a xs → xs[i]? = some x, fun i H => ∃ xs, SqL K H a xs ∧ xs.length ≤ i⟩
def Itt (K : PySem.W.Frag) (a : Addr) : It :=
  ⟨fun i H => ∃ xs x, SqT K H a xs ∧ xs[i]? = some x, fun i H x H' => H' = H ∧ ∀ xs, SqT K H a xs → xs[i]? = some x, fun i H => ∃ xs, SqT K H a xs ∧ xs.length ≤ i⟩
def Itr (lo : Int) (n : Nat) : It := ⟨fun i _ => i < n, fun i H x H' => H' = H ∧ x = .int (lo + i), fun i _ => n ≤ i⟩
theorem turn_list {P : Program} {w : World} {K : PySem.W.Frag} {tg : Expr} (a it : Addr) : Turn P w K tg (Itl K a) [it] it (fun i h => h.IsListIter it a i) where
  mem := by simp
  obj := fun i h st b hb => by
    have e : b = it := by simpa using hb
    subst e
    obtain ⟨o, e, c, d⟩ := st
    exact ⟨o, e, fun v z => by rw [d] at z; cases z⟩
  keep := fun i h h' st k => st.at fun o e => k it (by simp) o e
  item := by
    intro X hP hw hK hc i pins s σ H E I hf st hg
    subst hP hw hK
    obtain ⟨xs, x, hq, hx⟩ := hg
    obtain ⟨its, rv, p, hz⟩ := I.list hq
    obtain ⟨u, hu, ru⟩ := rv.get hx
    obtain ⟨f0, f1, f2, f3, f4, f5⟩ := hf it (by simp)
    refine wpAny_pyNext_list_item st p.isList (x := u) (by simpa using hu) fun h' st' sb => ?_
    have I1 : Inv X pins σ H { s with heap := h' } := I.turned (t' := s.toks) (fun b o hb e => (sb.2 b hb).trans e) f0 f1 f3 f4 f5
    obtain ⟨o, e, c, d⟩ := id st'
    exact ⟨u, rfl, go_of (s := { s with heap := h' }) e c d (by decide) ⟨x, H, I1, ru, ⟨rfl, fun ys hy => by rw [I.list_inj hy hq]; exact hx⟩, st', fun b hb => (hf b hb).1⟩⟩
  done := by
    intro X hP hw hK hc i pins s σ H E I hf st hg
    subst hP hw hK
    obtain ⟨xs, hq, hx⟩ := hg
    obtain ⟨its, rv, p, hz⟩ := I.list hq
    obtain ⟨f0, f1, f2, f3, f4, f5⟩ := hf it (by simp)
    have hl := rv.length
    exact wpAny_pyNext_list_end (I.ok.hd hc) st p.isList (by simp; omega) fun h' eb => ⟨rfl, I.turned (t' := s.toks) (fun b o hb e => eb b o hb e) f0 f1 f3 f4 f5⟩
  self := fun _ _ _ _ _ st h => wpAny_pyIter_listiter st h
theorem turn_tuple {P : Program} {w : World} {K : PySem.W.Frag} {tg : Expr} (a it : Addr) : Turn P w K tg (Itt K a) [it] it (fun i h => h.IsTupleIter it a i) where
  mem := by simp
  obj := fun i h st b hb => by
    have e : b = it := by simpa using hb
    subst e
    obtain ⟨o, e, c, d⟩ := st
    exact ⟨o, e, fun v z => by rw [d] at z; cases z⟩
  keep := fun i h h' st k => st.at fun o e => k it (by simp) o e
  item := by
    intro X hP hw hK hc i pins s σ H E I hf st hg
    subst hP hw hK
    obtain ⟨xs, x, hq, hx⟩ := hg
    obtain ⟨its, rv, p, hz⟩ := I.tuple hq
    obtain ⟨u, hu, ru⟩ := rv.get hx
    obtain ⟨f0, f1, f2, f3, f4, f5⟩ := hf it (by simp)
    refine wpAny_pyNext_tuple_item st (show s.heap.IsTuple a its.toArray from p) (x := u) (by simpa using hu) fun h' st' sb => ?_
    have I1 : Inv X pins σ H { s with heap := h' } := I.turned (t' := s.toks) (fun b o hb e => (sb.2 b hb).trans e) f0 f1 f3 f4 f5
    obtain ⟨o, e, c, d⟩ := id st'
    exact ⟨u, rfl, go_of (s := { s with heap := h' }) e c d (by decide) ⟨x, H, I1, ru, ⟨rfl, fun ys hy => by rw [I.tuple_inj hy hq]; exact hx⟩, st', fun b hb => (hf b hb).1⟩⟩
  done := by
    intro X hP hw hK hc i pins s σ H E I hf st hg
    subst hP hw hK
    obtain ⟨xs, hq, hx⟩ := hg
    obtain ⟨its, rv, p, hz⟩ := I.tuple hq
    obtain ⟨f0, f1, f2, f3, f4, f5⟩ := hf it (by simp)
    have hl := rv.length
    exact wpAny_pyNext_tuple_end (I.ok.hd hc) st (show s.heap.IsTuple a its.toArray from p) (by simp; omega) fun h' eb => ⟨rfl, I.turned (t' := s.toks) (fun b o hb e => eb b o hb e) f0 f1 f3 f4 f5⟩
  self := fun _ _ _ _ _ st h => wpAny_pyIter_tupleiter st h
theorem turn_range {P : Program} {w : World} {K : PySem.W.Frag} {tg : Expr} (it : Addr) (lo : Int) (n : Nat) : Turn P w K tg (Itr lo n) [it] it (fun i h => IsRangeIter h it (lo + (i : Nat) * 1) ((n : Int) - (i : Nat)) 1) where
  mem := by simp
  obj := fun i h st b hb => by
    have e : b = it := by simpa using hb
    subst e
    exact ⟨_, st, fun v z => by
      have z' : Data.fields _ = Data.cell v := z
      cases z'⟩
  keep := fun i h h' st k => k it (by simp) _ st
  item := by
    intro X hP hw hK hc i pins s σ H E I hf st hg
    subst hP hw hK
    obtain ⟨f0, f1, f2, f3, f4, f5⟩ := hf it (by simp)
    have W := Walks.range (prog := X.prog) (w := X.w) (I.ok.hd hc) it lo 1 n
    refine W.item i s _ _ hg st fun v h' tk hv st' kk => ?_
    obtain ⟨t, rfl⟩ := hv
    have I1 : Inv X pins σ H { s with heap := h', toks := tk } := I.turned (fun b o hb e => kk b o (by simpa using hb) e) f0 f1 f3 f4 f5
    refine ⟨_, rfl, go_of (s := { s with heap := h', toks := tk }) (n := "range_iterator") st' rfl rfl (by decide) ⟨.int (lo + i), H, I1, ⟨t, ?_⟩, ⟨rfl, rfl⟩, st', fun b hb => (hf b hb).1⟩⟩
    rw [Int.mul_one]
  done := by
    intro X hP hw hK hc i pins s σ H E I hf st hg
    subst hP hw hK
    obtain ⟨f0, f1, f2, f3, f4, f5⟩ := hf it (by simp)
    exact wpAny_pyNext_range_end (I.ok.hd hc) st (by have : n ≤ i := hg; omega) fun h' eb => ⟨rfl, I.turned (t' := s.toks) (fun b o hb e => eb b o hb e) f0 f1 f3 f4 f5⟩
  self := fun _ _ _ _ _ st h => wpAny_pyIter_rangeiter st h
end L2
namespace L2
open PySem PySem.Spec PyProof.Rows
section
variable {X : Cx} {tg : Expr}
def iList (K : PySem.W.Frag) (tl : TE) : TI := fun σ H R => tl σ H fun x H1 => ∃ a, x = .ref a ∧ (∃ xs, SqL K H1 a xs) ∧ R (Itl K a) H1
def iTup (K : PySem.W.Frag) (tl : TE) : TI := fun σ H R => tl σ H fun x H1 => ∃ a, x = .ref a ∧ (∃ xs, SqT K H1 a xs) ∧ R (Itt K a) H1
theorem pi_list {l : Expr} {tl : TE} (hl : PE X l tl) : PI X tg l (iList X.K tl) := by
  intro pins s σ H R I h
  refine thn (hl pins s σ H _ I h) fun v s1 ⟨x, H1, I1, r1, q1⟩ => ?_
  obtain ⟨a, e, ⟨xs, hq⟩, q⟩ := q1
  subst e
  cases r1
  obtain ⟨its, rv, p, hz⟩ := I1.list hq
  refine wpAny_pyIter_list p.isList ?_
  refine ⟨s1.heap.objs.size, [s1.heap.objs.size], _, _, H1, rfl, I1.kept (t' := s1.toks) fun b o e => Heap.get?_push_of_some _ e, turn_list a _, ⟨_, Heap.get?_push_size _ rfl, rfl, rfl⟩, fun b hb => ?_, q⟩
  have e : b = s1.heap.objs.size := by simpa using hb
  subst e
  exact I1.fpOk (Nat.le_refl _) (I1.hok.fresh (Nat.le_refl _))
theorem pi_tup {l : Expr} {tl : TE} (hl : PE X l tl) : PI X tg l (iTup X.K tl) := by
  intro pins s σ H R I h
  refine thn (hl pins s σ H _ I h) fun v s1 ⟨x, H1, I1, r1, q1⟩ => ?_
  obtain ⟨a, e, ⟨xs, hq⟩, q⟩ := q1
  subst e
  cases r1
  obtain ⟨its, rv, p, hz⟩ := I1.tuple hq
  refine wpAny_pyIter_tuple (show s1.heap.IsTuple a its.toArray from p) ?_
  refine ⟨s1.heap.objs.size, [s1.heap.objs.size], _, _, H1, rfl, I1.kept (t' := s1.toks) fun b o e => Heap.get?_push_of_some _ e, turn_tuple a _, ⟨_, Heap.get?_push_size _ rfl, rfl, rfl⟩, fun b hb => ?_, q⟩
  have e : b = s1.heap.objs.size := by simpa using hb
  subst e
  exact I1.fpOk (Nat.le_refl _) (I1.hok.fresh (Nat.le_refl _))
theorem range_it {pins : List (Addr × Obj)} {σ : St} {H : Hp} {s : Shared} {R : It → Hp → Prop} {E : Value → Shared → Prop} {lo hi : Int} {t u v : Tok} {tk : Nat} (I : Inv X pins σ H s) (h1 : -(2 ^ 62) ≤ lo) (h2 : lo < 2 ^ 62) (h3 : -(2 ^ 62) ≤ hi) (h4 : hi < 2 ^ 62)
    (q : R (Itr lo (hi - lo).toNat) H) : wpAny (model X.prog X.w) X.A (pyIter (.ref s.heap.objs.size)) (PIE X pins σ tg R) E { s with heap := s.heap.push { cls := .type "range", data := .fields #[.int lo t, .int hi u, .int 1 v] }, toks := tk } := by
  refine wpAny_pyIter_range (IsRange.new ..) (small_one h1 h2 h3 h4) ?_
  have I1 : Inv X pins σ H { s with heap := s.heap.push { cls := .type "range", data := .fields #[.int lo t, .int hi u, .int 1 v] }, toks := tk } := I.kept fun b o e => Heap.get?_push_of_some _ e
  refine ⟨(s.heap.push { cls := .type "range", data := .fields #[.int lo t, .int hi u, .int 1 v] }).objs.size, [(s.heap.push { cls := .type "range", data := .fields #[.int lo t, .int hi u, .int 1 v] }).objs.size], _, _, H, rfl,
    I1.kept (t' := tk) fun b o e => Heap.get?_push_of_some _ e, turn_range _ lo (hi - lo).toNat, ?_, fun b hb => ?_, q⟩
  · have e1 : lo + ((0 : Nat) : Int) * 1 = lo := by simp
    have e2 : (((hi - lo).toNat : Nat) : Int) - ((0 : Nat) : Int) = Builtin.Range.rangeSize lo hi 1 := by rw [rangeSize_one]; split <;> omega
    show IsRangeIter _ _ (lo + ((0 : Nat) : Int) * 1) ((((hi - lo).toNat : Nat) : Int) - ((0 : Nat) : Int)) 1
    rw [e1, e2]
    exact Heap.get?_push_size _ rfl
  · have e : b = (s.heap.push { cls := .type "range", data := .fields #[.int lo t, .int hi u, .int 1 v] }).objs.size := by simpa using hb
    subst e
    exact I1.fpOk (Nat.le_refl _) (I1.hok.fresh (Nat.le_refl _))
def iRng1 (ta : TA) : TI := fun σ H R => ta σ H fun vs H1 => ∃ j : Int, vs = [.int j] ∧ -(2 ^ 62) ≤ j ∧ j < 2 ^ 62 ∧ R (Itr 0 j.toNat) H1
def iRng2 (ta : TA) : TI := fun σ H R => ta σ H fun vs H1 => ∃ i j : Int, vs = [.int i, .int j] ∧ (-(2 ^ 62) ≤ i ∧ i < 2 ^ 62 ∧ -(2 ^ 62) ≤ j ∧ j < 2 ^ 62) ∧ R (Itr i (j - i).toNat) H1
theorem pi_range1 {a : Expr} {ta : TA} {p pos : Pos} (hg : Gl X "range") (hm : X.mg "range" = none) (ha : PA X [a] ta) (hs : starEach [a] X.env = [(false, eval a X.env)] := by rfl) : PI X tg (.Call (.Name "range" p) [a] [] pos) (iRng1 ta) := by
  intro pins s σ H R I h
  refine Call_ (ld_blt I hg hm boot_range (PyProof.Rows.callWith_type1 (thn (ha pos pins s σ H _ I h) fun us s1 ⟨vs, H1, I1, r1, q1⟩ => ?_) hs rfl))
  obtain ⟨j, e, q1, q2, q⟩ := q1
  subst e
  cases r1 with
  | cons r rr =>
    cases rr
    obtain ⟨t, rfl⟩ := r
    exact call_range_1 (range_it I1 (by omega) (by omega) q1 q2 (by simpa using q))
theorem pi_range2 {a b : Expr} {ta : TA} {p pos : Pos} (hg : Gl X "range") (hm : X.mg "range" = none) (ha : PA X [a, b] ta) (hs : starEach [a, b] X.env = [(false, eval a X.env), (false, eval b X.env)] := by rfl) (hs2 : starEach [b] X.env = [(false, eval b X.env)] := by rfl) :
    PI X tg (.Call (.Name "range" p) [a, b] [] pos) (iRng2 ta) := by
  intro pins s σ H R I h
  refine Call_ (ld_blt I hg hm boot_range (PyProof.Rows.callWith_type1 (thn (ha pos pins s σ H _ I h) fun us s1 ⟨vs, H1, I1, r1, q1⟩ => ?_) (by rw [hs, hs2]) (by rw [hs2]; rfl)))
  obtain ⟨i, j, e, ⟨q1, q2, q3, q4⟩, q⟩ := q1
  subst e
  cases r1 with
  | cons r rr =>
    cases rr with
    | cons r' rr =>
      cases rr
      obtain ⟨t, rfl⟩ := r
      obtain ⟨t', rfl⟩ := r'
      exact call_range_2 (range_it I1 q1 q2 q3 q4 q)
def tFor (wi : TI) (g : TG) (tb : TS) : TS := fun D σ H => wi σ H fun J H1 => ∃ W : Nat → Nat → St → Hp → Prop, (∃ m, W 0 m σ H1) ∧ ∀ i m σ H, W i m σ H →
  (J.stop i H ∧ D.nx σ H) ∨ (J.go i H ∧ ∃ N : St → Hp → Prop, (∀ σ' H', N σ' H' → ∃ m', m' < m ∧ W (i + 1) m' σ' H') ∧ ∀ x H', J.yld i H x H' → g x σ H' fun σ2 H2 => tb { D with nx := N, ct := N, bk := D.nx } σ2 H2)
def pinsAt (fp : List Addr) (h : Heap) : List (Addr × Obj) := fp.filterMap fun b => (h.get? b).map fun o => (b, o)
theorem mem_pinsAt {fp : List Addr} {h : Heap} {b : Addr} {o : Obj} (hb : b ∈ fp) (e : h.get? b = some o) : (b, o) ∈ pinsAt fp h := List.mem_filterMap.mpr ⟨b, hb, by rw [e]; rfl⟩
theorem of_pinsAt {fp : List Addr} {h : Heap} {p : Addr × Obj} (hp : p ∈ pinsAt fp h) : p.1 ∈ fp ∧ h.get? p.1 = some p.2 := by
  obtain ⟨b, hb, e⟩ := List.mem_filterMap.mp hp
  cases q : h.get? b with
  | none => rw [q] at e; cases e
  | some o =>
    rw [q] at e
    have e' : (b, o) = p := Option.some.inj e
    subst e'
    exact ⟨hb, q⟩
theorem Inv.pinned {pins : List (Addr × Obj)} {σ : St} {H : Hp} {s : Shared} {fp : List Addr} (I : Inv X pins σ H s) (hf : ∀ b ∈ fp, FpOk X pins H b) (ho : ∀ b ∈ fp, ∃ o, s.heap.get? b = some o ∧ ∀ v, o.data ≠ .cell v) : Inv X (pins ++ pinsAt fp s.heap) σ H s :=
  I.pins_of fun p hp => (List.mem_append.mp hp).elim (fun z => I.pin p (List.mem_append_right _ z)) fun z => by
    obtain ⟨hb, e⟩ := of_pinsAt z
    obtain ⟨f0, f1, f2, _⟩ := hf p.1 hb
    obtain ⟨o, e', d⟩ := ho p.1 hb
    rw [e] at e'; cases e'
    exact ⟨e, f0, f1, f2, d⟩
theorem Inv.unpinned {pins pl : List (Addr × Obj)} {σ : St} {H : Hp} {s : Shared} (I : Inv X (pins ++ pl) σ H s) : Inv X pins σ H s := I.pins_of fun p hp => I.pin p (List.mem_append_right _ (List.mem_append_left _ hp))
theorem ps_for {iter : Expr} {body : List Stmt} {wi : TI} {g : TG} {tb : TS} {pos : Pos} (hp : PassesOwn (model X.prog X.w) X.A X.env X.xe) (hc : X.calm = true) (hi : PI X tg iter wi) (hg : PG X tg g) (hb : PSs X body tb)
    (hs : ∀ x, foldedSetIterable iter X.env x = pure x := by intro _; rfl) : PS X (.For tg iter body [] pos) (tFor wi g tb) := by
  intro pins s σ H D I h
  refine wpAny_For (thn (hi pins s σ H _ I h) fun v s1 h1 => thn h1 fun itv s2 h2 => ?_) hs
  obtain ⟨it, fp, tn, J, H2, e, I2, T, st2, f2, W, ⟨m0, w0⟩, turn⟩ := h2
  subst e
  have stat : ∀ {H' : Hp}, (∀ b ∈ fp, H' b = none) → ∀ b ∈ fp, FpOk X pins H' b := fun hn b hb => ⟨hn b hb, (f2 b hb).2⟩
  refine codeAny_forLoop_any (fun n s' => ∃ i σ' H', Inv X pins σ' H' s' ∧ tn i s'.heap ∧ (∀ b ∈ fp, H' b = none) ∧ W i n σ' H') ?_ m0 ⟨0, σ, H2, I2, st2, fun b hb => (f2 b hb).1, w0⟩
  rintro n s3 ⟨i, σ3, H3, I3, st3, fr3, w3⟩
  rcases turn i n σ3 H3 w3 with ⟨stop, qn⟩ | ⟨go, N, hN, step⟩
  · refine wpAny_passesOwn hp (thn (T.done X rfl rfl rfl hc i pins s3 σ3 H3 X.xe I3 (stat fr3) st3 stop) fun r s4 ⟨hr, I4⟩ => ?_)
    subst hr
    exact wpAny_execs_nil ⟨σ3, H3, I4, qn⟩
  · refine wpAny_passesOwn hp (thn (T.item X rfl rfl rfl hc i pins s3 σ3 H3 X.xe I3 (stat fr3) st3 go) fun r s4 ⟨u, hr, h4⟩ => ?_)
    subst hr
    refine wpAny_passesOwn hp (thn h4 fun _ s5 ⟨x, H5, I5, r5, y5, st5, fr5⟩ => ?_)
    have I5' := I5.pinned (stat fr5) (T.obj _ _ st5)
    refine wpAny_passesOwn hp (thn (hg _ s5 σ3 H5 x u _ I5' r5 (step x H5 y5)) fun _ s6 ⟨σ6, H6, I6, q6⟩ => ?_)
    refine wpAny_passesOwn hp (thn (hb _ s6 σ6 H6 _ I6 q6) fun f s7 q7 => ?_)
    have again : ∀ {σ7 : St} {H7 : Hp}, Inv X (pins ++ pinsAt fp s5.heap) σ7 H7 s7 → N σ7 H7 → ∃ m, m < n ∧ ∃ i σ' H', Inv X pins σ' H' s7 ∧ tn i s7.heap ∧ (∀ b ∈ fp, H' b = none) ∧ W i m σ' H' := fun {σ7 H7} I7 n7 => by
      obtain ⟨m', hm, w7⟩ := hN σ7 H7 n7
      refine ⟨m', hm, i + 1, σ7, H7, I7.unpinned, T.keep _ _ _ st5 fun b hb o e => (I7.pin (b, o) (List.mem_append_right _ (List.mem_append_right _ (mem_pinsAt hb e)))).1, fun b hb => ?_, w7⟩
      obtain ⟨o, e, d⟩ := T.obj _ _ st5 b hb
      exact (I7.pin (b, o) (List.mem_append_right _ (List.mem_append_right _ (mem_pinsAt hb e)))).2.1
    cases f with
    | next => obtain ⟨σ7, H7, I7, n7⟩ := q7; exact again I7 n7
    | cont => obtain ⟨σ7, H7, I7, n7⟩ := q7; exact again I7 n7
    | brk => obtain ⟨σ7, H7, I7, q7⟩ := q7; exact ⟨σ7, H7, I7.unpinned, q7⟩
    | ret v => obtain ⟨x7, σ7, H7, I7, r7, q7⟩ := q7; exact ⟨x7, σ7, H7, I7.unpinned, r7, q7⟩
end
theorem for_list {K : PySem.W.Frag} {a : Addr} {xs : List V} {g : TG} {tb : TS} {D : Ends} {σ : St} {H : Hp} (Pv : Nat → St → Hp → Prop) (h0 : Pv 0 σ H) (hl : ∀ i σ H, i ≤ xs.length → Pv i σ H → SqL K H a xs)
    (hs : ∀ i x σ H, xs[i]? = some x → Pv i σ H → g x σ H fun σ2 H2 => tb { D with nx := Pv (i + 1), ct := Pv (i + 1), bk := D.nx } σ2 H2) (hd : ∀ σ H, Pv xs.length σ H → D.nx σ H) :
    ∃ W : Nat → Nat → St → Hp → Prop, (∃ m, W 0 m σ H) ∧ ∀ i m σ H, W i m σ H →
      ((Itl K a).stop i H ∧ D.nx σ H) ∨ ((Itl K a).go i H ∧ ∃ N : St → Hp → Prop, (∀ σ' H', N σ' H' → ∃ m', m' < m ∧ W (i + 1) m' σ' H') ∧ ∀ x H', (Itl K a).yld i H x H' → g x σ H' fun σ2 H2 => tb { D with nx := N, ct := N, bk := D.nx } σ2 H2) := by
  refine ⟨fun i m σ H => m = xs.length - i ∧ i ≤ xs.length ∧ Pv i σ H, ⟨xs.length, by simp, Nat.zero_le _, h0⟩, ?_⟩
  rintro i m σ H ⟨rfl, hi, p⟩
  have q := hl i σ H hi p
  by_cases hlt : i < xs.length
  · refine .inr ⟨⟨xs, xs[i], q, by simp [hlt]⟩, Pv (i + 1), fun σ' H' p' => ⟨xs.length - (i + 1), by omega, rfl, hlt, p'⟩, fun x H' y => ?_⟩
    obtain ⟨e, y⟩ := y
    subst e
    exact hs i x σ _ (y xs q) p
  · have e : i = xs.length := by omega
    subst e
    exact .inl ⟨⟨xs, q, Nat.le_refl _⟩, hd σ H p⟩
theorem for_tup {K : PySem.W.Frag} {a : Addr} {xs : List V} {g : TG} {tb : TS} {D : Ends} {σ : St} {H : Hp} (Pv : Nat → St → Hp → Prop) (h0 : Pv 0 σ H) (hl : ∀ i σ H, i ≤ xs.length → Pv i σ H → SqT K H a xs)
    (hs : ∀ i x σ H, xs[i]? = some x → Pv i σ H → g x σ H fun σ2 H2 => tb { D with nx := Pv (i + 1), ct := Pv (i + 1), bk := D.nx } σ2 H2) (hd : ∀ σ H, Pv xs.length σ H → D.nx σ H) :
    ∃ W : Nat → Nat → St → Hp → Prop, (∃ m, W 0 m σ H) ∧ ∀ i m σ H, W i m σ H →
      ((Itt K a).stop i H ∧ D.nx σ H) ∨ ((Itt K a).go i H ∧ ∃ N : St → Hp → Prop, (∀ σ' H', N σ' H' → ∃ m', m' < m ∧ W (i + 1) m' σ' H') ∧ ∀ x H', (Itt K a).yld i H x H' → g x σ H' fun σ2 H2 => tb { D with nx := N, ct := N, bk := D.nx } σ2 H2) := by
  refine ⟨fun i m σ H => m = xs.length - i ∧ i ≤ xs.length ∧ Pv i σ H, ⟨xs.length, by simp, Nat.zero_le _, h0⟩, ?_⟩
  rintro i m σ H ⟨rfl, hi, p⟩
  have q := hl i σ H hi p
  by_cases hlt : i < xs.length
  · refine .inr ⟨⟨xs, xs[i], q, by simp [hlt]⟩, Pv (i + 1), fun σ' H' p' => ⟨xs.length - (i + 1), by omega, rfl, hlt, p'⟩, fun x H' y => ?_⟩
    obtain ⟨e, y⟩ := y
    subst e
    exact hs i x σ _ (y xs q) p
  · have e : i = xs.length := by omega
    subst e
    exact .inl ⟨⟨xs, q, Nat.le_refl _⟩, hd σ H p⟩
theorem for_range {lo : Int} {n : Nat} {g : TG} {tb : TS} {D : Ends} {σ : St} {H : Hp} (Pv : Nat → St → Hp → Prop) (h0 : Pv 0 σ H)
    (hs : ∀ i σ H, i < n → Pv i σ H → g (.int (lo + i)) σ H fun σ2 H2 => tb { D with nx := Pv (i + 1), ct := Pv (i + 1), bk := D.nx } σ2 H2) (hd : ∀ σ H, Pv n σ H → D.nx σ H) :
    ∃ W : Nat → Nat → St → Hp → Prop, (∃ m, W 0 m σ H) ∧ ∀ i m σ H, W i m σ H →
      ((Itr lo n).stop i H ∧ D.nx σ H) ∨ ((Itr lo n).go i H ∧ ∃ N : St → Hp → Prop, (∀ σ' H', N σ' H' → ∃ m', m' < m ∧ W (i + 1) m' σ' H') ∧ ∀ x H', (Itr lo n).yld i H x H' → g x σ H' fun σ2 H2 => tb { D with nx := N, ct := N, bk := D.nx } σ2 H2) := by
  refine ⟨fun i m σ H => m = n - i ∧ i ≤ n ∧ Pv i σ H, ⟨n, by simp, Nat.zero_le _, h0⟩, ?_⟩
  rintro i m σ H ⟨rfl, hi, p⟩
  by_cases hlt : i < n
  · refine .inr ⟨hlt, Pv (i + 1), fun σ' H' p' => ⟨n - (i + 1), by omega, rfl, hlt, p'⟩, fun x H' y => ?_⟩
    obtain ⟨e, y⟩ := y
    subst e y
    exact hs i σ _ hlt p
  · have e : i = n := by omega
    subst e
    exact .inl ⟨Nat.le_refl _, hd σ H p⟩
end L2
namespace L2
open PySem PySem.Spec PyProof.Rows
abbrev R2 := V → V → Hp → VK → Prop
def OpR (X : Cx) (f : Value → Value → Sem Value) (r : R2) : Prop :=
  ∀ (pins : List (Addr × Obj)) (s : Shared) (σ : St) (H : Hp) (x y : V) (v u : Value) (Q : VK), Inv X pins σ H s → RelV x v → RelV y u → r x y H Q →
    wpAny (model X.prog X.w) X.A (f v u) (EP X pins σ Q) X.xe s
def UnR (X : Cx) (f : Value → Sem Value) (r : V → Hp → VK → Prop) : Prop :=
  ∀ (pins : List (Addr × Obj)) (s : Shared) (σ : St) (H : Hp) (x : V) (v : Value) (Q : VK), Inv X pins σ H s → RelV x v → r x H Q →
    wpAny (model X.prog X.w) X.A (f v) (EP X pins σ Q) X.xe s
def CallR (X : Cx) (f : Value) (r : List V → Hp → VK → Prop) : Prop :=
  ∀ (pins : List (Addr × Obj)) (s : Shared) (σ : St) (H : Hp) (xs : List V) (us : List Value) (Q : VK), Inv X pins σ H s → Vals xs us → r xs H Q →
    wpAny (model X.prog X.w) X.A (call f us) (EP X pins σ Q) X.xe s
def TruR (X : Cx) (r : V → Hp → (Bool → Hp → Prop) → Prop) : Prop :=
  ∀ (pins : List (Addr × Obj)) (s : Shared) (σ : St) (H : Hp) (x : V) (v : Value) (Q : Bool → Hp → Prop), Inv X pins σ H s → RelV x v → r x H Q →
    wpAny (model X.prog X.w) X.A (truthy v) (TP X pins σ Q) X.xe s
def tOp (r : R2) (ta tb : TE) : TE := fun σ H Q => ta σ H fun x H1 => tb σ H1 fun y H2 => r x y H2 Q
def tUn (r : V → Hp → VK → Prop) (ta : TE) : TE := fun σ H Q => ta σ H fun x H1 => r x H1 Q
def rI (C : Int → Int → Prop) (g : Int → Int → V) : R2 := fun x y H Q => ∃ i j, x = .int i ∧ y = .int j ∧ C i j ∧ Q (g i j) H
def rI0 (g : Int → Int → V) : R2 := fun x y H Q => ∃ i j, x = .int i ∧ y = .int j ∧ Q (g i j) H
def rU (g : Int → V) : V → Hp → VK → Prop := fun x H Q => ∃ i, x = .int i ∧ Q (g i) H
section
variable {X : Cx} {a b c : Expr} {ta tb tc : TE} {pos : Pos}
theorem binT (ha : PE X a ta) (hb : PE X b tb) {pins : List (Addr × Obj)} {s : Shared} {σ : St} {H : Hp} {R : V → V → Hp → Prop} (I : Inv X pins σ H s)
    (h : ta σ H fun x H1 => tb σ H1 fun y H2 => R x y H2) {Q : Value → Shared → Prop} {f : Value → Value → Sem Value}
    (hf : ∀ v u s2 x y H2, Inv X pins σ H2 s2 → RelV x v → RelV y u → R x y H2 → wpAny (model X.prog X.w) X.A (f v u) Q X.xe s2) :
    wpAny (model X.prog X.w) X.A (eval a X.env) (fun v s₁ => wpAny (model X.prog X.w) X.A (eval b X.env) (fun u s₂ => wpAny (model X.prog X.w) X.A (f v u) Q X.xe s₂) X.xe s₁) X.xe s := by
  refine thn (ha pins s σ H _ I h) fun v s1 ⟨x, H1, I1, r1, q1⟩ => ?_
  refine thn (hb pins s1 σ H1 _ I1 q1) fun u s2 ⟨y, H2, I2, r2, q2⟩ => ?_
  exact hf v u s2 x y H2 I2 r1 r2 q2
theorem pe_op {op : Operator} {r : R2} (ho : OpR X (binaryOp op) r) (ha : PE X a ta) (hb : PE X b tb) : PE X (.BinOp a op b pos) (tOp r ta tb) := by
  intro pins s σ H Q I h
  exact wpAny_BinOp (binT ha hb I h fun v u s2 x y H2 I2 rx ry q => ho pins s2 σ H2 x y v u Q I2 rx ry q)
theorem pe_un {op : UnaryOp} {r : V → Hp → VK → Prop} (ho : UnR X (unaryOp op) r) (ha : PE X a ta) : PE X (.UnaryOp op a pos) (tUn r ta) := by
  intro pins s σ H Q I h
  exact UnaryOp_ (thn (ha pins s σ H _ I h) fun v s1 ⟨x, H1, I1, r1, q1⟩ => ho pins s1 σ H1 x v Q I1 r1 q1)
theorem opI {f : Value → Value → Sem Value} {C : Int → Int → Prop} {g : Int → Int → Int}
    (rule : ∀ (i j : Int) (t u : Tok) (s : Shared) (Q : Value → Shared → Prop) (E : Value → Shared → Prop), C i j → Q (.int (g i j) s.toks) { s with toks := s.toks + 1 } → wpAny (model X.prog X.w) X.A (f (.int i t) (.int j u)) Q E s) :
    OpR X f (rI C fun i j => .int (g i j)) := by
  intro pins s σ H x y v u Q I rx ry h
  obtain ⟨i, j, rfl, rfl, hc, q⟩ := h
  obtain ⟨t, rfl⟩ := rx
  obtain ⟨t', rfl⟩ := ry
  exact rule i j t t' s _ _ hc ⟨.int (g i j), H, I.tok _, ⟨_, rfl⟩, q⟩
theorem opI0 {f : Value → Value → Sem Value} {g : Int → Int → Int}
    (rule : ∀ (i j : Int) (t u : Tok) (s : Shared) (Q : Value → Shared → Prop) (E : Value → Shared → Prop), Q (.int (g i j) s.toks) { s with toks := s.toks + 1 } → wpAny (model X.prog X.w) X.A (f (.int i t) (.int j u)) Q E s) :
    OpR X f (rI0 fun i j => .int (g i j)) := by
  intro pins s σ H x y v u Q I rx ry h
  obtain ⟨i, j, rfl, rfl, q⟩ := h
  obtain ⟨t, rfl⟩ := rx
  obtain ⟨t', rfl⟩ := ry
  exact rule i j t t' s _ _ ⟨.int (g i j), H, I.tok _, ⟨_, rfl⟩, q⟩
theorem opB0 {f : Value → Value → Sem Value} {g : Int → Int → Bool}
    (rule : ∀ (i j : Int) (t u : Tok) (s : Shared) (Q : Value → Shared → Prop) (E : Value → Shared → Prop), Q (.bool (g i j)) s → wpAny (model X.prog X.w) X.A (f (.int i t) (.int j u)) Q E s) :
    OpR X f (rI0 fun i j => .bl (g i j)) := by
  intro pins s σ H x y v u Q I rx ry h
  obtain ⟨i, j, rfl, rfl, q⟩ := h
  obtain ⟨t, rfl⟩ := rx
  obtain ⟨t', rfl⟩ := ry
  exact rule i j t t' s _ _ ⟨.bl (g i j), H, I, rfl, q⟩
def CDiv (i j : Int) : Prop := 0 < j ∧ j < 1073741824
def CDivN (i j : Int) : Prop := j ≠ 0 ∧ j.natAbs < 1073741824
def CPow (i j : Int) : Prop := 0 ≤ j ∧ j ≤ 1000000 ∧ i.natAbs < 2 ^ 64
def CMul (i j : Int) : Prop := (-(2 ^ 64) < i ∧ i < 2 ^ 64) ∨ (-(2 ^ 64) < j ∧ j < 2 ^ 64)
theorem CMul.ok {i j : Int} (h : CMul i j) : IntMulOk i j := by
  rcases h with ⟨h1, h2⟩ | ⟨h1, h2⟩
  · exact .of_left (intBits_le_64 h1 h2)
  · exact .of_right (intBits_le_64 h1 h2)
theorem op_add : OpR X (binaryOp .Add) (rI0 fun i j => .int (i + j)) := opI0 fun _ _ _ _ _ _ _ q => add_int q
theorem op_sub : OpR X (binaryOp .Sub) (rI0 fun i j => .int (i - j)) := opI0 fun _ _ _ _ _ _ _ q => sub_int q
theorem op_mul : OpR X (binaryOp .Mult) (rI CMul fun i j => .int (i * j)) := opI fun _ _ _ _ _ _ _ hc q => mul_int q hc.ok
theorem op_fdiv : OpR X (binaryOp .FloorDiv) (rI CDiv fun i j => .int (i / j)) := opI fun i j _ _ _ _ _ hc q => by
  have h1 : (0 : Int) < j := hc.1
  have h2 : j < 1073741824 := hc.2
  exact floordiv_int (by omega) (by rw [Int.fdiv_eq_ediv_of_nonneg i (by omega)]; exact q) (.inl (PyProof.noPylong_small (by omega)))
theorem op_mod : OpR X (binaryOp .Mod) (rI (fun _ j => 0 < j) fun i j => .int (i % j)) := opI fun i j _ _ _ _ _ hc q => by
  have h1 : (0 : Int) < j := hc
  exact mod_int' (by omega) (by rw [Int.fmod_eq_emod_of_nonneg i (by omega)]; exact q)
theorem op_pow : OpR X (binaryOp .Pow) (rI CPow fun i j => .int (i ^ j.toNat)) := opI fun _ _ _ _ _ _ _ hc q => pow_int_small hc.1 hc.2.1 hc.2.2 q
theorem unI {f : Value → Sem Value} {g : Int → Int}
    (rule : ∀ (i : Int) (t : Tok) (s : Shared) (Q : Value → Shared → Prop) (E : Value → Shared → Prop), Q (.int (g i) s.toks) { s with toks := s.toks + 1 } → wpAny (model X.prog X.w) X.A (f (.int i t)) Q E s) :
    UnR X f (rU fun i => .int (g i)) := by
  intro pins s σ H x v Q I rx h
  obtain ⟨i, rfl, q⟩ := h
  obtain ⟨t, rfl⟩ := rx
  exact rule i t s _ _ ⟨.int (g i), H, I.tok _, ⟨_, rfl⟩, q⟩
theorem un_neg : UnR X (unaryOp .USub) (rU fun i => .int (-i)) := unI fun _ _ _ _ _ q => neg_int q
end
def scal : V → V → Bool
  | .non, .non => true | .non, .int _ => true | .int _, .non => true | .non, .bl _ => true | .bl _, .non => true | .non, .str _ => true | .str _, .non => true
  | .int _, .int _ => true | .bl _, .bl _ => true | .str _, .str _ => true | .byt _, .byt _ => true
  | .int _, .str _ => true | .str _, .int _ => true | .bl _, .str _ => true | .str _, .bl _ => true
  | _, _ => false
def rEq : R2 := fun x y H Q => scal x y = true ∧ Q (.bl (decide (x = y))) H
def rNe : R2 := fun x y H Q => scal x y = true ∧ Q (.bl (!decide (x = y))) H
theorem dec_int {i j : Int} : decide (V.int i = V.int j) = (i == j) := by
  rw [Bool.eq_iff_iff]
  simp
theorem dec_bl {i j : Bool} : decide (V.bl i = V.bl j) = (i == j) := by
  rw [Bool.eq_iff_iff]
  simp
theorem dec_str {i j : Str} : decide (V.str i = V.str j) = (i == j) := by
  rw [Bool.eq_iff_iff]
  simp
theorem dec_byt {i j : Array UInt8} : decide (V.byt i = V.byt j) = (i.toList == j.toList) := by
  rw [Bool.eq_iff_iff]
  cases i
  cases j
  simp
section
variable {X : Cx} {a b c : Expr} {ta tb tc : TE} {pos : Pos}
theorem fin_bl {pins : List (Addr × Obj)} {σ : St} {H : Hp} {s : Shared} {Q : VK} {k k' : Bool} (I : Inv X pins σ H s) (q : Q (.bl k) H) (e : k = k') : EP X pins σ Q (.bool k') s := by
  subst e
  exact ⟨.bl k, H, I, rfl, q⟩
theorem op_eq : OpR X (compareOp .Eq) rEq := by
  intro pins s σ H x y v u Q I rx ry h
  obtain ⟨hs, q⟩ := h
  cases x with
  | non =>
    cases rx
    cases y with
    | non => cases ry; exact PySem.EqNone.eq_none_none (fin_bl I q (by simp))
    | bl j => cases ry; exact PySem.EqNone.eq_none_bool (fin_bl I q (by simp))
    | int j => obtain ⟨t', rfl⟩ := ry; exact PySem.EqNone.eq_none_int (fin_bl I q (by simp))
    | str j => obtain ⟨t', rfl⟩ := ry; exact PySem.EqNone.eq_none_str (fin_bl I q (by simp))
    | _ => exact absurd (show false = true from hs) Bool.false_ne_true
  | bl i =>
    cases rx
    cases y with
    | non => cases ry; exact PySem.EqNone.eq_bool_none (fin_bl I q (by simp))
    | bl j => cases ry; exact eq_bool (fin_bl I q dec_bl)
    | str j => obtain ⟨t', rfl⟩ := ry; exact PySem.EqMixed.eq_bool_str (fin_bl I q (by simp))
    | _ => exact absurd (show false = true from hs) Bool.false_ne_true
  | int i =>
    obtain ⟨t, rfl⟩ := rx
    cases y with
    | non => cases ry; exact PySem.EqNone.eq_int_none (fin_bl I q (by simp))
    | int j => obtain ⟨t', rfl⟩ := ry; exact eq_int (fin_bl I q dec_int)
    | str j => obtain ⟨t', rfl⟩ := ry; exact PySem.EqMixed.eq_int_str (fin_bl I q (by simp))
    | _ => exact absurd (show false = true from hs) Bool.false_ne_true
  | str i =>
    obtain ⟨t, rfl⟩ := rx
    cases y with
    | non => cases ry; exact PySem.EqNone.eq_str_none (fin_bl I q (by simp))
    | bl j => cases ry; exact PySem.EqMixed.eq_str_bool (fin_bl I q (by simp))
    | int j => obtain ⟨t', rfl⟩ := ry; exact PySem.EqMixed.eq_str_int (fin_bl I q (by simp))
    | str j => obtain ⟨t', rfl⟩ := ry; exact eq_str (fin_bl I q dec_str)
    | _ => exact absurd (show false = true from hs) Bool.false_ne_true
  | byt i =>
    obtain ⟨t, rfl⟩ := rx
    cases y with
    | byt j => obtain ⟨t', rfl⟩ := ry; exact PySem.W.eq_bytes (fin_bl I q dec_byt)
    | _ => exact absurd (show false = true from hs) Bool.false_ne_true
  | _ => cases y <;> exact absurd (show false = true from hs) Bool.false_ne_true
theorem op_ne : OpR X (compareOp .NotEq) rNe := by
  intro pins s σ H x y v u Q I rx ry h
  obtain ⟨hs, q⟩ := h
  cases x with
  | non =>
    cases rx
    cases y with
    | non => cases ry; exact PySem.EqNone.ne_none_none (fin_bl I q (by simp))
    | bl j => cases ry; exact PySem.EqNone.ne_none_bool (fin_bl I q (by simp))
    | int j => obtain ⟨t', rfl⟩ := ry; exact PySem.EqNone.ne_none_int (fin_bl I q (by simp))
    | str j => obtain ⟨t', rfl⟩ := ry; exact PySem.EqNone.ne_none_str (fin_bl I q (by simp))
    | _ => exact absurd (show false = true from hs) Bool.false_ne_true
  | bl i =>
    cases rx
    cases y with
    | non => cases ry; exact PySem.EqNone.ne_bool_none (fin_bl I q (by simp))
    | bl j => cases ry; exact ne_bool (fin_bl I q (congrArg not dec_bl))
    | str j => obtain ⟨t', rfl⟩ := ry; exact PySem.EqMixed.ne_bool_str (fin_bl I q (by simp))
    | _ => exact absurd (show false = true from hs) Bool.false_ne_true
  | int i =>
    obtain ⟨t, rfl⟩ := rx
    cases y with
    | non => cases ry; exact PySem.EqNone.ne_int_none (fin_bl I q (by simp))
    | int j => obtain ⟨t', rfl⟩ := ry; exact ne_int (fin_bl I q (congrArg not dec_int))
    | str j => obtain ⟨t', rfl⟩ := ry; exact PySem.EqMixed.ne_int_str (fin_bl I q (by simp))
    | _ => exact absurd (show false = true from hs) Bool.false_ne_true
  | str i =>
    obtain ⟨t, rfl⟩ := rx
    cases y with
    | non => cases ry; exact PySem.EqNone.ne_str_none (fin_bl I q (by simp))
    | bl j => cases ry; exact PySem.EqMixed.ne_str_bool (fin_bl I q (by simp))
    | int j => obtain ⟨t', rfl⟩ := ry; exact PySem.EqMixed.ne_str_int (fin_bl I q (by simp))
    | str j => obtain ⟨t', rfl⟩ := ry; exact ne_str (fin_bl I q (congrArg not dec_str))
    | _ => exact absurd (show false = true from hs) Bool.false_ne_true
  | byt i =>
    obtain ⟨t, rfl⟩ := rx
    cases y with
    | byt j => obtain ⟨t', rfl⟩ := ry; exact PySem.W.ne_bytes (fin_bl I q (congrArg not dec_byt))
    | _ => exact absurd (show false = true from hs) Bool.false_ne_true
  | _ => cases y <;> exact absurd (show false = true from hs) Bool.false_ne_true
theorem op_lt : OpR X (compareOp .Lt) (rI0 fun i j => .bl (decide (i < j))) := opB0 fun _ _ _ _ _ _ _ q => lt_int q
theorem op_le : OpR X (compareOp .LtE) (rI0 fun i j => .bl (decide (i ≤ j))) := opB0 fun _ _ _ _ _ _ _ q => le_int q
theorem op_gt : OpR X (compareOp .Gt) (rI0 fun i j => .bl (decide (j < i))) := opB0 fun _ _ _ _ _ _ _ q => gt_int q
theorem op_ge : OpR X (compareOp .GtE) (rI0 fun i j => .bl (decide (j ≤ i))) := opB0 fun _ _ _ _ _ _ _ q => ge_int q
theorem op_isN : OpR X (compareOp .Is) (fun x y H Q => y = .non ∧ Q (.bl (decide (x = .non))) H) := by
  intro pins s σ H x y v u Q I rx ry h
  obtain ⟨rfl, q⟩ := h
  cases ry
  refine is_none_gen (fin_bl I q ?_)
  cases x <;> first
    | (cases rx; rfl)
    | (obtain ⟨t, rfl⟩ := rx; rfl)
theorem op_notN : OpR X (compareOp .IsNot) (fun x y H Q => y = .non ∧ Q (.bl (!decide (x = .non))) H) := by
  intro pins s σ H x y v u Q I rx ry h
  obtain ⟨rfl, q⟩ := h
  cases ry
  refine isnot_none_gen (fin_bl I q ?_)
  cases x <;> first
    | (cases rx; rfl)
    | (obtain ⟨t, rfl⟩ := rx; rfl)
def isObj : HO → Bool
  | .lst _ => true
  | .ins _ _ _ => true
  | _ => false
theorem nomark (b : Expr) {op : CmpOp} (h : op ≠ .In := by decide) (h2 : op ≠ .NotIn := by decide) : behindInMarks op b = false := by
  have e1 : (op == CmpOp.In) = false := by cases op <;> first | rfl | exact absurd rfl h
  have e2 : (op == CmpOp.NotIn) = false := by cases op <;> first | rfl | exact absurd rfl h2
  cases b <;> simp [behindInMarks, e1, e2]
theorem pe_cmpR {op : CmpOp} {r : R2} (ho : OpR X (compareOp op) r) (ha : PE X a ta) (hb : PE X b tb) (hm : behindInMarks op b = false) : PE X (.Compare a [op] [b] pos) (tOp r ta tb) := by
  intro pins s σ H Q I h
  exact wpAny_Compare1 (binT ha hb I h fun v u s2 x y H2 I2 rx ry q => ho pins s2 σ H2 x y v u Q I2 rx ry q) hm
def tTest (t : TE) : TT := fun σ H Q => t σ H fun x H' => ∃ k, x = .bl k ∧ Q k H'
theorem pt_cmpR {op : CmpOp} {r : R2} (ho : OpR X (compareOp op) r) (ha : PE X a ta) (hb : PE X b tb) (hm : behindInMarks op b = false) : PT X (.Compare a [op] [b] pos) (tTest (tOp r ta tb)) := by
  intro pins s σ H Q I h
  refine wpAny_isTrue_Compare1 (thn (ha pins s σ H _ I h) fun v s1 ⟨x, H1, I1, r1, q1⟩ => thn (hb pins s1 σ H1 _ I1 q1) fun u s2 ⟨y, H2, I2, r2, q2⟩ =>
    thn (ho pins s2 σ H2 x y v u _ I2 r1 r2 q2) fun c s3 ⟨z, H3, I3, r3, k, e, q3⟩ => ?_) hm
  subst e
  cases r3
  exact wpAny_truthy_bool ⟨H3, I3, q3⟩
def tChain (r r' : R2) (ta tb tc : TE) : TE := fun σ H Q => ta σ H fun x H1 => tb σ H1 fun y H2 => r x y H2 fun z H3 => ∃ k, z = .bl k ∧
  (if k = true then tc σ H3 fun w' H4 => r' y w' H4 Q else Q (.bl false) H3)
theorem pe_chain {op op' : CmpOp} {r r' : R2} (ho : OpR X (compareOp op) r) (ho' : OpR X (compareOp op') r') (ha : PE X a ta) (hb : PE X b tb) (hc : PE X c tc)
    (hm : lastMarks [op, op'] [b, c] = false := by with_unfolding_all rfl) : PE X (.Compare a [op, op'] [b, c] pos) (tChain r r' ta tb tc) := by
  intro pins s σ H Q I h
  refine Compare_chain (thn (ha pins s σ H _ I h) fun v s1 ⟨x, H1, I1, r1, q1⟩ => chain_link (thn (hb pins s1 σ H1 _ I1 q1) fun u s2 ⟨y, H2, I2, r2, q2⟩ =>
    thn (ho pins s2 σ H2 x y v u _ I2 r1 r2 q2) fun d s3 ⟨z, H3, I3, r3, k, e, q3⟩ => ?_)) hm
  subst e
  cases r3
  refine wpAny_truthy_bool ?_
  cases k with
  | false => exact ite_ff ⟨.bl false, H3, I3, rfl, q3⟩
  | true => exact ite_tt (chain_last (thn (hc pins s3 σ H3 _ I3 q3) fun w' s4 ⟨z', H4, I4, r4, q4⟩ => ho' pins s4 σ H4 y z' u w' Q I4 r2 r4 q4))
def TruV (K : PySem.W.Frag) (x : V) (H : Hp) (k : Bool) : Prop :=
  match x with
  | .non => k = false
  | .bl b => k = b
  | .int i => k = (i != 0)
  | .str y => y.length ≤ sizeLine ∧ k = ((y.length : Int) != 0)
  | .byt y => y.size ≤ sizeLine ∧ k = ((y.size : Int) != 0)
  | .ref p => (∃ xs, SqL K H p xs ∧ k = !xs.isEmpty) ∨ (∃ xs, SqT K H p xs ∧ k = !xs.isEmpty) ∨ ∃ kvs, H p = some (.dK kvs) ∧ k = !kvs.isEmpty
  | _ => False
theorem isEmpty_kv {κ : Type} {kvs : List (κ × V)} {vs : List (κ × Value)} (r : KV kvs vs) : (!vs.isEmpty) = !kvs.isEmpty := by
  cases r <;> rfl
theorem isEmpty_of {xs : List V} {its : List Value} (r : Vals xs its) : (!its.toArray.isEmpty) = !xs.isEmpty := by
  cases r <;> simp
theorem line63 : (sizeLine : Nat) < 2 ^ 63 := by rw [sizeLine_eq]; decide
theorem tru_ok : TruR X (fun x H Q => ∃ k, TruV X.K x H k ∧ Q k H) := by
  intro pins s σ H x v Q I rx h
  obtain ⟨k, e, q⟩ := h
  have hl := line63
  have hs : sizeLine = 16777216 := sizeLine_eq
  cases x with
  | non =>
    cases rx
    have e' : k = false := e
    subst e'
    exact truthy_none ⟨H, I, q⟩
  | bl b =>
    cases rx
    have e' : k = b := e
    subst e'
    exact wpAny_truthy_bool ⟨H, I, q⟩
  | int i =>
    obtain ⟨t, rfl⟩ := rx
    have e' : k = (i != 0) := e
    subst e'
    exact PySem.P.truthy_int ⟨H, I, q⟩
  | str y =>
    obtain ⟨t, rfl⟩ := rx
    obtain ⟨hy, e'⟩ : y.length ≤ sizeLine ∧ k = ((y.length : Int) != 0) := e
    subst e'
    exact PySem.P.truthy_str (by omega) ⟨H, I.tok _, q⟩
  | byt y =>
    obtain ⟨t, rfl⟩ := rx
    obtain ⟨hy, e'⟩ : y.size ≤ sizeLine ∧ k = ((y.size : Int) != 0) := e
    subst e'
    exact PySem.W.truthy_bytes (by omega) ⟨H, I.tok _, q⟩
  | ref p =>
    cases rx
    have e' : (∃ xs, SqL X.K H p xs ∧ k = !xs.isEmpty) ∨ (∃ xs, SqT X.K H p xs ∧ k = !xs.isEmpty) ∨ ∃ kvs, H p = some (.dK kvs) ∧ k = !kvs.isEmpty := e
    rcases e' with ⟨xs, hx, e'⟩ | ⟨xs, hx, e'⟩ | ⟨kvs, hx, e'⟩
    · subst e'
      obtain ⟨its, r, pl, hz⟩ := I.list hx
      have hlen := r.length
      exact wpAny_truthy_list pl.isList (by simp only [List.size_toArray]; omega) ⟨H, I.tok _, by rw [isEmpty_of r]; exact q⟩
    · subst e'
      obtain ⟨its, r, pl, hz⟩ := I.tuple hx
      have hlen := r.length
      exact truthy_tuple pl (by simp only [List.size_toArray]; omega) ⟨H, I.tok _, by rw [isEmpty_of r]; exact q⟩
    · subst e'
      obtain ⟨hz, hS, vs, r, m⟩ : kvs.length ≤ sizeLine ∧ (p == sysModules) = false ∧ ∃ vs, KV kvs vs ∧ s.heap.DictOf (mixKind X.prog X.w) p vs := I.hok p _ hx
      have hlen : kvs.length = vs.length := Paired.length r
      exact wpAny_truthy_dict hS m (by omega) ⟨H, I.tok _, by rw [isEmpty_kv r]; exact q⟩
  | _ => exact (show False from e).elim
theorem pt_truth (ha : PE X a ta) (he : ∀ whole, isTrue a X.env whole = (do let v ← whole; standAt a.pos; holding [v] (truthy v))) :
    PT X a (fun σ H Q => ta σ H fun x H' => ∃ k, TruV X.K x H' k ∧ Q k H') := by
  intro pins s σ H Q I h
  exact isTrue_plain (thn (ha pins s σ H _ I h) fun v s1 ⟨x, H1, I1, r1, q1⟩ => tru_ok pins s1 σ H1 x v Q I1 r1 q1) (he _)
def PlainIxT (b : Expr) : Prop := ∀ o i, subscripted b false o i = operate [o, i] (getItem o i)
theorem vals1 {x : V} {us : List Value} (r : Vals [x] us) : ∃ u, us = [u] ∧ RelV x u := by
  cases r with
  | cons r1 r2 => cases r2; exact ⟨_, rfl, r1⟩
theorem vals2 {x y : V} {us : List Value} (r : Vals [x, y] us) : ∃ u w', us = [u, w'] ∧ RelV x u ∧ RelV y w' := by
  cases r with
  | cons r1 r2 =>
    cases r2 with
    | cons r3 r4 => cases r4; exact ⟨_, _, rfl, r1, r3⟩
theorem call_max2 (hc : X.calm = true) : CallR X (.builtin "max") (fun xs H Q => ∃ i j, xs = [.int i, .int j] ∧ Q (.int (if j > i then j else i)) H) := by
  intro pins s σ H xs us Q I r h
  obtain ⟨i, j, rfl, q⟩ := h
  obtain ⟨u, w', rfl, ⟨t, rfl⟩, ⟨t', rfl⟩⟩ := vals2 r
  refine max_two_ints (I.ok.hd hc) fun h' tk k => ⟨_, H, I.kept k, ?_, q⟩
  by_cases hj : j > i
  · rw [if_pos hj, if_pos hj]; exact ⟨_, rfl⟩
  · rw [if_neg hj, if_neg hj]; exact ⟨_, rfl⟩
theorem call_min2 (hc : X.calm = true) : CallR X (.builtin "min") (fun xs H Q => ∃ i j, xs = [.int i, .int j] ∧ Q (.int (if j < i then j else i)) H) := by
  intro pins s σ H xs us Q I r h
  obtain ⟨i, j, rfl, q⟩ := h
  obtain ⟨u, w', rfl, ⟨t, rfl⟩, ⟨t', rfl⟩⟩ := vals2 r
  refine min_two_ints (I.ok.hd hc) fun h' tk k => ⟨_, H, I.kept k, ?_, q⟩
  by_cases hj : j < i
  · rw [if_pos hj, if_pos hj]; exact ⟨_, rfl⟩
  · rw [if_neg hj, if_neg hj]; exact ⟨_, rfl⟩
def LenV (K : PySem.W.Frag) (x : V) (H : Hp) (n : Nat) : Prop :=
  match x with
  | .str y => y.length ≤ sizeLine ∧ n = y.length
  | .byt y => y.size ≤ sizeLine ∧ n = y.size
  | .ref p => (∃ xs, SqL K H p xs ∧ n = xs.length) ∨ ∃ xs, SqT K H p xs ∧ n = xs.length
  | _ => False
end
end L2
namespace L2
open PySem PySem.Spec PyProof.Rows
structure ObjM (h : Heap) (x dx C : Addr) (mA : Str → Option Value) : Prop where
  obj : h.get? x = some (PySem.W.instObj C dx)
  ns : h.Ns1 dx mA
  ne : dx ≠ x
theorem lookIn_ns {h : Heap} {dx : Addr} {mA : Str → Option Value} (n : h.Ns1 dx mA) : ∃ od, h.get? dx = some od ∧ ∀ name, PySem.W.lookIn name od = some (mA name) := by
  obtain ⟨o, es, ep, ho, hd, hk, _, hm⟩ := n
  refine ⟨o, ho, fun name => ?_⟩
  have e := hm name
  unfold nsFind findBy at e
  rw [← Array.find?_toList] at e
  unfold PySem.W.lookIn
  rw [hd]
  dsimp only
  split
  · rename_i y q
    rw [q] at e
    exact congrArg some e
  · rename_i q
    rw [q] at e
    have a : es.toList.any (·.refKey) = false := by
      rw [List.any_eq_false]
      intro y hy
      obtain ⟨z, t, hkey⟩ := hk y (Array.mem_toList_iff.mp hy)
      simp [DictEntry.refKey, hkey]
    have a' : ¬ es.toList.any (·.refKey) = true := by rw [a]; exact Bool.false_ne_true
    rw [if_neg a']
    exact congrArg some e
theorem ObjM.look {h : Heap} {x dx C : Addr} {mA : Str → Option Value} (I : ObjM h x dx C mA) : ∃ od, PySem.W.InstAt h x (PySem.W.instObj C dx) C (some od) ∧ ∀ name, PySem.W.lookIn name od = some (mA name) :=
  let ⟨od, ho, hl⟩ := lookIn_ns I.ns
  ⟨od, ⟨I.obj, rfl, rfl, ho⟩, hl⟩
section
variable {prog : Program} {w : World} {A : Around} {E : Value → Shared → Prop} {s : Shared} {K : PySem.W.Frag} {x dx C f : Addr} {mA : Str → Option Value} {name : Str} {v : Value}
theorem get_map {expr : Bool} {Q : Value → Shared → Prop} (X : K.In s.heap) (I : ObjM s.heap x dx C mA) (hg : PySem.W.plainGet K C name = true) (hh : PySem.W.hasDictIn K C = true)
    (ha : PySem.W.findIn K (.ref C) name = some none) (hv : mA name = some v) (hv' : PySem.W.handedIn v = true) (h : Q v { s with toks := s.toks + 1 }) :
    wpAny (model prog w) A (getAttr (.ref x) name expr) Q E s := by
  obtain ⟨od, J, hl⟩ := I.look
  exact PySem.W.get_value X J (PySem.W.plainGet_of hg).1 (PySem.W.findObj_own hh ha rfl (by rw [hl, hv])) hv' h
theorem get_meth {pl : Sem Bool} {Q : Value × List Value → Shared → Prop} (X : K.In s.heap) (I : ObjM s.heap x dx C mA) (hg : PySem.W.plainGet K C name = true)
    (hf : PySem.W.findIn K (.ref C) name = some (some (.ref f))) (ht : PySem.W.isFn K (.ref f) = true) (hv : mA name = none) (h : Q (.ref f, [.ref x]) s) :
    wpAny (model prog w) A (getMethod (.ref x) name pl) Q E s := by
  obtain ⟨od, J, hl⟩ := I.look
  exact PySem.W.method_fn X J (PySem.W.plainGet_of hg).1 (PySem.W.plainGet_of hg).2 hf (beq_iff_eq.mp ht) (by show (PySem.W.lookIn name od).map (·.isSome) = some false; rw [hl, hv]; rfl) h
theorem set_map {ns : List Str} {Q : Unit → Shared → Prop} (X : K.In s.heap) (I : ObjM s.heap x dx C mA)
    (hs : PySem.W.findIn K (.ref C) "__setattr__" = some (some (.builtin "object.__setattr__"))) (hp : PySem.W.plainOver K C = true) (ht : PySem.W.takerIn K C name = some none) (hh : PySem.W.hasDictIn K C = true)
    (hw : PySem.Within mA ns) (hsz : ns.length ≤ sizeLine)
    (h : ∀ h', ObjM h' x dx C (fun y => if y = name then some v else mA y) → Heap.SameBut dx s.heap h' → Q () { s with heap := h', toks := s.toks + 2 }) :
    wpAny (model prog w) A (setAttr (.ref x) name v) Q E s := by
  obtain ⟨od, J, hl⟩ := I.look
  refine PySem.W.set_plain X J hs (PySem.W.osa_open (s := { s with toks := s.toks + 1 }) (r := none) X J hp ht fun b => ?_)
  obtain ⟨cd, hc, hd'⟩ := PySem.W.any_some hh
  have hx : s.heap.get? x = some ⟨.ref C, some dx, .plain, #[]⟩ := I.obj
  refine wpAny_bind (wpAny_pure (wpAny_bind (wpAny_bind (wpAny_loadPart hx (wpAny_bind (PySem.W.Looks.here (s := { s with toks := s.toks + 1 }) (PySem.W.looks_clsIn X hc) ?_))))))
  rw [hd']
  refine wpAny_pure (a := some dx) (wpAny_bind (wpAny_pure (wpAny_bind ?_)))
  refine wpAny_nsSet1 (s := { s with toks := s.toks + 1 }) I.ns fun h' hn2 hs2 => ?_
  obtain ⟨oD, esD, epD, hoD, hdD, hcD⟩ := hn2.count (PySem.Within.cons name v hw)
  refine wpAny_bind (wpAny_lookBehind hoD (by rw [hdD]; exact pastItsLine_dict (Nat.le_trans hcD (by rw [List.length_cons]; omega))) ?_)
  exact wpAny_pure (h _ ⟨(hs2.2 _ (Ne.symm I.ne)).trans I.obj, hn2, I.ne⟩ hs2)
theorem make_map {R : Result → Shared → Prop} {vs : List Value} {kw : List (Str × Value)} (X : K.In s.heap) (hm : PySem.W.makesIn K C = true)
    (hi : PySem.W.findIn K (.ref C) "__init__" = some (some (.ref f))) (hf : PySem.W.typeIn K (.ref f) = some (.type "function"))
    (h : codeAny (model prog w) (A.under (.builtin "type.__call__" ⟨.ref C :: vs, kw⟩)) (.call (.ref f) ⟨.ref (s.heap.objs.size + 1) :: vs, kw⟩) (PySem.W.InitBack (s.heap.objs.size + 1) R)
      { s with heap := (s.heap.push PySem.W.emptyDict).push (PySem.W.instObj C s.heap.objs.size) }) :
    codeAny (model prog w) A (.call (.ref C) ⟨vs, kw⟩) R s := by
  obtain ⟨hh, g, d, t, os⟩ := s
  exact PySem.W.make_core (PySem.W.makes_of X hm) (PySem.W.looks_findIn X hi) (fun self => PySem.W.bind_fn X self hf) (.inl rfl) h
end
def putF (f : Str) (v : V) : List (Str × V) → List (Str × V)
  | [] => [(f, v)]
  | (g, x) :: r => if g = f then (g, v) :: r else (g, x) :: putF f v r
theorem lookup_putF (f g : Str) (v : V) : ∀ fs : List (Str × V), (putF f v fs).lookup g = if g = f then some v else fs.lookup g
  | [] => by
    show List.lookup g [(f, v)] = _
    by_cases h : g = f
    · have hb : (g == f) = true := beq_iff_eq.mpr h
      simp only [List.lookup, hb, if_pos h]
    · have hb : (g == f) = false := beq_eq_false_iff_ne.mpr h
      simp only [List.lookup, hb, if_neg h]
  | (k, x) :: r => by
    have ih := lookup_putF f g v r
    rw [show putF f v ((k, x) :: r) = (if k = f then (k, v) :: r else (k, x) :: putF f v r) from rfl]
    by_cases hk : k = f
    · rw [if_pos hk]
      by_cases h : g = k
      · have hb : (g == k) = true := beq_iff_eq.mpr h
        simp only [List.lookup, hb, if_pos (h.trans hk)]
      · have hb : (g == k) = false := beq_eq_false_iff_ne.mpr h
        simp only [List.lookup, hb, if_neg (fun e : g = f => h (e.trans hk.symm))]
    · rw [if_neg hk]
      by_cases h : g = k
      · have hb : (g == k) = true := beq_iff_eq.mpr h
        simp only [List.lookup, hb, if_neg (fun e : g = f => hk (h.symm.trans e))]
      · have hb : (g == k) = false := beq_eq_false_iff_ne.mpr h
        simp only [List.lookup, hb]
        exact ih
theorem keys_putF (f : Str) (v : V) : ∀ fs : List (Str × V), f ∈ (putF f v fs).map (·.1) ∧ ∀ g, g ∈ fs.map (·.1) → g ∈ (putF f v fs).map (·.1)
  | [] => ⟨by simp [putF], fun g h => by simp at h⟩
  | (k, x) :: r => by
    obtain ⟨i1, i2⟩ := keys_putF f v r
    rw [show putF f v ((k, x) :: r) = (if k = f then (k, v) :: r else (k, x) :: putF f v r) from rfl]
    by_cases hk : k = f
    · rw [if_pos hk]
      subst hk
      exact ⟨by simp, fun g h => by simpa using h⟩
    · rw [if_neg hk]
      refine ⟨?_, fun g h => ?_⟩
      · rw [List.map_cons]
        exact List.mem_cons_of_mem _ i1
      · rw [List.map_cons] at h ⊢
        rcases List.mem_cons.mp h with e | e
        · exact List.mem_cons.mpr (.inl e)
        · exact List.mem_cons_of_mem _ (i2 g e)
theorem length_putF (f : Str) (v : V) : ∀ fs : List (Str × V), (putF f v fs).length ≤ fs.length + 1
  | [] => by simp [putF]
  | (k, x) :: r => by
    have ih := length_putF f v r
    rw [show putF f v ((k, x) :: r) = (if k = f then (k, v) :: r else (k, x) :: putF f v r) from rfl]
    by_cases hk : k = f
    · rw [if_pos hk, List.length_cons, List.length_cons]; omega
    · rw [if_neg hk, List.length_cons, List.length_cons]; omega
theorem RelO.some_of {v : V} {o : Option Value} (r : RelO (some v) o) : ∃ u, o = some u ∧ RelV v u := by
  cases o with
  | none => exact (show False from r).elim
  | some u => exact ⟨u, rfl, r⟩
theorem RelO.none_of {o : Option Value} (r : RelO none o) : o = none := by
  cases o with
  | none => rfl
  | some u => exact (show False from r).elim
theorem handed_of {v : V} {u : Value} (r : RelV v u) : PySem.W.handedIn u = true := by
  cases v with
  | non => cases (show u = Value.none from r); rfl
  | bl b => cases (show u = Value.bool b from r); rfl
  | int i => obtain ⟨t, e⟩ := (show ∃ t, u = Value.int i t from r); cases e; rfl
  | str x => obtain ⟨t, e⟩ := (show ∃ t, u = Value.str x t from r); cases e; rfl
  | byt b => obtain ⟨t, e⟩ := (show ∃ t, u = Value.bytes b t from r); cases e; rfl
  | flt b => obtain ⟨t, e⟩ := (show ∃ t, u = Value.float b t from r); cases e; rfl
  | ref a => cases (show u = Value.ref a from r); rfl
  | ty n => cases (show u = Value.type n from r); rfl
section
variable {P : Program} {w : World} {H H' : Hp} {h h' : Heap} {a C dx : Addr} {fs fs' : List (Str × V)}
theorem ins_get (hok : HOk P w H h) (e : H a = some (.ins C dx fs)) : ∃ mA, ObjM h a dx C mA ∧ (∀ f, RelO (fs.lookup f) (mA f)) ∧ PySem.Within mA (fs.map (·.1)) ∧ fs.length ≤ 1000 ∧ H dx = some (.own a) := by
  obtain ⟨d, z, ne, ob, mA, n, r, q⟩ := (show ObjOk P w H h a (.ins C dx fs) from hok a _ e)
  exact ⟨mA, ⟨ob, n, ne⟩, r, q, z, d⟩
end
structure Cls (K : PySem.W.Frag) (C : Addr) : Prop where
  pg : PySem.W.plainGet K C Str.empty = true
  hd : PySem.W.hasDictIn K C = true
  po : PySem.W.plainOver K C = true
  sa : PySem.W.findIn K (.ref C) "__setattr__" = some (some (.builtin "object.__setattr__"))
theorem Cls.get {K : PySem.W.Frag} {C : Addr} (c : Cls K C) (f : Str) : PySem.W.plainGet K C f = true := c.pg
def NoAttr (K : PySem.W.Frag) (C : Addr) (f : Str) : Prop := PySem.W.findIn K (.ref C) f = some none
theorem NoAttr.taker {K : PySem.W.Frag} {C : Addr} {f : Str} (n : NoAttr K C f) : PySem.W.takerIn K C f = some none := by
  unfold PySem.W.takerIn
  rw [show PySem.W.findIn K (.ref C) f = some none from n]
  rfl
structure Con (K : PySem.W.Frag) (C : Addr) (f : Str) (v : V) (u : Value) : Prop where
  at_ : PySem.W.findIn K (.ref C) f = some (some u)
  rel : RelV v u
  get : PySem.W.specialIn K u "__get__" = some none
  cp : PySem.W.copiedNames.contains f = false
structure Meth (K : PySem.W.Frag) (C : Addr) (m : Str) (f : Addr) : Prop where
  at_ : PySem.W.findIn K (.ref C) m = some (some (.ref f))
  fn : PySem.W.isFn K (.ref f) = true
  kp : PySem.W.keepIn K (.ref f) = true
section
variable {X : Cx} {pins : List (Addr × Obj)} {σ : St} {H : Hp} {s : Shared} {a C dx : Addr} {fs : List (Str × V)} {f : Str} {v : V} {A : Around} {E : Value → Shared → Prop}
theorem getattr_ok {b : Bool} {Q : Value → Shared → Prop} (I : Inv X pins σ H s) (e : H a = some (.ins C dx fs)) (c : Cls X.K C) (n : NoAttr X.K C f) (l : fs.lookup f = some v)
    (h : ∀ u s', Inv X pins σ H s' → RelV v u → Q u s') : wpAny (model X.prog X.w) A (getAttr (.ref a) f b) Q E s := by
  obtain ⟨mA, O, r, _, _, _⟩ := ins_get I.hok e
  obtain ⟨u, hu, ru⟩ := RelO.some_of (v := v) (o := mA f) (by rw [← l]; exact r f)
  exact get_map I.kIn O (c.get f) c.hd n hu (handed_of ru) (h u _ (I.tok _) ru)
theorem getmeth_ok {m : Str} {g : Addr} {pl : Sem Bool} {Q : Value × List Value → Shared → Prop} (I : Inv X pins σ H s) (e : H a = some (.ins C dx fs)) (c : Cls X.K C) (k : Meth X.K C m g) (l : fs.lookup m = none)
    (h : Q (.ref g, [.ref a]) s) : wpAny (model X.prog X.w) A (getMethod (.ref a) m pl) Q E s := by
  obtain ⟨mA, O, r, _, _, _⟩ := ins_get I.hok e
  have hn : mA m = none := RelO.none_of (by rw [← l]; exact r m)
  exact get_meth I.kIn O (c.get m) k.at_ k.fn hn h
theorem setattr_ok {y : V} {u : Value} {Q : Unit → Shared → Prop} (I : Inv X pins σ H s) (e : H a = some (.ins C dx fs)) (c : Cls X.K C) (n : NoAttr X.K C f) (hl : fs.length < 1000) (ry : RelV y u)
    (h : ∀ s', Inv X pins σ (upd H a (.ins C dx (putF f y fs))) s' → Q () s') : wpAny (model X.prog X.w) A (setAttr (.ref a) f u) Q E s := by
  obtain ⟨mA, O, r, wi, _, ho⟩ := ins_get I.hok e
  have hz : (fs.map (·.1)).length ≤ sizeLine := by rw [List.length_map, sizeLine_eq]; omega
  refine set_map I.kIn O c.sa c.po n.taker c.hd wi hz fun h' O' sb => h _ ?_
  have hd : ∃ o, h'.get? dx = some o := let ⟨o, _, _, e', _⟩ := O'.ns; ⟨o, e'⟩
  refine I.write (x := a) (e := dx) (by rw [e]; exact True.intro) (.inr ho) (fun b q hb z => (sb.2 b hb).trans z) hd ?_
  refine ⟨by rw [upd_ne O.ne]; exact ho, ?_, O.ne, O'.obj, _, O'.ns, fun g => ?_, fun g hg => ?_⟩
  · have := length_putF f y fs; omega
  · show RelO ((putF f y fs).lookup g) (if g = f then some u else mA g)
    rw [lookup_putF]
    by_cases q : g = f
    · rw [if_pos q, if_pos q]; exact ry
    · rw [if_neg q, if_neg q]; exact r g
  · by_cases q : g = f
    · rw [q]; exact (keys_putF f y fs).1
    · refine (keys_putF f y fs).2 g (wi g fun z => hg ?_)
      show (if g = f then some u else mA g) = none
      rw [if_neg q]; exact z
theorem Inv.made (I : Inv X pins σ H s) : Inv X pins σ (upd (upd H s.heap.objs.size (.own (s.heap.objs.size + 1))) (s.heap.objs.size + 1) (.ins C s.heap.objs.size []))
    { s with heap := (s.heap.push PySem.W.emptyDict).push (PySem.W.instObj C s.heap.objs.size) } := by
  have e1 : (s.heap.push PySem.W.emptyDict).get? s.heap.objs.size = some PySem.W.emptyDict := Heap.get?_push_size s.heap rfl
  have e2 : ((s.heap.push PySem.W.emptyDict).push (PySem.W.instObj C s.heap.objs.size)).get? (s.heap.objs.size + 1) = some (PySem.W.instObj C s.heap.objs.size) := by
    have := Heap.get?_push_size (s.heap.push PySem.W.emptyDict) (o := PySem.W.instObj C s.heap.objs.size) rfl
    rwa [Heap.size_push] at this
  have e3 : (s.heap.push PySem.W.emptyDict).Ns s.heap.objs.size (fun _ => none) := ⟨PySem.W.emptyDict, #[], _, e1, rfl, (fun e he => absurd he (by simp)), fun _ => rfl⟩
  have I1 := I.laid (a := s.heap.objs.size) (o := .own (s.heap.objs.size + 1)) (h' := s.heap.push PySem.W.emptyDict) (t' := s.toks) (fun b u q => Heap.get?_push_of_some _ q) (Nat.le_refl _) ⟨_, e1⟩
  refine I1.laid (a := s.heap.objs.size + 1) (o := .ins C s.heap.objs.size []) (t' := s.toks) (fun b u q => Heap.get?_push_of_some _ q) (Nat.le_of_eq (Heap.size_push _ _)) ?_
  have ne : s.heap.objs.size ≠ s.heap.objs.size + 1 := Nat.ne_of_lt (Nat.lt_succ_self _)
  refine ⟨by rw [upd_ne ne, upd_same], Nat.zero_le _, ne, e2, fun _ => none, (Heap.Ns1.of_empty e3).at fun o q => Heap.get?_push_of_some _ q, fun _ => True.intro, fun y hy => absurd rfl hy⟩
theorem attr_of {prog : Program} {w : World} {env : Env} {e : Expr} {f : Str} {pos : Pos} {s : Shared} {Q : Value → Shared → Prop} (hb : attributeBase e f env (eval e env) = eval e env)
    (h : wpAny (model prog w) A (eval e env) (fun o s₁ => wpAny (model prog w) A (getAttr o f true) Q E s₁) E s) : wpAny (model prog w) A (eval (.Attribute e f pos) env) Q E s :=
  Attribute_any_ h (by rw [arm_eval_Attribute, hb])
end
def tFld (K : PySem.W.Frag) (ta : TE) (f : Str) : TE := fun σ H Q => ta σ H fun x H1 => ∃ a C dx fs v, x = .ref a ∧ H1 a = some (.ins C dx fs) ∧ Cls K C ∧ NoAttr K C f ∧ fs.lookup f = some v ∧ Q v H1
def tCon (K : PySem.W.Frag) (ta : TE) (f : Str) : TE := fun σ H Q => ta σ H fun x H1 => ∃ a C dx fs v u, x = .ref a ∧ H1 a = some (.ins C dx fs) ∧ Cls K C ∧ Con K C f v u ∧ fs.lookup f = none ∧ Q v H1
def sFld (K : PySem.W.Frag) (ta tv : TE) (f : Str) : TS := fun D σ H => tv σ H fun y H1 => ta σ H1 fun x H2 => ∃ a C dx fs, x = .ref a ∧ H2 a = some (.ins C dx fs) ∧ Cls K C ∧ NoAttr K C f ∧ fs.length < 1000 ∧
  D.nx σ (upd H2 a (.ins C dx (putF f y fs)))
def InOp (X : Cx) (op : Operator) (rd : V → V → Hp → VK → Prop) : Prop :=
  ∀ (pins : List (Addr × Obj)) (s : Shared) (σ : St) (H : Hp) (x y : V) (u v : Value) (Q : VK), Inv X pins σ H s → RelV x u → RelV y v → rd x y H Q → wpAny (model X.prog X.w) X.A (inplaceOp op u v) (EP X pins σ Q) X.xe s
def sFldAug (K : PySem.W.Frag) (ta tv : TE) (rd : V → V → Hp → VK → Prop) (f : Str) : TS := fun D σ H => ta σ H fun x H1 => ∃ a C dx fs v, x = .ref a ∧ H1 a = some (.ins C dx fs) ∧ Cls K C ∧ NoAttr K C f ∧ fs.lookup f = some v ∧
  tv σ H1 fun y H2 => rd v y H2 fun z H3 => ∃ dx' fs', H3 a = some (.ins C dx' fs') ∧ fs'.length < 1000 ∧ D.nx σ (upd H3 a (.ins C dx' (putF f z fs')))
section
variable {X : Cx} {o e value : Expr} {f : Str} {pos pos' tpos : Pos} {ta tv : TE}
theorem pe_fld (he : PE X e ta) (hb : attributeBase e f X.env (eval e X.env) = eval e X.env) : PE X (.Attribute e f pos) (tFld X.K ta f) := by
  intro pins s σ H Q I h
  refine attr_of hb (thn (he pins s σ H _ I h) fun u s1 ⟨x, H1, I1, rx, a, C, dx, fs, v, ex, ea, c, n, l, q⟩ => ?_)
  subst ex
  obtain rfl : u = Value.ref a := rx
  exact getattr_ok I1 ea c n l fun u' s2 I2 ru => ⟨v, H1, I2, ru, q⟩
theorem ps_fld (ha : PE X o ta) (hv : PE X value tv) (hs : swapsWith value (some (.Attribute o f pos')) pos.line X.env = pure false) : PS X (.Assign [.Attribute o f pos'] value pos) (sFld X.K ta tv f) := by
  intro pins s σ H D I h
  refine plainObj_wpAny_Assign_Attribute (thn (hv pins s σ H _ I h) fun u s1 ⟨y, H1, I1, ry, q⟩ => thn (ha pins s1 σ H1 _ I1 q) fun ov s2 ⟨x, H2, I2, rx, a, C, dx, fs, ex, ea, c, n, l, q2⟩ => ?_) hs
  subst ex
  obtain rfl : ov = Value.ref a := rx
  exact setattr_ok I2 ea c n l ry fun s3 I3 => ⟨σ, _, I3, q2⟩
theorem ps_fldaug {op : Operator} {rd : V → V → Hp → VK → Prop} (ha : PE X o ta) (hv : PE X value tv) (hop : InOp X op rd) : PS X (.AugAssign (.Attribute o f tpos) op value pos) (sFldAug X.K ta tv rd f) := by
  intro pins s σ H D I h
  refine wpAny_AugAssign_AttributeAny (thn (ha pins s σ H _ I h) fun ov s1 ⟨x, H1, I1, rx, a, C, dx, fs, v, ex, ea, c, n, l, q⟩ => ?_)
  subst ex
  obtain rfl : ov = Value.ref a := rx
  refine getattr_ok I1 ea c n l fun u s2 I2 ru => thn (hv pins s2 σ H1 _ I2 q) fun w3 s3 ⟨y, H2, I3, ry, q3⟩ => thn (hop pins s3 σ H2 v y u w3 _ I3 ru ry q3) fun w4 s4 ⟨z, H3, I4, rz, dx', fs', ea', l', q4⟩ => ?_
  exact setattr_ok I4 ea' c n l' rz fun s5 I5 => ⟨σ, _, I5, q4⟩
def rAdd : V → V → Hp → VK → Prop := fun x y H Q => ∃ i j, x = .int i ∧ y = .int j ∧ Q (.int (i + j)) H
def rSub : V → V → Hp → VK → Prop := fun x y H Q => ∃ i j, x = .int i ∧ y = .int j ∧ Q (.int (i - j)) H
theorem in_add : InOp X .Add rAdd := by
  rintro pins s σ H x y u v Q I rx ry ⟨i, j, rfl, rfl, q⟩
  obtain ⟨t, rfl⟩ := (show ∃ t, u = Value.int i t from rx)
  obtain ⟨t', rfl⟩ := (show ∃ t', v = Value.int j t' from ry)
  exact PyProof.Rows.iadd_int ⟨.int (i + j), H, I.tok _, ⟨_, rfl⟩, q⟩
theorem in_sub : InOp X .Sub rSub := by
  rintro pins s σ H x y u v Q I rx ry ⟨i, j, rfl, rfl, q⟩
  obtain ⟨t, rfl⟩ := (show ∃ t, u = Value.int i t from rx)
  obtain ⟨t', rfl⟩ := (show ∃ t', v = Value.int j t' from ry)
  exact PyProof.Rows.isub_int ⟨.int (i - j), H, I.tok _, ⟨_, rfl⟩, q⟩
end
section
variable {X : Cx} {pins : List (Addr × Obj)} {σ : St} {H : Hp} {s : Shared} {A : Around} {E : Value → Shared → Prop} {Q : Value → Shared → Prop} {c : Value} {b : Bool}
inductive TyOf (K : PySem.W.Frag) (H : Hp) : V → Value → Prop where
  | non : TyOf K H .non (.type "NoneType")
  | bl (x : Bool) : TyOf K H (.bl x) (.type "bool")
  | int (i : Int) : TyOf K H (.int i) (.type "int")
  | str (x : Str) : TyOf K H (.str x) (.type "str")
  | flt (x : UInt64) : TyOf K H (.flt x) (.type "float")
  | lst {a : Addr} {xs : List V} (e : H a = some (.lst xs)) : TyOf K H (.ref a) (.type "list")
  | frz {a : Addr} {o : Obj} {xs : List V} (e : H a = some (.frz o (.lst xs))) : TyOf K H (.ref a) (.type "list")
  | tup {a : Addr} {xs : List V} (e : H a = some (.tup xs)) : TyOf K H (.ref a) (.type "tuple")
  | dK {a : Addr} {kvs : List (Key × V)} (e : H a = some (.dK kvs)) : TyOf K H (.ref a) (.type "dict")
  | dT {a : Addr} {kvs : List (List Key × V)} (e : H a = some (.dT kvs)) : TyOf K H (.ref a) (.type "dict")
  | ins {a C dx : Addr} {fs : List (Str × V)} (e : H a = some (.ins C dx fs)) (cl : Cls K C) (ha : PySem.W.findIn K (.ref C) "__class__" = some (some (.builtin "object.__class__")))
      (hn : PySem.W.specialIn K (.builtin "object.__class__") "__get__" = some (some (.builtin "getset_descriptor.__get__"))) (htk : PySem.W.takesIn K (.builtin "object.__class__") = some true)
      (hm : PySem.W.mroIn K C (.type "object") = some true) : TyOf K H (.ref a) (.ref C)
theorem isinst_ok {x : V} {u t : Value} (I : Inv X pins σ H s) (rx : RelV x u) (ty : TyOf X.K H x t) (e : PySem.W.kitOne X.K t c = some b) (h : ∀ tk, Q (.bool b) { s with toks := tk }) :
    wpAny (model X.prog X.w) A (call (.builtin "isinstance") [u, c]) Q E s := by
  cases ty with
  | non => cases (show u = Value.none from rx); exact PySem.W.kia_one PySem.W.kitx_none I.kIn True.intro e (fun z => nomatch z) h
  | bl y => cases (show u = Value.bool y from rx); exact PySem.W.kia_one PySem.W.kitx_bool I.kIn True.intro e (fun z => nomatch z) h
  | int i => obtain ⟨t, q⟩ := (show ∃ t, u = Value.int i t from rx); cases q; exact PySem.W.kia_one PySem.W.kitx_int I.kIn True.intro e (fun z => nomatch z) h
  | str y => obtain ⟨t, q⟩ := (show ∃ t, u = Value.str y t from rx); cases q; exact PySem.W.kia_one PySem.W.kitx_str I.kIn True.intro e (fun z => nomatch z) h
  | flt y => obtain ⟨t, q⟩ := (show ∃ t, u = Value.float y t from rx); cases q; exact PySem.W.kia_one PySem.W.kitx_float I.kIn True.intro e (fun z => nomatch z) h
  | @lst a xs ea =>
    cases (show u = Value.ref a from rx)
    obtain ⟨_, _, n, _, h1⟩ := (show ObjOk X.prog X.w H s.heap a (.lst xs) from I.hok a _ ea)
    exact PySem.W.kia_one PySem.W.kitx_list I.kIn ⟨_, h1, rfl⟩ e (fun z => nomatch z) h
  | @frz a ob xs ea =>
    cases (show u = Value.ref a from rx)
    obtain ⟨_, _, _, n, _, h1⟩ := (show ObjOk X.prog X.w H s.heap a (.frz ob (.lst xs)) from I.hok a _ ea)
    exact PySem.W.kia_one PySem.W.kitx_list I.kIn ⟨_, h1, rfl⟩ e (fun z => nomatch z) h
  | @tup a xs ea =>
    cases (show u = Value.ref a from rx)
    obtain ⟨_, _, _, p⟩ := (show ObjOk X.prog X.w H s.heap a (.tup xs) from I.hok a _ ea)
    obtain ⟨o, h1, h2, _⟩ := p
    exact PySem.W.kia_one PySem.W.kitx_tuple I.kIn ⟨o, h1, h2⟩ e (fun z => nomatch z) h
  | @dK a kvs ea =>
    cases (show u = Value.ref a from rx)
    obtain ⟨_, _, vs, _, p⟩ := (show ObjOk X.prog X.w H s.heap a (.dK kvs) from I.hok a _ ea)
    obtain ⟨o, es, ep, h1, h2, _⟩ := p
    exact PySem.W.kia_one PySem.W.kitx_dict I.kIn ⟨o, h1, h2.1⟩ e (fun z => nomatch z) h
  | @dT a kvs ea =>
    cases (show u = Value.ref a from rx)
    obtain ⟨_, _, xs, _, o, es, ep, h1, h2, _⟩ := (show ObjOk X.prog X.w H s.heap a (.dT kvs) from I.hok a _ ea)
    exact PySem.W.kia_one PySem.W.kitx_dict I.kIn ⟨o, h1, h2.1⟩ e (fun z => nomatch z) h
  | @ins a C dx fs ea cl ha hn htk hm =>
    cases (show u = Value.ref a from rx)
    obtain ⟨mA, O, _⟩ := ins_get I.hok ea
    obtain ⟨od, J, _⟩ := O.look
    exact PySem.W.kia_one (PySem.W.kitx_own (cl.get _) cl.hd ha hn htk hm) I.kIn J e (fun z => nomatch z) h
end
end L2
namespace L2
open PySem PySem.Spec PyProof.Rows
structure Room (k : Nat) (A : Around) : Prop where
  hd : A.handled = none
  dp : A.depth + 3 * k + 5 < recursionLimit
  un : A.units + 16 * k + 200 < cLine
  gd : A.guards = some []
theorem Room.mono {j k : Nat} {A : Around} (r : Room k A) (h : j ≤ k) : Room j A := ⟨r.hd, by have := r.dp; omega, by have := r.un; omega, r.gd⟩
theorem Room.deeper {k : Nat} {A : Around} (r : Room (k + 1) A) (env : Env) : Room k (A.deeper env) :=
  ⟨r.hd, by have := r.dp; show A.depth + 1 + 3 * k + 5 < _; omega, by have := r.un; show A.units + 3 + 16 * k + 200 < _; omega, r.gd⟩
theorem Room.in1 {k : Nat} {A : Around} (r : Room (k + 1) A) : Room k A.in1 :=
  ⟨r.hd, by have := r.dp; show A.depth + 3 * k + 5 < _; omega, by have := r.un; show A.units + 1 + 16 * k + 200 < _; omega, r.gd⟩
theorem make_depth {A : Around} {C : Addr} {us : List Value} {kw : List (Str × Value)} : (A.under (.builtin "type.__call__" ⟨.ref C :: us, kw⟩)).depth = A.depth + 1 := by
  first | rfl | simp [Around.under, Code.weight, Code.isCreation, Code.isGuard, Code.isCaller, Code.frames, Code.isFrame, guardIds]
theorem make_units {A : Around} {C : Addr} {us : List Value} {kw : List (Str × Value)} : (A.under (.builtin "type.__call__" ⟨.ref C :: us, kw⟩)).units = A.units + 1 := by
  first | rfl | simp [Around.under, Code.cUnits, Code.frames, Code.isFrame]
theorem Room.make {k : Nat} {A : Around} (r : Room (k + 1) A) (C : Addr) (us : List Value) (kw : List (Str × Value)) : Room k (A.under (.builtin "type.__call__" ⟨.ref C :: us, kw⟩)) :=
  ⟨r.hd, by have := r.dp; rw [make_depth]; omega, by have := r.un; rw [make_units]; omega, by
    have q := r.gd
    first | exact q | simpa [Around.under, Code.guards, Code.isGuard, guardIds, pushGuards] using q⟩
theorem Room.depth {k : Nat} {A : Around} (r : Room k A) : A.depth < recursionLimit := by have := r.dp; omega
theorem Room.units {k : Nat} {A : Around} (r : Room k A) : A.units + 64 < cLine := by have := r.un; omega
def tNil : TA := fun _ H Q => Q [] H
def tCons (ta : TE) (tr : TA) : TA := fun σ H Q => ta σ H fun x H1 => tr σ H1 fun xs H2 => Q (x :: xs) H2
section
variable {X : Cx} {e : Expr} {es : List Expr} {te : TE} {t : TA} {pos : Pos}
theorem pa_nil : PA X [] tNil := fun _ _ _ _ H Q I h => Calls.spliced_nil ⟨[], H, I, .nil, h⟩
theorem pa_cons (ha : PE X e te) (hr : PA X es t) (hs : starEach (e :: es) X.env = (false, eval e X.env) :: starEach es X.env := by rfl) : PA X (e :: es) (tCons te t) := by
  intro pos pins s σ H Q I h
  rw [hs]
  show wpAny _ _ (spliced ((false, eval e X.env) :: backTo pos (starEach es X.env))) _ _ s
  refine Calls.spliced_cons (thn (ha pins s σ H _ I h) fun u s1 ⟨x, H1, I1, r1, q1⟩ => ?_)
  exact thn (hr pos pins s1 σ H1 _ I1 q1) fun us s2 ⟨xs, H2, I2, r2, q2⟩ => ⟨x :: xs, H2, I2, .cons r1 r2, q2⟩
def tTup (t : TA) : TE := fun σ H Q => t σ H fun xs H1 => xs.length ≤ sizeLine ∧ ∀ p, H1 p = none → Q (.ref p) (upd H1 p (.tup xs))
def tLst (t : TA) : TE := fun σ H Q => t σ H fun xs H1 => xs.length ≤ sizeLine ∧ ∀ p, H1 p = none → Q (.ref p) (upd H1 p (.lst xs))
theorem pe_tup {x1} (h : PA X es t) : PE X (.Tuple es x1 pos) (tTup t) := by
  intro pins s σ H Q I hq
  refine wpAny_Tuple_spliced (thn (h pos pins s σ H _ I hq) fun us s1 ⟨xs, H1, I1, r, z, q⟩ => ⟨by rw [← r.length]; exact z, ?_⟩)
  have hf : H1 s1.heap.objs.size = none := I1.hok.fresh (Nat.le_refl _)
  refine ⟨.ref s1.heap.objs.size, upd H1 s1.heap.objs.size (.tup xs), I1.laid (t' := s1.toks) (fun b u e => Heap.get?_push_of_some _ e) (Nat.le_refl _) ?_, rfl, q _ hf⟩
  exact ⟨z, us, r, ⟨_, Heap.get?_push_size _ rfl, rfl, rfl, _, rfl⟩⟩
theorem pe_lst (h : PA X es t) : PE X (.List es pos) (tLst t) := by
  intro pins s σ H Q I hq
  refine wpAny_List_spliced (thn (h pos pins s σ H _ I hq) fun us s1 ⟨xs, H1, I1, r, z, q⟩ => ⟨by rw [← r.length]; exact z, ?_⟩)
  have hf : H1 s1.heap.objs.size = none := I1.hok.fresh (Nat.le_refl _)
  refine ⟨.ref s1.heap.objs.size, upd H1 s1.heap.objs.size (.lst xs), I1.laid (t' := s1.toks) (fun b u e => Heap.get?_push_of_some _ e) (Nat.le_refl _) ?_, rfl, q _ hf⟩
  exact ⟨z, us, 0, r, Heap.get?_push_size _ rfl⟩
end
abbrev Sp := List V → Hp → VK → XK → Prop
abbrev CXT := List Env → Hp → Shared → XK → Value → Shared → Prop
structure Env0 (P : Program) (w : World) (K : PySem.W.Frag) (mg : Str → Option Value) (base : Heap) (A : Around) (outer : List Env) (s : Shared) (H : Hp) : Prop where
  frames : A.frames = some outer
  mod : Mod K mg base
  bs : ∀ b o, base.get? b = some o → s.heap.get? b = some o ∧ H b = none
  bsz : base.objs.size ≤ s.heap.objs.size
  funs : s.heap.FunFrames base outer
  frf : ∀ b ∈ frs outer, H b = none
  hok : HOk P w H s.heap
  bare : AllBare s.gens
def CE (outer : List Env) (P : Program) (w : World) (H : Hp) (s : Shared) (Q : VK) (u : Value) (s' : Shared) : Prop :=
  ∃ v H', s'.os = s.os ∧ AllBare s'.gens ∧ Un (frs outer) [] H H' s.heap s'.heap ∧ HOk P w H' s'.heap ∧ RelV v u ∧ Q v H'
def CR (CX : CXT) (outer : List Env) (P : Program) (w : World) (H : Hp) (s : Shared) (Q : VK) (E : XK) (r : Result) (s' : Shared) : Prop :=
  match r with
  | .ok (.ret u) => CE outer P w H s Q u s'
  | .ok _ => False
  | .error e => CX outer H s E e s'
structure FnOk (P : Program) (w : World) (K : PySem.W.Frag) (mg : Str → Option Value) (base : Heap) (CX : CXT) (k : Nat) (f : Addr) (fd : FuncData) (ps : List Str) (sp : Sp) : Prop where
  len : ∀ vs H Q E, sp vs H Q E → vs.length = ps.length
  run : ∀ (A : Around) (outer : List Env) (s : Shared) (H : Hp) (args : Args) (us : List Value) (vs : List V) (Q : VK) (E : XK), Room k A → Env0 P w K mg base A outer s H → BindsTo s fd args (ps.zip us) → Vals vs us → sp vs H Q E →
    codeAny (model P w) A (.call (.ref f) args) (CR CX outer P w H s Q E) s
theorem FnOk.mono {P : Program} {w : World} {K : PySem.W.Frag} {mg : Str → Option Value} {base : Heap} {CX : CXT} {j k : Nat} {f : Addr} {fd : FuncData} {ps : List Str} {sp : Sp} (F : FnOk P w K mg base CX j f fd ps sp) (h : j ≤ k) :
    FnOk P w K mg base CX k f fd ps sp := ⟨F.len, fun A outer s H args us vs Q E hr => F.run A outer s H args us vs Q E (hr.mono h)⟩
theorem FnOk.imp {P : Program} {w : World} {K : PySem.W.Frag} {mg : Str → Option Value} {base : Heap} {CX : CXT} {k : Nat} {f : Addr} {fd : FuncData} {ps : List Str} {sp sp' : Sp} (F : FnOk P w K mg base CX k f fd ps sp)
    (h : ∀ vs H Q E, sp' vs H Q E → sp vs H Q E) : FnOk P w K mg base CX k f fd ps sp' :=
  ⟨fun vs H Q E q => F.len vs H Q E (h _ _ _ _ q), fun A outer s H args us vs Q E hr he hb hv hs => F.run A outer s H args us vs Q E hr he hb hv (h _ _ _ _ hs)⟩
theorem Env0.make {P : Program} {w : World} {K : PySem.W.Frag} {mg : Str → Option Value} {base : Heap} {A : Around} {outer : List Env} {s : Shared} {H : Hp} (e : Env0 P w K mg base A outer s H) (C : Addr) (us : List Value) (kw : List (Str × Value)) :
    Env0 P w K mg base (A.under (.builtin "type.__call__" ⟨.ref C :: us, kw⟩)) outer s H := ⟨by first | exact e.frames | (simpa [Around.under, Code.envs, Code.isFrame, pushEnvs] using e.frames), e.mod, e.bs, e.bsz, e.funs, e.frf, e.hok, e.bare⟩
theorem Env0.in1 {P : Program} {w : World} {K : PySem.W.Frag} {mg : Str → Option Value} {base : Heap} {A : Around} {outer : List Env} {s : Shared} {H : Hp} (e : Env0 P w K mg base A outer s H) :
    Env0 P w K mg base A.in1 outer s H := ⟨e.frames, e.mod, e.bs, e.bsz, e.funs, e.frf, e.hok, e.bare⟩
section
variable {X : Cx} {pins : List (Addr × Obj)} {σ : St} {H : Hp} {s s' : Shared}
theorem Inv.env0 (I : Inv X pins σ H s) : Env0 X.prog X.w X.K X.mg X.base X.A X.stack s H :=
  ⟨I.ok.frames, I.ok.mod, I.bs, Nat.le_trans I.ok.bsz I.sz, I.stack, I.stkFree, I.hok, I.bare⟩
theorem Inv.after {Q : VK} {u : Value} (I : Inv X pins σ H s) (h : CE X.stack X.prog X.w H s Q u s') : EP X pins σ Q u s' := by
  obtain ⟨v, H', os, bare, un, hok, r, q⟩ := h
  obtain ⟨hh, g, d, t, os'⟩ := s'
  obtain rfl : os' = s.os := os
  exact ⟨v, H', I.call (h' := hh) (g' := g) (d' := d) (t' := t) (ch := []) un hok bare (fun b z => absurd z (by simp)), r, q⟩
end
def tCall (sp : Sp) (dvs : List V) (E : XK) (t : TA) : TE := fun σ H Q => t σ H fun vs H1 => sp (vs ++ dvs) H1 Q E
def tMeth (C : Addr) (m : Str) (sp : Sp) (dvs : List V) (E : XK) (ta : TE) (t : TA) : TE := fun σ H Q => ta σ H fun x H1 => ∃ a dx fs, x = .ref a ∧ H1 a = some (.ins C dx fs) ∧ fs.lookup m = none ∧
  t σ H1 fun vs H2 => sp (x :: (vs ++ dvs)) H2 Q E
def tMake (C : Addr) (sp : Sp) (dvs : List V) (E : XK) (t : TA) : TE := fun σ H Q => t σ H fun vs H1 => ∀ x dx, H1 x = none → H1 dx = none → dx ≠ x →
  sp (.ref x :: (vs ++ dvs)) (upd (upd H1 dx (.own x)) x (.ins C dx [])) (fun v H2 => v = .non ∧ Q (.ref x) H2) E
def Binds (K : PySem.W.Frag) (fd : FuncData) (ps : List Str) (ds : List Value) : Prop :=
  ∀ (s : Shared) (us : List Value), K.In s.heap → (us ++ ds).length = ps.length → BindsTo s fd ⟨us, []⟩ (ps.zip (us ++ ds))
theorem Binds.all {K : PySem.W.Frag} {fd : FuncData} {ps : List Str} (h : ∀ us : List Value, us.length = ps.length → bindArgs fd ⟨us, []⟩ = pure (ps.zip us)) : Binds K fd ps [] := fun s us _ hl => by
  rw [List.append_nil] at hl ⊢
  exact .of_eq (h us hl)
def Passes (CX : CXT) (X : Cx) (E : XK) : Prop := ∀ (pins : List (Addr × Obj)) (σ : St) (H : Hp) (s : Shared) (e : Value) (s' : Shared), Inv X pins σ H s → CX X.stack H s E e s' → X.xe e s'
section
variable {X : Cx} {CX : CXT} {k : Nat} {f C : Addr} {fd : FuncData} {ps : List Str} {sp : Sp} {dvs : List V} {ds : List Value} {E : XK} {x m : Str} {p pos apos : Pos} {e o : Expr} {es : List Expr} {ta : TE} {t : TA}
theorem run_fn {pins : List (Addr × Obj)} {σ : St} {H : Hp} {s : Shared} {Q : VK} {us : List Value} {vs : List V} (F : FnOk X.prog X.w X.K X.mg X.base CX k f fd ps sp) (hr : Room k X.A) (hb : Binds X.K fd ps ds) (hd : Vals dvs ds) (hx : Passes CX X E)
    (I : Inv X pins σ H s) (r : Vals vs us) (h : sp (vs ++ dvs) H Q E) : wpAny (model X.prog X.w) X.A (call (.ref f) us) (EP X pins σ Q) X.xe s := by
  have r2 : Vals (vs ++ dvs) (us ++ ds) := r.append hd
  have hl : (us ++ ds).length = ps.length := by rw [← r2.length]; exact F.len _ _ _ _ h
  refine wpAny_call (codeAny_mono (F.run X.A X.stack s H ⟨us, []⟩ (us ++ ds) (vs ++ dvs) Q E hr I.env0 (hb s us I.kIn hl) r2 h) fun r s' hq => ?_)
  cases r with
  | error e => exact hx pins σ H s e s' I hq
  | ok fl =>
    cases fl with
    | ret u => exact I.after hq
    | next => exact False.elim hq
    | brk => exact False.elim hq
    | cont => exact False.elim hq
theorem pe_call (F : FnOk X.prog X.w X.K X.mg X.base CX k f fd ps sp) (hr : Room k X.A) (hg : Gl X x) (hm : X.mg x = some (.ref f)) (hk : PySem.W.keepIn X.K (.ref f) = true) (hb : Binds X.K fd ps ds) (hd : Vals dvs ds) (hx : Passes CX X E)
    (ha : PA X (e :: es) t) (hdb : (x == ("__debug__" : Str)) = false := by decide) (he : starEach (e :: es) X.env = (false, eval e X.env) :: starEach es X.env := by rfl) (hpl : (backTo pos (starEach es X.env)).any (·.1) = false := by rfl) :
    PE X (.Call (.Name x p) (e :: es) [] pos) (tCall sp dvs E t) := by
  intro pins s σ H Q I h
  refine wpAny_Call_Name_kw (ld_glob I hg hm ?_ hdb)
  refine PySem.W.callWith_K (h₀ := X.base) I.ok.mod.kin hk (thn (ha pos pins s σ H _ I h) fun us s1 ⟨vs, H1, I1, r, q⟩ => ⟨I1.kIn, ?_⟩) he hpl
  exact run_fn F hr hb hd hx I1 r q
theorem pe_meth {pl : Sem Bool} (he : PE X o ta) (c : Cls X.K C) (hm : Meth X.K C m f) (F : FnOk X.prog X.w X.K X.mg X.base CX k f fd ps sp) (hr : Room k X.A) (hb : Binds X.K fd ps ds) (hd : Vals dvs ds) (hx : Passes CX X E) (ha : PA X (e :: es) t)
    (hst : starEach (e :: es) X.env = (false, eval e X.env) :: starEach es X.env := by rfl) (hpl : (backTo pos (starEach es X.env)).any (·.1) = false := by rfl)
    (ht : eval (.Call (.Attribute o m apos) (e :: es) [] pos) X.env = (do
      let ov ← eval o X.env
      standAt apos.atName
      let (f, first) ← holding [ov] (getMethod ov m pl)
      callWith pos f first (backTo pos (starEach (e :: es) X.env)) (backToKw pos (keywordEach [] X.env))) := by rfl) :
    PE X (.Call (.Attribute o m apos) (e :: es) [] pos) (tMeth C m sp dvs E ta t) := by
  intro pins s σ H Q I h
  refine PySem.W.methodCall_KW (pl := pl) (thn (he pins s σ H _ I h) fun u s1 ⟨x, H1, I1, rx, a, dx, fs, ex, ea, l, q⟩ => ?_) ht
  subst ex
  obtain rfl : u = Value.ref a := rx
  refine getmeth_ok I1 ea c hm l ?_
  refine PySem.W.callWith_K (first := [.ref a]) (h₀ := X.base) I.ok.mod.kin hm.kp (thn (ha pos pins s1 σ H1 _ I1 q) fun us s2 ⟨vs, H2, I2, r, q2⟩ => ⟨I2.kIn, ?_⟩) hst hpl
  exact run_fn (us := .ref a :: us) (vs := .ref a :: vs) F hr hb hd hx I2 (.cons rfl r) q2
theorem pe_meth0 {pl : Sem Bool} (he : PE X o ta) (c : Cls X.K C) (hm : Meth X.K C m f) (F : FnOk X.prog X.w X.K X.mg X.base CX k f fd ps sp) (hr : Room k X.A) (hb : Binds X.K fd ps ds) (hd : Vals dvs ds) (hx : Passes CX X E)
    (ht : eval (.Call (.Attribute o m apos) [] [] pos) X.env = (do
      let ov ← eval o X.env
      standAt apos.atName
      let (f, first) ← holding [ov] (getMethod ov m pl)
      callWith pos f first (backTo pos (starEach [] X.env)) (backToKw pos (keywordEach [] X.env))) := by rfl) :
    PE X (.Call (.Attribute o m apos) [] [] pos) (tMeth C m sp dvs E ta tNil) := by
  intro pins s σ H Q I h
  refine PySem.W.methodCall_KW (pl := pl) (thn (he pins s σ H _ I h) fun u s1 ⟨x, H1, I1, rx, a, dx, fs, ex, ea, l, q⟩ => ?_) ht
  subst ex
  obtain rfl : u = Value.ref a := rx
  refine getmeth_ok I1 ea c hm l ?_
  exact PySem.W.callWith_K0 (first := [.ref a]) I1.kIn hm.kp (run_fn (us := [.ref a]) (vs := [.ref a]) F hr hb hd hx I1 (.cons rfl .nil) q)
structure Mk (K : PySem.W.Frag) (C f : Addr) : Prop where
  makes : PySem.W.makesIn K C = true
  init : PySem.W.findIn K (.ref C) "__init__" = some (some (.ref f))
  fn : PySem.W.isFn K (.ref f) = true
  kp : PySem.W.keepIn K (.ref C) = true
theorem run_make {pins : List (Addr × Obj)} {σ : St} {H : Hp} {s : Shared} {Q : VK} {us : List Value} {vs : List V} (M : Mk X.K C f) (F : FnOk X.prog X.w X.K X.mg X.base CX k f fd ps sp) (hr : Room (k + 1) X.A) (hb : Binds X.K fd ps ds) (hd : Vals dvs ds)
    (hx : Passes CX X E) (I : Inv X pins σ H s) (r : Vals vs us)
    (h : ∀ x dx, H x = none → H dx = none → dx ≠ x → sp (.ref x :: (vs ++ dvs)) (upd (upd H dx (.own x)) x (.ins C dx [])) (fun v H2 => v = .non ∧ Q (.ref x) H2) E) :
    wpAny (model X.prog X.w) X.A (call (.ref C) us) (EP X pins σ Q) X.xe s := by
  have hq := h (s.heap.objs.size + 1) s.heap.objs.size (I.hok.fresh (Nat.le_succ _)) (I.hok.fresh (Nat.le_refl _)) (Nat.ne_of_lt (Nat.lt_succ_self _))
  have I2 := Inv.made (C := C) I
  have r2 : Vals (V.ref (s.heap.objs.size + 1) :: (vs ++ dvs)) (Value.ref (s.heap.objs.size + 1) :: (us ++ ds)) := .cons rfl (r.append hd)
  have hl : (Value.ref (s.heap.objs.size + 1) :: us ++ ds).length = ps.length := by
    have e := r2.length
    rw [F.len _ _ _ _ hq] at e
    exact e.symm
  refine wpAny_call (make_map (f := f) I.kIn M.makes M.init (beq_iff_eq.mp M.fn) (codeAny_mono (F.run _ X.stack _ _ ⟨Value.ref (s.heap.objs.size + 1) :: us, []⟩ (Value.ref (s.heap.objs.size + 1) :: (us ++ ds)) _ _ E (hr.make C us [])
    (I2.env0.make C us []) (hb _ (Value.ref (s.heap.objs.size + 1) :: us) I2.kIn hl) r2 hq) fun r s' hq' => ?_))
  cases r with
  | error e => exact hx pins σ _ _ e s' I2 hq'
  | ok fl =>
    cases fl with
    | ret u =>
      obtain ⟨v, H', I3, rv, ev, q3⟩ := I2.after hq'
      subst ev
      exact ⟨rv, ⟨V.ref (s.heap.objs.size + 1), H', I3, rfl, q3⟩⟩
    | next => exact False.elim hq'
    | brk => exact False.elim hq'
    | cont => exact False.elim hq'
theorem pe_make (M : Mk X.K C f) (F : FnOk X.prog X.w X.K X.mg X.base CX k f fd ps sp) (hr : Room (k + 1) X.A) (hg : Gl X x) (hm : X.mg x = some (.ref C)) (hb : Binds X.K fd ps ds) (hd : Vals dvs ds) (hx : Passes CX X E)
    (ha : PA X (e :: es) t) (hdb : (x == ("__debug__" : Str)) = false := by decide) (he : starEach (e :: es) X.env = (false, eval e X.env) :: starEach es X.env := by rfl) (hpl : (backTo pos (starEach es X.env)).any (·.1) = false := by rfl) :
    PE X (.Call (.Name x p) (e :: es) [] pos) (tMake C sp dvs E t) := by
  intro pins s σ H Q I h
  refine wpAny_Call_Name_kw (ld_glob I hg hm ?_ hdb)
  refine PySem.W.callWith_K (h₀ := X.base) I.ok.mod.kin M.kp (thn (ha pos pins s σ H _ I h) fun us s1 ⟨vs, H1, I1, r, q⟩ => ⟨I1.kIn, ?_⟩) he hpl
  exact run_make M F hr hb hd hx I1 r q
end
def PK (X : Cx) (kws : List Keyword) (t : TA) : Prop :=
  ∀ (pos : Pos) (pins : List (Addr × Obj)) (s : Shared) (σ : St) (H : Hp) (Q : List V → Hp → Prop), Inv X pins σ H s → t σ H Q → wpAny (model X.prog X.w) X.A (evalAll ((backToKw pos (keywordEach kws X.env)).map (·.2))) (AP X pins σ Q) X.xe s
section
variable {X : Cx} {CX : CXT} {k : Nat} {f C : Addr} {fd : FuncData} {ps ks : List Str} {sp : Sp} {E : XK} {x m : Str} {p pos apos kpos : Pos} {e o : Expr} {es : List Expr} {kws : List Keyword} {te ta : TE} {t tk : TA} {nm : Option Str}
structure KBinds (K : PySem.W.Frag) (fd : FuncData) (ps ks : List Str) (g : List Value → List Value → List Value) (gV : List V → List V → List V) : Prop where
  to : ∀ (s : Shared) (us ws : List Value), K.In s.heap → (g us ws).length = ps.length → BindsTo s fd ⟨us, ks.zip ws⟩ (ps.zip (g us ws))
  rel : ∀ {vs : List V} {us : List Value} {zs : List V} {ws : List Value}, Vals vs us → Vals zs ws → Vals (gV vs zs) (g us ws)
def tCallK (sp : Sp) (gV : List V → List V → List V) (E : XK) (t tk : TA) : TE := fun σ H Q => t σ H fun vs H1 => tk σ H1 fun zs H2 => sp (gV vs zs) H2 Q E
variable {g : List Value → List Value → List Value} {gV : List V → List V → List V}
end
structure FnScope (N P : List Str) (sc : Scope) : Prop where
  kind : sc.kind = .function
  co : sc.isCoroutine = false
  gen : sc.isGenerator = false
  nd : N.Nodup
  pre : N.take P.length = P
  par : ∀ x ∈ P, sc.names.lookup x = some .local ∨ sc.names.lookup x = some .cell
  nofree : ∀ y ∈ sc.names, y.2 ≠ .free
theorem bindL_out {kindOf : Str → Option NameKind} {x : Str} : ∀ {binds : List (Str × Value)} {m : Str → Option Value}, (∀ v, (x, v) ∉ binds) → bindL kindOf binds m x = m x
  | [], _, _ => rfl
  | (n, v) :: r, m, h => by
    unfold bindL
    rw [bindL_out fun w hw => h w (List.mem_cons_of_mem _ hw)]
    split
    · have : x ≠ n := by rintro rfl; exact h v List.mem_cons_self
      simp [this]
    · rfl
theorem bindC_out {kindOf : Str → Option NameKind} {x : Str} : ∀ {binds : List (Str × Value)} {m : Str → Option Value}, (∀ v, (x, v) ∉ binds) → bindC kindOf binds m x = m x
  | [], _, _ => rfl
  | (n, v) :: r, m, h => by
    unfold bindC
    rw [bindC_out fun w hw => h w (List.mem_cons_of_mem _ hw)]
    split
    · rfl
    · have : x ≠ n := by rintro rfl; exact h v List.mem_cons_self
      simp [this]
theorem bindL_get {kindOf : Str → Option NameKind} {x : Str} {v : Value} : ∀ {P : List Str} {vs : List Value} {i : Nat} {m : Str → Option Value}, P.Nodup → P[i]? = some x → vs[i]? = some v → kindOf x = some .local →
    bindL kindOf (P.zip vs) m x = some v
  | [], _, _, _, _, h, _, _ => by simp at h
  | _ :: _, [], _, _, _, _, h, _ => by simp at h
  | p :: P, w :: vs, 0, m, nd, h1, h2, hk => by
    simp at h1 h2; subst h1; subst h2
    show bindL kindOf ((p, w) :: P.zip vs) m p = _
    unfold bindL
    rw [bindL_out fun v hv => (List.nodup_cons.mp nd).1 (List.of_mem_zip hv).1, if_pos hk]
    simp
  | p :: P, w :: vs, i + 1, m, nd, h1, h2, hk => by
    show bindL kindOf ((p, w) :: P.zip vs) m x = _
    unfold bindL
    exact bindL_get (i := i) (List.nodup_cons.mp nd).2 (by simpa using h1) (by simpa using h2) hk
theorem bindC_get {kindOf : Str → Option NameKind} {x : Str} {v : Value} : ∀ {P : List Str} {vs : List Value} {i : Nat} {m : Str → Option Value}, P.Nodup → P[i]? = some x → vs[i]? = some v → kindOf x ≠ some .local →
    bindC kindOf (P.zip vs) m x = some v
  | [], _, _, _, _, h, _, _ => by simp at h
  | _ :: _, [], _, _, _, _, h, _ => by simp at h
  | p :: P, w :: vs, 0, m, nd, h1, h2, hk => by
    simp at h1 h2; subst h1; subst h2
    show bindC kindOf ((p, w) :: P.zip vs) m p = _
    unfold bindC
    rw [bindC_out fun v hv => (List.nodup_cons.mp nd).1 (List.of_mem_zip hv).1, if_neg hk]
    simp
  | p :: P, w :: vs, i + 1, m, nd, h1, h2, hk => by
    show bindC kindOf ((p, w) :: P.zip vs) m x = _
    unfold bindC
    exact bindC_get (i := i) (List.nodup_cons.mp nd).2 (by simpa using h1) (by simpa using h2) hk
def start (N : List Str) (vs : List V) : St := vs.map some ++ List.replicate (N.length - vs.length) none
def cxOf (CX : CXT) (P : Program) (w : World) (K : PySem.W.Frag) (mg : Str → Option Value) (base : Heap) (N : List Str) (qual : Str) (scope : Scope) (f : Addr) (cd : Value) (A : Around) (outer : List Env) (s : Shared) (H : Hp) (E : XK) : Cx where
  prog := P
  w := w
  K := K
  mg := mg
  base := base
  A := A.deeper (envOfC qual scope s.heap.objs.size f cd)
  N := N
  s_0 := s
  H_0 := H
  env := envOfC qual scope s.heap.objs.size f cd
  outer := outer
  stack := envOfC qual scope s.heap.objs.size f cd :: outer
  ex := []
  calm := true
  fn := fun _ => true
  pn := []
  xe := fun e s' => wpAny (model P w) (A.deeper (envOfC qual scope s.heap.objs.size f cd)) (leaving (envOfC qual scope s.heap.objs.size f cd) e) (fun _ s'' => CX outer H s E e s'') (fun e' s'' => CX outer H s E e' s'') s'
theorem cell_has {sc : Scope} {n : Nat} {x : Str} (h : sc.names.lookup x = some .cell) : ∃ c, (cellsFrom n sc.names []).lookup x = some c := by
  have q := PySem.W.cellsFrom_some sc.names n [] (.inl h)
  exact Option.isSome_iff_exists.mp q
theorem inv_start {CX : CXT} {P : Program} {w : World} {K : PySem.W.Frag} {mg : Str → Option Value} {base : Heap} {N ps : List Str} {qual : Str} {scope : Scope} {f : Addr} {cd : Value} {A : Around} {outer : List Env} {s s1 : Shared} {H : Hp} {E : XK} {us : List Value} {vs : List V}
    (S : FnScope N ps scope) (hd : A.handled = none) (e0 : Env0 P w K mg base A outer s H) (hl : vs.length = ps.length) (r : Vals vs us)
    (x : InCallC s s.heap.objs.size (bindL (envOfC qual scope s.heap.objs.size f cd).kindOf (ps.zip us) fun _ => none) (cellsFrom (s.heap.objs.size + 1) scope.names []) (bindC (envOfC qual scope s.heap.objs.size f cd).kindOf (ps.zip us) fun _ => none) s1) :
    Inv (cxOf CX P w K mg base N qual scope f cd A outer s H E) [] (start N vs) H s1 := by
  have hpl : ps.length ≤ N.length := by have := congrArg List.length S.pre; rw [List.length_take] at this; omega
  obtain ⟨h1, tk, rfl, hk⟩ := x.done
  have noA : ∀ b : Addr, b ∉ (cxOf CX P w K mg base N qual scope f cd A outer s H E).ex := fun b z => absurd (show b ∈ ([] : List Addr) from z) (by simp)
  refine ⟨⟨e0.mod, S.kind, rfl, rfl, Nat.le_refl _, fun y z c h1 h2 => ?_, fun y hy => ?_, fun y c _ h => ?_, fun _ => hd, Around.frames_deeper e0.frames, .inr ⟨rfl, rfl⟩, fun b z => absurd z (noA b), e0.bs, e0.bsz, fun b _ _ => noA b, fun b z => absurd z (noA b), e0.funs, e0.frf⟩,
    rfl, e0.bare, Un.kept hk, ⟨_, x.toInCall.ns, fun i y v h1 h2 h3 => ?_⟩, fun y c h => ⟨_, x.cell y c h⟩, e0.hok.fresh (Nat.le_refl _), fun y c h => ?_, fun p hp => absurd (show p ∈ ([] : List (Addr × Obj)) from hp) (by simp), e0.hok.kept hk, ?_⟩
  · exact name_of_addr x.apart (PySem.mem_of_lookup h1) (PySem.mem_of_lookup h2)
  · have hy : scope.names.lookup y = some .cell ∨ scope.names.lookup y = some .free := hy
    rcases hy with hy | hy
    · exact cell_has hy
    · exact absurd rfl (S.nofree _ (PySem.mem_of_lookup hy))
  · exact Nat.le_of_lt (x.above y c (PySem.mem_of_lookup h))
  · have hi : i < vs.length := by
      unfold start at h2
      by_cases hi : i < vs.length
      · exact hi
      · rw [List.getElem?_append_right (by simpa using hi)] at h2
        rw [List.getElem?_replicate] at h2
        split at h2 <;> cases h2
    have ha : vs[i]? = some v := by
      unfold start at h2
      rw [List.getElem?_append_left (by simpa using hi), List.getElem?_map] at h2
      cases e : vs[i]? with
      | none => rw [e] at h2; cases h2
      | some a => rw [e] at h2; cases h2; rfl
    obtain ⟨u, hu, rv⟩ := r.get ha
    have hp : ps[i]? = some y := by
      rw [← S.pre, List.getElem?_take_of_lt (by omega)]; exact h1
    have ndP : ps.Nodup := by rw [← S.pre]; exact S.nd.sublist (List.take_sublist _ _)
    refine ⟨u, rv, ?_⟩
    rcases S.par y (List.mem_of_getElem? hp) with k | k
    · exact .inl ⟨k, bindL_get ndP hp hu k⟩
    · obtain ⟨c, e⟩ := cell_has (n := s.heap.objs.size + 1) k
      refine .inr ⟨.inl k, c, e, ?_⟩
      have q := x.cell y c e
      rw [bindC_get ndP hp hu (by show scope.names.lookup y ≠ _; rw [k]; decide)] at q
      exact q
  · exact e0.hok.fresh (Nat.le_of_lt (x.above y c (PySem.mem_of_lookup h)))
  · unfold start
    show _ = N.length
    rw [List.length_append, List.length_map, List.length_replicate]
    omega
theorem fn_of {CX : CXT} {P : Program} {w : World} {K : PySem.W.Frag} {mg : Str → Option Value} {base : Heap} {k : Nat} {f : Addr} {name qual : Str} {params : Arguments} {body : List Stmt} {scope : Scope} {dV kV doc pm cdv ct oc : Value} {an od : Option Addr}
    {osl : Array (Option Value)} {N ps : List Str} {sp : Sp} (lk : K.lookup f = some ⟨oc, od, .func (PySem.W.fnOf name qual params body scope dV kV doc pm an cdv ct), osl⟩) (hcd : PySem.W.codeIn K cdv qual = true) (S : FnScope N ps scope)
    (len : ∀ vs H Q E, sp vs H Q E → vs.length = ps.length)
    (hbody : ∀ (A : Around) (outer : List Env) (s : Shared) (H : Hp) (vs : List V) (Q : VK) (E : XK), Room k (A.deeper (envOfC qual scope s.heap.objs.size f cdv)) → sp vs H Q E →
      ∃ t, PSs (cxOf CX P w K mg base N qual scope f cdv A outer s H E) body t ∧ t { nx := fun _ H' => Q .non H', rt := Q } (start N vs) H) :
    FnOk P w K mg base CX (k + 1) f (PySem.W.fnOf name qual params body scope dV kV doc pm an cdv ct) ps sp := by
  refine ⟨len, fun A outer s H args us vs Q E hr e0 hb r hsp => ?_⟩
  have hl := len _ _ _ _ hsp
  have KX : K.In s.heap := e0.mod.kin.keeps fun b o e => (e0.bs b o e).1
  have lim : s.heap.NoLimit := e0.mod.nolimit.keeps fun b o e => (e0.bs b o e).1
  have hkind : ∀ y ∈ ps.zip us, scope.names.lookup y.1 = some .local ∨ (scope.names.lookup y.1 = some .cell ∧ ((cellsFrom (s.heap.objs.size + 1) scope.names []).lookup y.1).isSome = true) := fun ⟨n, v⟩ hy => by
    rcases S.par n (List.of_mem_zip hy).1 with q | q
    · exact .inl q
    · exact .inr ⟨q, PySem.W.cellsFrom_some _ _ _ (.inl q)⟩
  refine codeAny_call_function hr.depth (KX _ _ lk) rfl S.co S.gen rfl (PySem.W.codeRec_of KX hcd) (hb _ _ _ _ ?_)
  refine wpAny_newFunctionEnv_cells S.kind hkind fun env he s1 x => ?_
  subst he
  refine ⟨lim.keeps x.toInCall.keep, codeAny_func ?_⟩
  obtain ⟨t, ht, hq⟩ := hbody A outer s H vs Q E (hr.deeper _) hsp
  have I : Inv (cxOf CX P w K mg base N qual scope f cdv A outer s H E) [] (start N vs) H s1 := inv_start S hr.hd e0 hl r x
  refine wpAny_mono (ht [] s1 (start N vs) H _ I hq) (fun fl s' hs => ?_) fun e s' hs => hs
  have fin : ∀ {σ' : St} {H' : Hp} {v : V} {u : Value}, Inv (cxOf CX P w K mg base N qual scope f cdv A outer s H E) [] σ' H' s' → RelV v u → Q v H' → CE outer P w H s Q u s' :=
    fun {σ' H' v u} J rv q => ⟨v, H', J.os, J.bare, J.base, J.hok, rv, q⟩
  cases fl with
  | ret u =>
    obtain ⟨v, σ', H', J, rv, q⟩ := hs
    exact fin J rv q
  | next =>
    obtain ⟨σ', H', J, q⟩ := hs
    exact fin (v := V.non) (u := Value.none) J rfl q
  | brk =>
    obtain ⟨_, _, _, q⟩ := hs
    exact False.elim q
  | cont =>
    obtain ⟨_, _, _, q⟩ := hs
    exact False.elim q
end L2
namespace L2
open PySem PySem.Spec PyProof.Rows
section
variable {X : Cx} {x : Str} {p pos : Pos} {e : Expr} {es : List Expr} {t : TA} {id T : String} {r : List V → Hp → VK → Prop}
def tCB (r : List V → Hp → VK → Prop) (t : TA) : TE := fun σ H Q => t σ H fun vs H1 => r vs H1 Q
theorem pe_callB (hc : CallR X (.builtin id) r) (hg : Gl X x) (hm : X.mg x = none) (hv : bootBuiltins x = some (.builtin id)) (ha : PA X (e :: es) t) (hn : x ≠ "__name__" := by decide) (hdb : (x == ("__debug__" : Str)) = false := by decide)
    (he : starEach (e :: es) X.env = (false, eval e X.env) :: starEach es X.env := by rfl) (hpl : (backTo pos (starEach es X.env)).any (·.1) = false := by rfl) : PE X (.Call (.Name x p) (e :: es) [] pos) (tCB r t) := by
  intro pins s σ H Q I h
  refine wpAny_Call_Name_kw (ld_blt I hg hm hv ?_ hn hdb)
  exact PyProof.Rows.callWith_builtin1 (thn (ha pos pins s σ H _ I h) fun us s1 ⟨vs, H1, I1, r1, q1⟩ => hc pins s1 σ H1 vs us Q I1 r1 q1) he hpl
theorem pe_callTy (hc : CallR X (.type T) r) (hg : Gl X x) (hm : X.mg x = none) (hv : bootBuiltins x = some (.type T)) (ha : PA X (e :: es) t) (hn : x ≠ "__name__" := by decide) (hdb : (x == ("__debug__" : Str)) = false := by decide)
    (he : starEach (e :: es) X.env = (false, eval e X.env) :: starEach es X.env := by rfl) (hpl : (backTo pos (starEach es X.env)).any (·.1) = false := by rfl) : PE X (.Call (.Name x p) (e :: es) [] pos) (tCB r t) := by
  intro pins s σ H Q I h
  refine wpAny_Call_Name_kw (ld_blt I hg hm hv ?_ hn hdb)
  exact PyProof.Rows.callWith_type1 (thn (ha pos pins s σ H _ I h) fun us s1 ⟨vs, H1, I1, r1, q1⟩ => hc pins s1 σ H1 vs us Q I1 r1 q1) he hpl
end
end L2
namespace HT
open PySem PyProof.Rows
def lexLt : List Int → List Int → Bool
  | [], [] => false
  | [], _ :: _ => true
  | _ :: _, [] => false
  | x :: xs, y :: ys => if x = y then lexLt xs ys else decide (x < y)
section
open PySem.SeqAt
open PySem.AutoSeq1 (wpAny_loadPart')
open PySem.MeetsSeq PySem.MeetsSeq2 PySem.MeetsSeq3
end
section
variable {prog : Program} {w : World} {A : Around} {E : Value → Shared → Prop} {s : Shared}
def sIx (n d : Nat) : Option Int → Nat
  | none => d
  | some v => if v < 0 then (v + (n : Int)).toNat else min v.toNat n
theorem sIx_nat (n d k : Nat) : sIx n d (some (k : Int)) = min k n := by
  show (if (k : Int) < 0 then ((k : Int) + (n : Int)).toNat else min (k : Int).toNat n) = min k n
  rw [if_neg (by omega), Int.toNat_natCast]
end
end HT
namespace L2
open PySem PySem.Spec PyProof.Rows
abbrev TO := St → Hp → (Option Int → Hp → Prop) → Prop
def PO (X : Cx) (e : Option Expr) (t : TO) : Prop :=
  ∀ (pins : List (Addr × Obj)) (s : Shared) (σ : St) (H : Hp) (Q : Option Int → Hp → Prop), Inv X pins σ H s → t σ H Q →
    wpAny (model X.prog X.w) X.A (evalPart e X.env) (fun u s' => ∃ o H', Inv X pins σ H' s' ∧ IsPart u o ∧ Q o H') X.xe s
def tNoPart : TO := fun _ H Q => Q none H
def tPart (t : TE) : TO := fun σ H Q => t σ H fun x H1 => ∃ i, x = .int i ∧ Q (some i) H1
section
variable {X : Cx} {e : Expr} {te : TE} {lo hi : Option Expr} {tl th : TO} {pos p2 : Pos}
theorem po_none : PO X none tNoPart := by
  intro pins s σ H Q I h
  rw [evalPart_none]
  exact wpAny_pure ⟨none, H, I, .none, h⟩
theorem po_some (h : PE X e te) : PO X (some e) (tPart te) := by
  intro pins s σ H Q I hw
  rw [evalPart_some]
  refine thn (h pins s σ H _ I hw) fun u s1 ⟨x, H1, I1, r1, q1⟩ => ?_
  obtain ⟨i, rfl, q⟩ := q1
  obtain ⟨t, rfl⟩ := r1
  exact ⟨some i, H1, I1, .int i t, q⟩
def SlR (X : Cx) (r : V → Option Int → Option Int → Hp → VK → Prop) : Prop :=
  ∀ (pins : List (Addr × Obj)) (s : Shared) (σ : St) (H : Hp) (x : V) (v vl vu : Value) (lo hi : Option Int) (sl : Addr) (Q : VK), Inv X pins σ H s → RelV x v → s.heap.IsSliceOf sl vl vu .none → IsPart vl lo → IsPart vu hi → r x lo hi H Q →
    ∃ T id, typeLookup (.type T) "__getitem__" = pure (some (.builtin id)) ∧ s.TypeIs v T ∧ wpAny (model X.prog X.w) X.A (getItem v (.ref sl)) (EP X pins σ Q) X.xe s
def tSl (r : V → Option Int → Option Int → Hp → VK → Prop) (te : TE) (tl th : TO) : TE := fun σ H Q => te σ H fun x H1 => tl σ H1 fun l H2 => th σ H2 fun u H3 => r x l u H3 Q
theorem pe_slice {r : V → Option Int → Option Int → Hp → VK → Prop} (hr : SlR X r) (he : PE X e te) (hl : PO X lo tl) (hu : PO X hi th) : PE X (.Subscript e (.Slice lo hi none p2) pos) (tSl r te tl th) := by
  intro pins s σ H Q I h
  refine Subscript_ (thn (he pins s σ H _ I h) fun v s1 ⟨x, H1, I1, r1, q1⟩ => ?_)
  refine wpAny_Slice (thn (hl pins s1 σ H1 _ I1 q1) fun vl s2 ⟨l, H2, I2, pl, q2⟩ => thn (hu pins s2 σ H2 _ I2 q2) fun vu s3 ⟨u, H3, I3, pu, q3⟩ => ?_)
  rw [evalPart_none]
  refine wpAny_pure ?_
  have I4 : Inv X pins σ H3 { s3 with heap := s3.heap.push { cls := .type "slice", data := .fields #[vl, vu, .none] } } := I3.kept (t' := s3.toks) fun b ob q => Heap.get?_push_of_some _ q
  obtain ⟨T, id, hT, ht, hg⟩ := hr pins { s3 with heap := s3.heap.push { cls := .type "slice", data := .fields #[vl, vu, .none] } } σ H3 x v vl vu l u s3.heap.objs.size Q I4 r1 (Heap.IsSliceOf.new ..) pl pu q3
  show wpAny (model X.prog X.w) X.A (subscriptTail e (.Slice lo hi none p2) v (.ref s3.heap.objs.size)) (EP X pins σ Q) X.xe { s3 with heap := s3.heap.push { cls := .type "slice", data := .fields #[vl, vu, .none] } }
  exact tail_any (ops := [.ref s3.heap.objs.size, v]) ht hT hg (by with_unfolding_all rfl)
def cutV (xs : List V) (lo hi : Option Int) : List V := (xs.drop (HT.sIx xs.length 0 lo)).take (HT.sIx xs.length xs.length hi - HT.sIx xs.length 0 lo)
theorem cutV_length (xs : List V) (lo hi : Option Int) : (cutV xs lo hi).length ≤ xs.length := by
  unfold cutV
  rw [List.length_take, List.length_drop]
  omega
def rSlT (K : PySem.W.Frag) : V → Option Int → Option Int → Hp → VK → Prop := fun x lo hi H Q => ∃ a xs, x = .ref a ∧ SqT K H a xs ∧
  ¬ (HT.sIx xs.length 0 lo = 0 ∧ HT.sIx xs.length xs.length hi = xs.length) ∧ ∀ p, H p = none → Q (.ref p) (upd H p (.tup (cutV xs lo hi)))
def rLtT (K : PySem.W.Frag) : R2 := fun x y H Q => ∃ a b ns ms, x = .ref a ∧ y = .ref b ∧ SqT K H a (ns.map V.int) ∧ SqT K H b (ms.map V.int) ∧ Q (.bl (HT.lexLt ns ms)) H
def rCatT (K : PySem.W.Frag) : R2 := fun x y H Q => ∃ a b xs ys, x = .ref a ∧ y = .ref b ∧ SqT K H a xs ∧ SqT K H b ys ∧ xs ≠ [] ∧ xs.length + ys.length ≤ sizeLine ∧
  (ys = [] → Q (.ref a) H) ∧ (ys ≠ [] → ∀ p, H p = none → Q (.ref p) (upd H p (.tup (xs ++ ys))))
end
end L2
namespace L2
open PySem PySem.Spec PyProof.Rows
def ixN (n : Nat) (i : Int) : Option Nat := if 0 ≤ i then (if i < n then some i.toNat else none) else if -(n : Int) ≤ i then some (i + n).toNat else none
def atI {α : Type} (xs : List α) (i : Int) : Option α := (ixN xs.length i).bind fun j => xs[j]?
theorem ixN_seq {n : Nat} {i : Int} {j : Nat} (h : ixN n i = some j) : seqIndex? i n = some j ∧ j < n ∧ -(n : Int) ≤ i ∧ i < n := by
  unfold ixN at h
  by_cases h0 : 0 ≤ i
  · rw [if_pos h0] at h
    by_cases h1 : i < n
    · rw [if_pos h1] at h
      have e : i.toNat = j := Option.some.inj h
      exact ⟨by rw [seqIndex_of h0 h1, e], by omega, by omega, h1⟩
    · rw [if_neg h1] at h; cases h
  · rw [if_neg h0] at h
    by_cases h1 : -(n : Int) ≤ i
    · rw [if_pos h1] at h
      have e : (i + n).toNat = j := Option.some.inj h
      exact ⟨by rw [seqIndex_neg (by omega) h1, e], by omega, h1, by omega⟩
    · rw [if_neg h1] at h; cases h
theorem atI_get {α : Type} {xs : List α} {i : Int} {v : α} (h : atI xs i = some v) : ∃ j, seqIndex? i xs.length = some j ∧ xs[j]? = some v ∧ j < xs.length ∧ -(xs.length : Int) ≤ i ∧ i < xs.length := by
  unfold atI at h
  cases e : ixN xs.length i with
  | none => rw [e] at h; cases h
  | some j =>
    rw [e] at h
    obtain ⟨h1, h2, h3, h4⟩ := ixN_seq e
    exact ⟨j, h1, h, h2, h3, h4⟩
theorem atI_nat {α : Type} {xs : List α} {j : Nat} {v : α} (h : xs[j]? = some v) : atI xs (j : Int) = some v := by
  have hj : j < xs.length := (List.getElem?_eq_some_iff.mp h).1
  have e : ixN xs.length (j : Int) = some j := by
    unfold ixN
    rw [if_pos (by omega), if_pos (by omega)]; simp
  unfold atI; rw [e]; exact h
theorem atI_last {α : Type} (xs : List α) (v : α) : atI (xs ++ [v]) (-1) = some v := by
  have hl : (xs ++ [v]).length = xs.length + 1 := by simp
  have e : ixN (xs ++ [v]).length (-1) = some xs.length := by
    unfold ixN
    rw [hl, if_neg (by decide), if_pos (by omega)]
    congr 1
    omega
  unfold atI
  rw [e]
  show (xs ++ [v])[xs.length]? = some v
  simp
def PlainIx (b : Expr) : Prop := ∀ o i, subscripted b false o i = operate [o, i] (getItem o i)
def IxR (X : Cx) (r : R2) : Prop :=
  ∀ (value slice : Expr) (pins : List (Addr × Obj)) (s : Shared) (σ : St) (H : Hp) (x y : V) (v u : Value) (Q : VK), Inv X pins σ H s → RelV x v → RelV y u → r x y H Q →
    subscripted slice false v u = operate [v, u] (getItem v u) → wpAny (model X.prog X.w) X.A (subscriptTail value slice v u) (EP X pins σ Q) X.xe s
def MtR (X : Cx) (id : String) (r : V → List V → Hp → VK → Prop) : Prop :=
  ∀ (pins : List (Addr × Obj)) (s : Shared) (σ : St) (H : Hp) (x : V) (xs : List V) (v : Value) (us : List Value) (Q : VK), Inv X pins σ H s → RelV x v → Vals xs us → r x xs H Q →
    wpAny (model X.prog X.w) X.A (call (.builtin id) (v :: us)) (EP X pins σ Q) X.xe s
section
variable {X : Cx} {a b : Expr} {ta tb : TE} {pos : Pos}
theorem pe_ix {r : R2} (hr : IxR X r) (ha : PE X a ta) (hb : PE X b tb) (hs : PlainIx b) : PE X (.Subscript a b pos) (tOp r ta tb) := by
  intro pins s σ H Q I h
  exact Subscript_ (binT ha hb I h fun v u s2 x y H2 I2 rx ry q => hr a b pins s2 σ H2 x y v u Q I2 rx ry q (hs _ _))
def rIxL (K : PySem.W.Frag) : R2 := fun x y H Q => ∃ p xs i v, x = .ref p ∧ y = .int i ∧ SqL K H p xs ∧ atI xs i = some v ∧ Q v H
def rIxT (K : PySem.W.Frag) : R2 := fun x y H Q => ∃ p xs i v, x = .ref p ∧ y = .int i ∧ SqT K H p xs ∧ atI xs i = some v ∧ Q v H
def rIxS : R2 := fun x y H Q => ∃ z i c, x = .str z ∧ y = .int i ∧ z.length ≤ sizeLine ∧ atI z.cps.toList i = some c ∧ Q (.str ⟨#[c]⟩) H
theorem ix_list : IxR X (rIxL X.K) := by
  intro value slice pins s σ H x y v u Q I rx ry h hs
  obtain ⟨p, xs, i, z, rfl, rfl, hq, he, q⟩ := h
  cases rx
  obtain ⟨t, rfl⟩ := ry
  obtain ⟨its, r, pl, hz⟩ := I.list hq
  obtain ⟨j, h1, h2, h3, h4, h5⟩ := atI_get he
  obtain ⟨w, ew, rw'⟩ := r.get h2
  have hl := r.length
  have hn := line63
  have fin : EP X pins σ Q w s := ⟨z, H, I, rw', q⟩
  by_cases h0 : 0 ≤ i
  · have hj : i.toNat = j := by
      rw [seqIndex_of h0 h5] at h1
      exact Option.some.inj h1
    exact item_listR pl.isList h0 (by omega) (by rw [hj]; simpa using ew) fin hs
  · have hj : (i + (its.toArray.size : Int)).toNat = j := by
      rw [seqIndex_neg (by omega) h4] at h1
      rw [List.size_toArray, ← hl]
      exact Option.some.inj h1
    exact subscriptTail_builtinR (x := w) pl.isList.typeIs slot_list_getitem.lookup
      (wpAny_getItem_list_neg (Q := fun r s' => r = w ∧ EP X pins σ Q r s') pl.isList (by omega) (by rw [List.size_toArray] <;> omega) (by omega) (by rw [hj]; simpa using ew) ⟨rfl, fin⟩) hs
theorem ix_tup : IxR X (rIxT X.K) := by
  intro value slice pins s σ H x y v u Q I rx ry h hs
  obtain ⟨p, xs, i, z, rfl, rfl, hq, he, q⟩ := h
  cases rx
  obtain ⟨t, rfl⟩ := ry
  obtain ⟨its, r, pl, hz⟩ := I.tuple hq
  obtain ⟨j, h1, h2, h3, h4, h5⟩ := atI_get he
  obtain ⟨w, ew, rw'⟩ := r.get h2
  have hl := r.length
  have hn := line63
  have fin : EP X pins σ Q w s := ⟨z, H, I, rw', q⟩
  exact subscriptTail_builtinR (x := w) pl.typeIs slot_tuple_getitem.lookup
    (getItem_tuple (j := j) (Q := fun r s' => r = w ∧ EP X pins σ Q r s') pl (by omega) (by omega) (by rw [List.size_toArray, ← hl]; exact h1) (by simpa using ew) ⟨rfl, fin⟩) hs
def rIx (K : PySem.W.Frag) : R2 := fun x y H Q => rIxL K x y H Q ∨ rIxT K x y H Q ∨ rIxS x y H Q
theorem mapSeq_set (its : List Value) (n j : Nat) (u : Value) : Obj.mapSeq (·.setIfInBounds j u) { cls := .type "list", data := .seq its.toArray n } = { cls := .type "list", data := .seq (its.set j u).toArray n } := by
  simp [Obj.mapSeq]
theorem Inv.lst {pins : List (Addr × Obj)} {σ : St} {H : Hp} {s : Shared} {p : Addr} {xs : List V} (I : Inv X pins σ H s) (h : H p = some (.lst xs)) :
    ∃ (its : List Value) (n : Nat), Vals xs its ∧ s.heap.get? p = some { cls := .type "list", data := .seq its.toArray n } ∧ xs.length ≤ sizeLine := by
  obtain ⟨z, its, n, r, e⟩ := I.hok p _ h
  exact ⟨its, n, r, e, z⟩
theorem Inv.lstUpd {pins : List (Addr × Obj)} {σ : St} {H : Hp} {s : Shared} {p : Addr} {xs ys : List V} {its its' : List Value} {n n' : Nat} {f : Obj → Obj} (I : Inv X pins σ H s) (h : H p = some (.lst xs))
    (ho : s.heap.get? p = some { cls := .type "list", data := .seq its.toArray n }) (hf : f { cls := .type "list", data := .seq its.toArray n } = { cls := .type "list", data := .seq its'.toArray n' }) (r : Vals ys its') (hz : ys.length ≤ sizeLine) (t : Nat) :
    Inv X pins σ (upd H p (.lst ys)) { s with heap := s.heap.update p f, toks := t } := by
  have e : (s.heap.update p f).get? p = some { cls := .type "list", data := .seq its'.toArray n' } := by
    rw [Heap.get?_update_self f ho (by rw [hf] <;> rfl), hf]
  refine I.write (x := p) (e := p) (by rw [h]; trivial) (.inl rfl) (fun b u hb q => (Heap.get?_update_other _ _ (Ne.symm hb)).trans q) ⟨_, e⟩ ?_
  exact ⟨hz, its', n', r, e⟩
def rSetL : V → V → V → Hp → (Hp → Prop) → Prop := fun o i v H Q => ∃ p xs k j, o = .ref p ∧ i = .int k ∧ H p = some (.lst xs) ∧ ixN xs.length k = some j ∧ Q (upd H p (.lst (xs.set j v)))
theorem set_list : PSet X rSetL := by
  intro pins s σ H o i v ov iv u Q I ro ri rv h
  obtain ⟨p, xs, k, j, rfl, rfl, hp, hj, q⟩ := h
  cases ro
  obtain ⟨t, rfl⟩ := ri
  obtain ⟨its, n, r, ho, hz⟩ := I.lst hp
  obtain ⟨h1, h2, h3, h4⟩ := ixN_seq hj
  have hl := r.length
  have hn := line63
  have I' : Inv X pins σ (upd H p (.lst (xs.set j v))) { s with heap := s.heap.update p (Obj.mapSeq (·.setIfInBounds j u)) } :=
    I.lstUpd hp ho (mapSeq_set its n j u) (r.set rv j) (by rw [List.length_set]; exact hz) s.toks
  by_cases h0 : 0 ≤ k
  · have hk : k.toNat = j := by
      rw [seqIndex_of h0 h4] at h1
      exact Option.some.inj h1
    exact PySem.W.ki_setAt ho h0 (by omega) (by rw [List.size_toArray, ← hl]; exact h4) (by rw [hk]; exact ⟨_, I', q⟩)
  · have hk : (k + (its.toArray.size : Int)).toNat = j := by
      rw [seqIndex_neg (by omega) h3] at h1
      rw [List.size_toArray, ← hl]
      exact Option.some.inj h1
    exact PySem.W.ki_setBack ho (by omega) (by rw [List.size_toArray, ← hl]; exact h3) (by omega) (by rw [hk]; exact ⟨_, I', q⟩)
theorem slice_bounds (lo hi : Option Int) (n : Nat) : (sliceBounds lo hi none n).1 = ((HT.sIx n 0 lo : Nat) : Int) ∧ (sliceBounds lo hi none n).2.1 = ((HT.sIx n n hi : Nat) : Int) ∧ (sliceBounds lo hi none n).2.2 = 1 := by
  refine ⟨?_, ?_, rfl⟩
  · cases lo with
    | none => simp [sliceBounds, HT.sIx]
    | some i =>
      simp only [sliceBounds, HT.sIx, Option.getD_none, show (1 : Int) > 0 by decide, if_true]
      by_cases h : i < 0
      · simp only [h, if_true] <;> omega
      · simp only [h, if_false] <;> omega
  · cases hi with
    | none => simp [sliceBounds, HT.sIx]
    | some i =>
      simp only [sliceBounds, HT.sIx, Option.getD_none, show (1 : Int) > 0 by decide, if_true]
      by_cases h : i < 0
      · simp only [h, if_true] <;> omega
      · simp only [h, if_false] <;> omega
theorem slicePick_cut (its : List Value) (lo hi : Option Int) : slicePick its.toArray lo hi none = ((its.drop (HT.sIx its.length 0 lo)).take (HT.sIx its.length its.length hi - HT.sIx its.length 0 lo)).toArray := by
  obtain ⟨h1, h2, h3⟩ := slice_bounds lo hi its.toArray.size
  unfold slicePick
  rw [h1, h2, h3]
  simp only [sliceRange_one, pick_run, List.size_toArray] <;> rfl
def rSlL (K : PySem.W.Frag) : V → Option Int → Option Int → Hp → VK → Prop := fun x lo hi H Q => ∃ a xs, x = .ref a ∧ SqL K H a xs ∧ ∀ p, H p = none → Q (.ref p) (upd H p (.lst (cutV xs lo hi)))
theorem sl_list : SlR X (rSlL X.K) := by
  intro pins s σ H x v vl vu lo hi sl Q I rx hs pl pu h
  obtain ⟨a, xs, rfl, hx, q⟩ := h
  cases rx
  obtain ⟨its, r, ht, hz⟩ := I.list hx
  have hlen := r.length
  refine ⟨"list", _, slot_list_getitem.lookup, ht.isList.typeIs, ?_⟩
  refine wpAny_getItem_list_slice ht.isList hs pl pu .none (by simp) ?_ (by rw [List.size_toArray] <;> omega)
  rw [slicePick_cut, ← hlen]
  refine ⟨.ref s.heap.objs.size, _, I.laid (t' := s.toks) (o := .lst (cutV xs lo hi)) (fun b ob q => Heap.get?_push_of_some _ q) (Nat.le_refl _) ?_, rfl, q _ (I.hok.fresh (Nat.le_refl _))⟩
  exact ⟨Nat.le_trans (cutV_length xs lo hi) hz, _, 0, (r.drop (HT.sIx xs.length 0 lo)).take (HT.sIx xs.length xs.length hi - HT.sIx xs.length 0 lo), Heap.get?_push_size _ rfl⟩
def flatV : V → Bool
  | .non => true
  | .bl _ => true
  | .int _ => true
  | .str _ => true
  | _ => false
def eqV : V → V → Bool
  | .non, .non => true
  | .bl a, .bl b => a == b
  | .bl a, .int b => (if a then 1 else 0) == b
  | .int a, .bl b => a == (if b then 1 else 0)
  | .int a, .int b => a == b
  | .str a, .str b => a == b
  | _, _ => false
theorem eqAt_V {A : Around} {s : Shared} {y x : V} {u v : Value} (ry : RelV y u) (rx : RelV x v) (fy : flatV y = true) (fx : flatV x = true) : SeqAt.EqAt A s u v (eqV y x) := by
  cases y with
  | non =>
    cases ry
    cases x with
    | non => cases rx; exact SeqAt.EqAt.same _
    | bl b => cases rx; exact SeqAt.EqAt.none_bool b
    | int b => obtain ⟨t, rfl⟩ := rx; exact SeqAt.EqAt.none_int b t
    | str b => obtain ⟨t, rfl⟩ := rx; exact SeqAt.EqAt.none_str b t
    | _ => exact absurd (show false = true from fx) Bool.false_ne_true
  | bl a =>
    cases ry
    cases x with
    | non => cases rx; exact SeqAt.EqAt.bool_none a
    | bl b => cases rx; exact SeqAt.EqAt.bool_bool a b
    | int b => obtain ⟨t, rfl⟩ := rx; exact SeqAt.EqAt.bool_int a b t
    | str b => obtain ⟨t, rfl⟩ := rx; exact SeqAt.EqAt.bool_str a b t
    | _ => exact absurd (show false = true from fx) Bool.false_ne_true
  | int a =>
    obtain ⟨t', rfl⟩ := ry
    cases x with
    | non => cases rx; exact SeqAt.EqAt.int_none a t'
    | bl b => cases rx; exact SeqAt.EqAt.int_bool a t' b
    | int b => obtain ⟨t, rfl⟩ := rx; exact SeqAt.EqAt.int_int a t' b t
    | str b => obtain ⟨t, rfl⟩ := rx; exact SeqAt.EqAt.int_str a t' b t
    | _ => exact absurd (show false = true from fx) Bool.false_ne_true
  | str a =>
    obtain ⟨t', rfl⟩ := ry
    cases x with
    | non => cases rx; exact SeqAt.EqAt.str_none a t'
    | bl b => cases rx; exact SeqAt.EqAt.str_bool a t' b
    | int b => obtain ⟨t, rfl⟩ := rx; exact SeqAt.EqAt.str_int a t' b t
    | str b => obtain ⟨t, rfl⟩ := rx; exact SeqAt.EqAt.str_str a t' b t
    | _ => exact absurd (show false = true from fx) Bool.false_ne_true
  | _ => exact absurd (show false = true from fy) Bool.false_ne_true
def eqU (x : V) (u : Value) : Bool := match u with
  | .none => eqV .non x
  | .bool b => eqV (.bl b) x
  | .int i _ => eqV (.int i) x
  | .str z _ => eqV (.str z) x
  | _ => false
theorem eqU_of {x y : V} {u : Value} (r : RelV y u) (f : flatV y = true) : eqU x u = eqV y x := by
  cases y with
  | non => cases r; rfl
  | bl b => cases r; rfl
  | int i => obtain ⟨t, rfl⟩ := r; rfl
  | str z => obtain ⟨t, rfl⟩ := r; rfl
  | _ => exact absurd (show false = true from f) Bool.false_ne_true
theorem any_eqU {x : V} : ∀ {xs : List V} {us : List Value}, Vals xs us → xs.all flatV = true → us.any (eqU x) = xs.any fun y => eqV y x
  | _, _, .nil, _ => rfl
  | y :: xs, u :: us, .cons r t, f => by
    rw [List.all_cons, Bool.and_eq_true] at f
    rw [List.any_cons, List.any_cons, eqU_of r f.1, any_eqU t f.2]
theorem mem_eqAt {A : Around} {s : Shared} {x : V} {v : Value} (rx : RelV x v) (fx : flatV x = true) : ∀ {xs : List V} {us : List Value}, Vals xs us → xs.all flatV = true → ∀ u ∈ us, SeqAt.EqAt A s u v (eqU x u)
  | _, _, .nil, _ => fun u hu => by cases hu
  | y :: xs, u :: us, .cons r t, f => fun u' hu => by
    rw [List.all_cons, Bool.and_eq_true] at f
    rcases List.mem_cons.mp hu with rfl | hu
    · rw [eqU_of r f.1]; exact eqAt_V r rx f.1 fx
    · exact mem_eqAt rx fx t f.2 u' hu
def inV (x : V) (xs : List V) : Bool := xs.any fun y => eqV y x
def rIn (K : PySem.W.Frag) (neg : Bool) : R2 := fun x y H Q => ∃ p xs, y = .ref p ∧ (SqL K H p xs ∨ SqT K H p xs) ∧ flatV x = true ∧ xs.all flatV = true ∧ Q (.bl (if neg then !inV x xs else inV x xs)) H
theorem op_in_seq : OpR X (compareOp .In) (rIn X.K false) := by
  intro pins s σ H x y v u Q I rx ry h
  obtain ⟨p, xs, rfl, hq, fx, fs, q⟩ := h
  cases ry
  rcases hq with hq | hq
  · obtain ⟨its, r, pl, hz⟩ := I.list hq
    refine SeqAt.in_listAt (eqU x) pl.isList (fun w hw => mem_eqAt rx fx r fs w (by simpa using hw)) ⟨.bl _, H, I, rfl, ?_⟩
    rw [show its.toArray.any (eqU x) = its.any (eqU x) by simp, any_eqU r fs]
    exact q
  · obtain ⟨its, r, pl, hz⟩ := I.tuple hq
    refine SeqAt.in_tupleAt (eqU x) pl (fun w hw => mem_eqAt rx fx r fs w (by simpa using hw)) ⟨.bl _, H, I, rfl, ?_⟩
    rw [show its.toArray.any (eqU x) = its.any (eqU x) by simp, any_eqU r fs]
    exact q
theorem call_len_seq : CallR X (.builtin "len") (fun xs H Q => ∃ p ys, xs = [.ref p] ∧ (SqL X.K H p ys ∨ SqT X.K H p ys) ∧ Q (.int ys.length) H) := by
  intro pins s σ H xs us Q I r h
  obtain ⟨p, ys, rfl, hq, q⟩ := h
  obtain ⟨u, rfl, rx⟩ := vals1 r
  cases rx
  have hn := line63
  rcases hq with hq | hq
  · obtain ⟨its, r', pl, hz⟩ := I.list hq
    have hlen := r'.length
    exact Calls.call_len_list pl.isList (by simp only [List.size_toArray] <;> omega) ⟨.int ys.length, H, I.tok _, ⟨s.toks + 1, by rw [List.size_toArray, hlen]⟩, q⟩
  · obtain ⟨its, r', pl, hz⟩ := I.tuple hq
    have hlen := r'.length
    exact len_tuple pl (by simp only [List.size_toArray] <;> omega) ⟨.int ys.length, H, I.tok _, ⟨s.toks + 1, by rw [List.size_toArray, hlen]⟩, q⟩
theorem call_list_of : CallR X (.type "list") (fun xs H Q => ∃ p ys, xs = [.ref p] ∧ (SqL X.K H p ys ∨ SqT X.K H p ys) ∧ ∀ l, H l = none → Q (.ref l) (upd H l (.lst ys))) := by
  intro pins s σ H xs us Q I r h
  obtain ⟨p, ys, rfl, hq, q⟩ := h
  obtain ⟨u, rfl, rx⟩ := vals1 r
  cases rx
  have fin : ∀ (its : List Value), Vals ys its → ys.length ≤ sizeLine → ∀ (h' : Heap) (c' : Nat), (∀ b o', s.heap.get? b = some o' → h'.get? b = some o') →
      h'.get? s.heap.objs.size = some { cls := .type "list", dict := none, data := .seq its.toArray c', slots := #[] } → EP X pins σ Q (.ref s.heap.objs.size) { s with heap := h' } := fun its r' hz h' c' kp e =>
    ⟨.ref s.heap.objs.size, _, I.laid (t' := s.toks) kp (Nat.le_refl _) (show ObjOk X.prog X.w _ h' _ (.lst ys) from ⟨hz, its, c', r', e⟩), rfl, q _ (I.hok.fresh (Nat.le_refl _))⟩
  rcases hq with hq | hq
  · obtain ⟨its, r', pl, hz⟩ := I.list hq
    have hlen := r'.length
    obtain ⟨o, ho, hc, n, hd⟩ := pl.isList
    exact call_list_seq p (.inl rfl) ho hc hd (fun h' c' kp e => fin its r' hz h' c' kp e) (by simp only [List.size_toArray] <;> omega)
  · obtain ⟨its, r', pl, hz⟩ := I.tuple hq
    have hlen := r'.length
    obtain ⟨o, ho, hc, n, hd⟩ := pl
    exact call_list_seq p (.inr rfl) ho hc hd (fun h' c' kp e => fin its r' hz h' c' kp e) (by simp only [List.size_toArray] <;> omega)
theorem call_tuple_of : CallR X (.type "tuple") (fun xs H Q => ∃ p ys, xs = [.ref p] ∧ ((SqL X.K H p ys ∧ ∀ l, H l = none → Q (.ref l) (upd H l (.tup ys))) ∨ (SqT X.K H p ys ∧ Q (.ref p) H))) := by
  intro pins s σ H xs us Q I r h
  obtain ⟨p, ys, rfl, h⟩ := h
  obtain ⟨u, rfl, rx⟩ := vals1 r
  cases rx
  rcases h with ⟨hq, q⟩ | ⟨hq, q⟩
  · obtain ⟨its, r', pl, hz⟩ := I.list hq
    have hlen := r'.length
    refine call_tuple_list pl.isList (fun h' kp => ?_) (by simp only [List.size_toArray] <;> omega)
    have I1 : Inv X pins σ H { s with heap := h' } := I.kept (t' := s.toks) kp
    have I2 : Inv X pins σ (upd H h'.objs.size (.tup ys)) { s with heap := h'.push { cls := .type "tuple", data := .seq its.toArray } } :=
      I1.laid (t' := s.toks) (fun b o e => Heap.get?_push_of_some _ e) (Nat.le_refl _) (show ObjOk X.prog X.w _ _ _ (.tup ys) from ⟨hz, its, r', TupN.new _ _⟩)
    exact ⟨.ref h'.objs.size, _, I2, rfl, q _ (I1.hok.fresh (Nat.le_refl _))⟩
  · obtain ⟨its, r', pl, hz⟩ := I.tuple hq
    exact call_tuple_same pl ⟨.ref p, H, I, rfl, q⟩
def tyV (K : PySem.W.Frag) (T : String) (x : V) (H : Hp) : Prop := match x with
  | .str _ => T = "str"
  | .int _ => T = "int"
  | .ref p => (T = "list" ∧ ∃ xs, SqL K H p xs) ∨ (T = "tuple" ∧ ((∃ o, K.lookup p = some o ∧ o.cls = .type "tuple" ∧ o.dict = none) ∨ ∃ xs, SqT K H p xs)) ∨
      (T = "dict" ∧ ((∃ kvs, H p = some (.dK kvs)) ∨ ∃ kvs, H p = some (.dT kvs))) ∨ (T = "set" ∧ ∃ S n, H p = some (.set S n))
  | _ => False
theorem tyV_is {pins : List (Addr × Obj)} {σ : St} {H : Hp} {s : Shared} {T : String} {x : V} {v : Value} (I : Inv X pins σ H s) (r : RelV x v) (ty : tyV X.K T x H) :
    s.TypeIs v T ∧ ∀ a, v = .ref a → ∃ ob, s.heap.get? a = some ob ∧ ob.dict = none := by
  cases x with
  | str z =>
    obtain ⟨t, rfl⟩ := r
    cases (show T = "str" from ty)
    exact ⟨typeIs_str s z t, fun _ e => nomatch e⟩
  | int i =>
    obtain ⟨t, rfl⟩ := r
    cases (show T = "int" from ty)
    exact ⟨typeIs_int s i t, fun _ e => nomatch e⟩
  | ref p =>
    cases r
    rcases ty with ⟨rfl, xs, hq⟩ | ⟨rfl, ⟨o, hk, hc, hd⟩ | ⟨xs, hq | ⟨o, its, n, hk, hc, hd, _⟩⟩⟩ | ⟨rfl, hk⟩ | ⟨rfl, S, n, hk⟩
    · obtain ⟨its, _, pl, _⟩ := I.list hq
      refine ⟨pl.isList.typeIs, fun a e => ?_⟩
      cases e
      obtain ⟨o, n, e, c, hd, _⟩ := pl
      exact ⟨o, e, hd⟩
    · refine ⟨⟨o, I.kIn p o hk, hc⟩, fun a e => ?_⟩
      cases e
      exact ⟨o, I.kIn _ o hk, hd⟩
    · obtain ⟨_, its, _, o, e, c, hd, _⟩ := (show ObjOk _ _ _ _ _ (.tup xs) from hq.ok I.hok)
      refine ⟨⟨o, e, c⟩, fun a q => ?_⟩
      cases q
      exact ⟨o, e, hd⟩
    · refine ⟨⟨o, I.kIn p o hk, hc⟩, fun a e => ?_⟩
      cases e
      exact ⟨o, I.kIn _ o hk, hd⟩
    · have z : ∃ o, s.heap.get? p = some o ∧ o.ExactDict := by
        rcases hk with ⟨kvs, hk⟩ | ⟨kvs, hk⟩
        · obtain ⟨_, _, _, _, o, _, _, e, ex, _⟩ := I.hok p _ hk
          exact ⟨o, e, ex⟩
        · obtain ⟨_, _, _, _, o, _, _, e, ex, _⟩ := I.hok p _ hk
          exact ⟨o, e, ex⟩
      obtain ⟨o, e, ex⟩ := z
      refine ⟨⟨o, e, ex.1⟩, fun a e2 => ?_⟩
      cases e2
      exact ⟨o, e, ex.2.1⟩
    · obtain ⟨o, _, _, _, e, ex, _⟩ := I.hok p _ hk
      refine ⟨⟨o, e, ex.1⟩, fun a e2 => ?_⟩
      cases e2
      exact ⟨o, e, ex.2.1⟩
  | _ => exact False.elim ty
def tBM0 (K : PySem.W.Frag) (T : String) (r : V → List V → Hp → VK → Prop) (to : TE) : TE := fun σ H Q => to σ H fun x H1 => tyV K T x H1 ∧ r x [] H1 Q
def tBM (K : PySem.W.Frag) (T : String) (r : V → List V → Hp → VK → Prop) (to : TE) (t : TA) : TE := fun σ H Q => to σ H fun x H1 => tyV K T x H1 ∧ t σ H1 fun xs H2 => r x xs H2 Q
variable {o e : Expr} {es : List Expr} {to : TE} {t : TA} {name : Str} {apos cpos : Pos} {T id : String} {r : V → List V → Hp → VK → Prop}
theorem pe_bm0 (pa : PlainAttrs T) (slot : Slot T name id) (hty : typeOf (.builtin id) = pure (.type "method_descriptor")) (hm : MtR X id r) (ho : PE X o to)
    (hbase : attributeBase o name X.env (eval o X.env) = eval o X.env := by rfl) (hline : (apos.endLine == cpos.line) = true := by rfl) : PE X (.Call (.Attribute o name apos) [] [] cpos) (tBM0 X.K T r to) := by
  intro pins s σ H Q I h
  refine wpAny_Call_method0_late hbase hline (thn (ho pins s σ H _ I h) fun v s1 ⟨x, H1, I1, r1, ty, q1⟩ => ?_)
  obtain ⟨h1, h2⟩ := tyV_is I1 r1 ty
  exact ⟨T, id, pa, slot, hty, h1, h2, Calls.callWith_builtin rfl (PySem.evalArgs_none (hm pins s1 σ H1 x [] v [] Q I1 r1 .nil q1))⟩
theorem pe_bm (pa : PlainAttrs T) (slot : Slot T name id) (hty : typeOf (.builtin id) = pure (.type "method_descriptor")) (hm : MtR X id r) (ho : PE X o to) (ha : PA X (e :: es) t)
    (hbase : attributeBase o name X.env (eval o X.env) = eval o X.env := by rfl)
    (hfew : ((backTo cpos (starEach (e :: es) X.env)).all (fun x => !x.1) && (backToKw cpos (keywordEach [] X.env)).all (fun x => x.1.isSome)
      && decide ((e :: es).length + ([] : List Keyword).length + (if ([] : List Keyword).isEmpty then 0 else 1) < 30)) = true := by rfl)
    (hline : (apos.endLine == cpos.line) = true := by rfl) (hs : starEach (e :: es) X.env = (false, eval e X.env) :: starEach es X.env := by rfl) (hplain : (backTo cpos (starEach es X.env)).any (·.1) = false := by rfl) :
    PE X (.Call (.Attribute o name apos) (e :: es) [] cpos) (tBM X.K T r to t) := by
  intro pins s σ H Q I h
  refine wpAny_Call_method_late hbase hfew hline rfl (thn (ho pins s σ H _ I h) fun v s1 ⟨x, H1, I1, r1, ty, q1⟩ => ?_)
  obtain ⟨h1, h2⟩ := tyV_is I1 r1 ty
  refine ⟨T, id, pa, slot, hty, h1, h2, ?_⟩
  have hA := ha cpos pins s1 σ H1 _ I1 q1
  rw [hs] at hA ⊢
  refine Calls.callWith_builtin (by show (false || (backTo cpos (starEach es X.env)).any (·.1)) = false; rw [hplain] <;> rfl) (Calls.evalArgs_plain ?_)
  exact thn hA fun us s2 ⟨vs, H2, I2, r2, q2⟩ => hm pins s2 σ H2 x vs v us Q I2 r1 r2 q2
end
end L2
namespace L2
open PySem PySem.Spec PyProof.Rows
def MtM (X : Cx) (id : String) (r : V → List V → Hp → VK → Prop) : Prop :=
  ∀ (pins : List (Addr × Obj)) (s : Shared) (σ : St) (H : Hp) (x : V) (xs : List V) (v : Value) (us : List Value) (Q : VK), Inv X pins σ H s → RelV x v → Vals xs us → r x xs H Q →
    wpAny (model X.prog X.w) X.A (call (.builtin id) (v :: us)) (EP X pins σ Q) X.xe s
theorem Vals.one : ∀ {x : V} {us : List Value}, Vals [x] us → ∃ u, us = [u] ∧ RelV x u
  | _, _, .cons r .nil => ⟨_, rfl, r⟩
theorem Vals.two : ∀ {x y : V} {us : List Value}, Vals [x, y] us → ∃ u v, us = [u, v] ∧ RelV x u ∧ RelV y v
  | _, _, _, .cons r (.cons q .nil) => ⟨_, _, rfl, r, q⟩
theorem Vals.zero : ∀ {us : List Value}, Vals [] us → us = []
  | _, .nil => rfl
theorem Vals.dropLast {xs : List V} {us : List Value} (h : Vals xs us) : Vals xs.dropLast us.dropLast := by
  induction h with
  | nil => exact .nil
  | cons r t ih =>
    cases t with
    | nil => exact .nil
    | cons q t' => exact .cons r ih
theorem Vals.eraseIdx : ∀ {xs : List V} {us : List Value} (i : Nat), Vals xs us → Vals (xs.eraseIdx i) (us.eraseIdx i)
  | _, _, _, .nil => .nil
  | _, _, 0, .cons _ t => t
  | _, _, i + 1, .cons r t => .cons r (Vals.eraseIdx i t)
theorem Vals.reverse {xs : List V} {us : List Value} (h : Vals xs us) : Vals xs.reverse us.reverse := by
  induction h with
  | nil => exact .nil
  | cons r t ih => rw [List.reverse_cons, List.reverse_cons]; exact Vals.append ih (.cons r .nil)
theorem Vals.rep {xs : List V} {us : List Value} (h : Vals xs us) : ∀ k : Nat, Vals (List.replicate k xs).flatten (List.replicate k us).flatten
  | 0 => .nil
  | k + 1 => by
    rw [List.replicate_succ, List.replicate_succ, List.flatten_cons, List.flatten_cons]
    exact Vals.append h (Vals.rep h k)
theorem erase_last {α : Type} (l : List α) : l.eraseIdx (l.length - 1) = l.dropLast := by
  induction l with
  | nil => rfl
  | cons a r ih =>
    cases r with
    | nil => rfl
    | cons b r =>
      have e : (a :: b :: r).length - 1 = ((b :: r).length - 1) + 1 := by
        have h1 : (a :: b :: r).length = r.length + 2 := rfl
        have h2 : (b :: r).length = r.length + 1 := rfl
        omega
      rw [e, List.eraseIdx_cons_succ, ih]
      all_goals rfl
theorem len_erase {α : Type} : ∀ (l : List α) (i : Nat), (l.eraseIdx i).length ≤ l.length
  | [], _ => Nat.le_refl _
  | _ :: _, 0 => Nat.le_succ _
  | _ :: r, i + 1 => Nat.succ_le_succ (len_erase r i)
theorem foldl_rep (its : List Value) : ∀ (k : Nat) (acc : List Value),
    List.foldl (fun x1 x2 => x1 ++ x2) acc.toArray (List.replicate k its.toArray) = (acc ++ (List.replicate k its).flatten).toArray
  | 0, acc => by simp
  | k + 1, acc => by
    have e : acc.toArray ++ its.toArray = (acc ++ its).toArray := by simp
    have e2 : (acc ++ its) ++ (List.replicate k its).flatten = acc ++ (List.replicate (k + 1) its).flatten := by
      rw [List.replicate_succ, List.flatten_cons, List.append_assoc]
    rw [← e2, ← foldl_rep its k (acc ++ its), ← e, List.replicate_succ, List.foldl_cons]
section
variable {X : Cx} {pins : List (Addr × Obj)} {σ : St} {H : Hp} {s : Shared} {l b : Addr} {xs ys zs : List V}
theorem Inv.lset {its its' : List Value} {n : Nat} {f : Array Value → Array Value} {t' : Nat} (I : Inv X pins σ H s) (hH : H l = some (.lst xs))
    (e : s.heap.get? l = some { cls := .type "list", data := .seq its.toArray n }) (hf : f its.toArray = its'.toArray) (hv : Vals ys its') (hz : ys.length ≤ sizeLine) :
    Inv X pins σ (upd H l (.lst ys)) { s with heap := s.heap.update l (Obj.mapSeq f), toks := t' } := by
  have q := PySem.IsL.update e f
  rw [hf] at q
  refine I.write (x := l) (e := l) (by rw [hH]; exact trivial) (.inl rfl) (fun b' u hb hu => (Heap.get?_update_other s.heap (Obj.mapSeq f) (Ne.symm hb)).trans hu) ⟨_, q⟩ ?_
  exact ⟨hz, its', _, hv, q⟩
theorem Inv.lnew {its : List Value} {t' : Nat} (I : Inv X pins σ H s) (hv : Vals ys its) (hz : ys.length ≤ sizeLine) :
    Inv X pins σ (upd H s.heap.objs.size (.lst ys)) { s with heap := s.heap.push { cls := .type "list", data := .seq its.toArray }, toks := t' } :=
  I.laid (fun _ _ q => Heap.get?_push_of_some _ q) (Nat.le_refl _) ⟨hz, its, 0, hv, Heap.get?_push_size _ rfl⟩
theorem Inv.fresh (I : Inv X pins σ H s) : H s.heap.objs.size = none := I.hok.fresh (Nat.le_refl _)
theorem Inv.lstM (I : Inv X pins σ H s) (hH : H l = some (.lst xs)) : xs.length ≤ sizeLine ∧ ∃ (its : List Value) (n : Nat), Vals xs its ∧ xs.length = its.length ∧ s.heap.get? l = some { cls := .type "list", data := .seq its.toArray n } := by
  obtain ⟨z, its, n, r, e⟩ := I.hok l _ hH
  exact ⟨z, its, n, r, r.length, e⟩
theorem notLongL {n : Nat} (h : n ≤ sizeLine) : Builtin.List.listTooLong n = false := by
  unfold Builtin.List.listTooLong
  exact decide_eq_false (by omega)
end
section
variable {X : Cx}
def rAppend : V → List V → Hp → VK → Prop := fun x vs H Q => ∃ l xs y, x = .ref l ∧ vs = [y] ∧ H l = some (.lst xs) ∧ xs.length < sizeLine ∧ Q .non (upd H l (.lst (xs ++ [y])))
theorem mt_append : MtM X "list.append" rAppend := by
  intro pins s σ H x vs v us Q I rx rv h
  obtain ⟨l, xs, y, rfl, rfl, hH, hz, q⟩ := h
  cases rx
  obtain ⟨u, rfl, ru⟩ := rv.one
  obtain ⟨z, its, n, r, hl, e⟩ := I.lstM hH
  refine call_meets F.slot_list_append ⟨_, e, rfl⟩ F.entry_list_append (F.args_list_append_2 _ _) (PySem.list_append l its.toArray n u (by rw [List.size_toArray]; omega)) ⟨e, ?_⟩
  refine ⟨.non, _, I.lset (its' := its ++ [u]) hH e (by simp) (r.append (.cons ru .nil)) ?_, rfl, q⟩
  rw [List.length_append, List.length_singleton]
  omega
def rExtend : V → List V → Hp → VK → Prop := fun x vs H Q => ∃ l b xs zs, x = .ref l ∧ vs = [.ref b] ∧ H l = some (.lst xs) ∧ H b = some (.lst zs) ∧ xs.length + zs.length ≤ sizeLine ∧ Q .non (upd H l (.lst (xs ++ zs)))
def rPop : V → List V → Hp → VK → Prop := fun x vs H Q => ∃ l xs y, x = .ref l ∧ vs = [] ∧ H l = some (.lst xs) ∧ xs[xs.length - 1]? = some y ∧ Q y (upd H l (.lst xs.dropLast))
theorem mt_pop : MtM X "list.pop" rPop := by
  intro pins s σ H x vs v us Q I rx rv h
  obtain ⟨l, xs, y, rfl, rfl, hH, hy, q⟩ := h
  cases rx
  have hus := rv.zero
  subst hus
  obtain ⟨z, its, n, r, hl, e⟩ := I.lstM hH
  obtain ⟨u, hu, ru⟩ := r.get hy
  have hy' : its.toArray[its.toArray.size - 1]? = some u := by
    show its.toArray[its.length - 1]? = some u
    rw [← Array.getElem?_toList, ← hl]
    exact hu
  refine call_meets F.slot_list_pop ⟨_, e, rfl⟩ F.entry_list_pop (F.args_list_pop_1 _) (MeetsSeq.list_pop_last l its.toArray n u hy' (by rw [List.size_toArray]; omega)) ⟨e, ?_⟩
  refine ⟨y, _, I.lset (its' := its.dropLast) hH e ?_ r.dropLast ?_, ru, q⟩
  · show its.toArray.eraseIdxIfInBounds (its.toArray.size - 1) = its.dropLast.toArray
    rw [List.size_toArray, List.eraseIdxIfInBounds_toArray, erase_last]
  · rw [List.length_dropLast]
    omega
def rPopAt : V → List V → Hp → VK → Prop := fun x vs H Q => ∃ l xs i k y, x = .ref l ∧ vs = [.int i] ∧ H l = some (.lst xs) ∧ -(2 ^ 63) ≤ i ∧ i < 2 ^ 63 ∧ seqIndex? i xs.length = some k ∧ xs[k]? = some y ∧ Q y (upd H l (.lst (xs.eraseIdx k)))
theorem mt_popAt : MtM X "list.pop" rPopAt := by
  intro pins s σ H x vs v us Q I rx rv h
  obtain ⟨l, xs, i, k, y, rfl, rfl, hH, h1, h2, hk, hy, q⟩ := h
  cases rx
  obtain ⟨u, rfl, ru⟩ := rv.one
  obtain ⟨t, rfl⟩ := ru
  obtain ⟨z, its, n, r, hl, e⟩ := I.lstM hH
  obtain ⟨w, hw, rw'⟩ := r.get hy
  refine call_meets F.slot_list_pop ⟨_, e, rfl⟩ F.entry_list_pop (F.args_list_pop_2 _ _)
    (MeetsSeq.list_pop_at l its.toArray n i t k w (fitsIndex_both h1 h2) (by rw [List.size_toArray, ← hl]; exact hk) (by rw [← Array.getElem?_toList]; exact hw) (by rw [List.size_toArray]; omega)) ⟨e, ?_⟩
  refine ⟨y, _, I.lset (its' := its.eraseIdx k) hH e ?_ (r.eraseIdx k) ?_, rw', q⟩
  · show its.toArray.eraseIdxIfInBounds k = (its.eraseIdx k).toArray
    rw [List.eraseIdxIfInBounds_toArray]
  · have := len_erase xs k
    omega
def rReverse : V → List V → Hp → VK → Prop := fun x vs H Q => ∃ l xs, x = .ref l ∧ vs = [] ∧ H l = some (.lst xs) ∧ Q .non (upd H l (.lst xs.reverse))
def rClear : V → List V → Hp → VK → Prop := fun x vs H Q => ∃ l xs, x = .ref l ∧ vs = [] ∧ H l = some (.lst xs) ∧ Q .non (upd H l (.lst []))
def rCat : R2 := fun x y H Q => ∃ l b xs zs, x = .ref l ∧ y = .ref b ∧ H l = some (.lst xs) ∧ H b = some (.lst zs) ∧ xs.length + zs.length ≤ sizeLine ∧ ∀ p, H p = none → Q (.ref p) (upd H p (.lst (xs ++ zs)))
theorem op_cat : OpR X (binaryOp .Add) rCat := by
  intro pins s σ H x y v u Q I rx ry h
  obtain ⟨l, b, xs, zs, rfl, rfl, hH, hB, hz, q⟩ := h
  cases rx
  cases ry
  obtain ⟨z, its, n, r, hl, e⟩ := I.lstM hH
  obtain ⟨z2, its2, n2, r2, hl2, e2⟩ := I.lstM hB
  refine PySem.P.add_list e e2 ?_ (by rw [List.size_toArray, List.size_toArray]; omega)
  have ea : its.toArray ++ its2.toArray = (its ++ its2).toArray := by simp
  rw [ea]
  exact ⟨.ref _, _, I.lnew (t' := s.toks) (r.append r2) (by rw [List.length_append]; omega), rfl, q _ I.fresh⟩
def rRep : R2 := fun x y H Q => ∃ l k xs, x = .ref l ∧ y = .int k ∧ H l = some (.lst xs) ∧ -(2 ^ 63) ≤ k ∧ k < 2 ^ 63 ∧ xs.length * k.toNat ≤ sizeLine ∧
  ∀ p, H p = none → Q (.ref p) (upd H p (.lst (List.replicate k.toNat xs).flatten))
theorem len_rep {α : Type} (xs : List α) (k : Nat) : (List.replicate k xs).flatten.length = k * xs.length := by
  induction k with
  | zero => simp
  | succ k ih => rw [List.replicate_succ, List.flatten_cons, List.length_append, ih, Nat.succ_mul, Nat.add_comm]
theorem op_rep : OpR X (binaryOp .Mult) rRep := by
  intro pins s σ H x y v u Q I rx ry h
  obtain ⟨l, k, xs, rfl, rfl, hH, h1, h2, hz, q⟩ := h
  cases rx
  obtain ⟨t, rfl⟩ := ry
  obtain ⟨z, its, n, r, hl, e⟩ := I.lstM hH
  have hlen : its.toArray.size * k.toNat ≤ sizeLine := by rw [List.size_toArray, ← hl]; exact hz
  have hcap : ¬ its.toArray.size * k.toNat > (2 ^ 63 - 1) / 8 := by
    have : (sizeLine : Nat) ≤ (2 ^ 63 - 1) / 8 := by decide
    omega
  have hfit : ¬ (!Builtin.List.listFitsIndex k) = true := by
    rw [fitsIndex_both h1 h2]
    exact Bool.false_ne_true
  have hlong : ¬ Builtin.List.listTooLong (its.toArray.size * k.toNat) = true := by
    rw [notLongL hlen]
    exact Bool.false_ne_true
  have hnew : List.foldl (fun x1 x2 => x1 ++ x2) #[] (List.replicate (if its.toArray.isEmpty = true then 0 else k.toNat) its.toArray) = (List.replicate k.toNat its).flatten.toArray := by
    have f0 : ∀ m : Nat, List.foldl (fun x1 x2 => x1 ++ x2) #[] (List.replicate m its.toArray) = (List.replicate m its).flatten.toArray := fun m => by
      have := foldl_rep its m []
      rw [List.nil_append] at this
      exact this
    rw [f0]
    cases its with
    | nil => simp
    | cons a r' => rw [if_neg (by simp)]
  refine wpAny_binaryOp_repeat_ref (T := "list") (U := "int") (by decide) ⟨_, e, rfl⟩ (fun s' => typeIs_int s' k t) noFill_list_mul F.fills_int_mul F.slot_int_rmul repeat_list F.slot_int_index.lookup
    (call_meets F.slot_int_rmul (typeIs_int s k t) F.entry_int_rmul (F.args_int_rmul_2 _ _) (int___rmul___int_list k t l its.toArray n)
      ⟨e, rfl, ⟨_, e, rfl⟩, call_meets F.slot_list_mul ⟨_, e, rfl⟩ F.entry_list_mul (F.args_list_mul_2 _ _) (AutoListH.list___mul___list_int_3 l its.toArray n k t hfit hcap hlong) ⟨e, ?_⟩⟩)
  rw [hnew]
  exact ⟨.ref _, _, I.lnew (t' := s.toks) (r.rep k.toNat) (by rw [len_rep, Nat.mul_comm]; exact hz), rfl, q _ I.fresh⟩
end
section
variable {prog : Program} {w : World} {A : Around} {E : Value → Shared → Prop} {s : Shared}
set_option maxRecDepth 100000 in
end
section
variable {X : Cx}
end
end L2
namespace L2
open PySem PySem.Spec PyProof.Rows
theorem Vals.strs : ∀ {xs : List Str} {us : List Value}, Vals (xs.map V.str) us → StrsAre us xs
  | [], us, h => by
    rw [List.map_nil] at h
    cases h
    exact StrsAre.nil
  | x :: xs, us, h => by
    rw [List.map_cons] at h
    cases h with
    | cons r t =>
      obtain ⟨k, rfl⟩ := r
      exact StrsAre.cons x k (Vals.strs t)
theorem Vals.bls : ∀ {bs : List Bool} {us : List Value}, Vals (bs.map V.bl) us → us = bs.map Value.bool
  | [], us, h => by
    rw [List.map_nil] at h
    cases h
    rfl
  | b :: bs, us, h => by
    rw [List.map_cons] at h
    cases h with
    | cons r t =>
      cases r
      rw [Vals.bls t, List.map_cons]
theorem Vals.ref1 {a : Addr} {us : List Value} (r : Vals [V.ref a] us) : us = [Value.ref a] := by
  cases r with
  | cons r t =>
    cases t
    cases r
    rfl
section
variable {prog : Program} {w : World} {A : Around} {E : Value → Shared → Prop} {s : Shared} {l : Addr} {its : List Value} {ns : List Int} {Q : Value → Shared → Prop}
end
section
variable {X : Cx}
def rSum (K : PySem.W.Frag) : List V → Hp → VK → Prop := fun vs H Q => ∃ (a : Addr) (ns : List Int), vs = [V.ref a] ∧ SqL K H a (ns.map V.int) ∧ Q (.int ns.sum) H
def rMax (K : PySem.W.Frag) : List V → Hp → VK → Prop := fun vs H Q => ∃ (a : Addr) (ns : List Int), vs = [V.ref a] ∧ SqL K H a (ns.map V.int) ∧ 0 < ns.length ∧ ∀ m, m ∈ ns → (∀ y, y ∈ ns → y ≤ m) → Q (.int m) H
def rMin (K : PySem.W.Frag) : List V → Hp → VK → Prop := fun vs H Q => ∃ (a : Addr) (ns : List Int), vs = [V.ref a] ∧ SqL K H a (ns.map V.int) ∧ 0 < ns.length ∧ ∀ m, m ∈ ns → (∀ y, y ∈ ns → m ≤ y) → Q (.int m) H
def rSorted (K : PySem.W.Frag) : List V → Hp → VK → Prop := fun vs H Q => ∃ (a : Addr) (ns : List Int), vs = [V.ref a] ∧ SqL K H a (ns.map V.int) ∧ ns.length < 64 ∧
  ∀ (ns' : List Int) (p : Addr), ns'.Perm ns → ns'.Pairwise (· ≤ ·) → H p = none → Q (.ref p) (upd H p (.lst (ns'.map V.int)))
def rSortedS (K : PySem.W.Frag) : List V → Hp → VK → Prop := fun vs H Q => ∃ (a : Addr) (xs : List Str), vs = [V.ref a] ∧ SqL K H a (xs.map V.str) ∧ xs.length < 64 ∧
  ∀ (ys : List Str) (p : Addr), ys.Perm xs → sortedS ys = true → H p = none → Q (.ref p) (upd H p (.lst (ys.map V.str)))
def rSort : V → List V → Hp → VK → Prop := fun x xs H Q => ∃ (a : Addr) (ns : List Int), x = V.ref a ∧ xs = [] ∧ H a = some (.lst (ns.map V.int)) ∧ ns.length < 64 ∧
  ∀ ns' : List Int, ns'.Perm ns → ns'.Pairwise (· ≤ ·) → Q .non (upd H a (.lst (ns'.map V.int)))
end
section
variable {X : Cx}
def rIndex (K : PySem.W.Frag) : V → List V → Hp → VK → Prop := fun x xs H Q => ∃ (a : Addr) (ys : List V) (y : V) (j : Nat) (z : V), x = V.ref a ∧ xs = [y] ∧ SqL K H a ys ∧ flatV y = true ∧ ys.all flatV = true ∧ ys[j]? = some z ∧ eqV z y = true ∧
  (∀ (m : Nat) (z' : V), m < j → ys[m]? = some z' → eqV z' y = false) ∧ Q (.int (j : Nat)) H
theorem flat_at {ys : List V} (f : ys.all flatV = true) {j : Nat} {z : V} (h : ys[j]? = some z) : flatV z = true := List.all_eq_true.mp f z (List.mem_of_getElem? h)
theorem mt_index : MtR X "list.index" (rIndex X.K) := by
  intro pins s σ H x xs v us Q I rx rxs h
  obtain ⟨a, ys, y, j, z, rfl, rfl, hs, fy, fys, hz, hzj, hno, q⟩ := h
  cases rx
  cases rxs with
  | cons ry rt =>
    rename_i uy ut
    cases rt
    obtain ⟨its, rv, ⟨⟨cls, dd, data, sl⟩, n, ho, hc, hdn, hd⟩, hlen⟩ := I.list hs
    simp only at hc hd
    subst hc hd
    obtain ⟨u, hu, ru⟩ := rv.get hz
    obtain ⟨hjl, hje⟩ := List.getElem?_eq_some_iff.mp hu
    have hvl := rv.length
    have hj : j < its.toArray.size := by simpa using hjl
    have hsl := sizeLine_eq
    refine call_meets PySem.F.slot_list_index ⟨_, ho, rfl⟩ PySem.F.entry_list_index (PySem.F.args_list_index_2 _ _)
      (SeqAt.list_indexAt a its.toArray n dd sl uy (eqU y) j hj (by omega) ?_ ?_) ⟨ho, fun u' hu' => mem_eqAt ry fy rv fys u' (by simpa using hu'), ?_⟩
    · have e1 : its.toArray[j] = u := by simpa using hje
      rw [e1, eqU_of ru (flat_at fys hz)]
      exact hzj
    · intro m hm hmj
      have hml : m < its.length := by simpa using hm
      have hmy : m < ys.length := by omega
      have hy' : ys[m]? = some ys[m] := List.getElem?_eq_getElem hmy
      obtain ⟨u2, hu2, ru2⟩ := rv.get hy'
      obtain ⟨_, hme⟩ := List.getElem?_eq_some_iff.mp hu2
      have e1 : its.toArray[m] = u2 := by simpa using hme
      rw [e1, eqU_of ru2 (flat_at fys hy')]
      exact hno m _ hmj hy'
    · exact ⟨.int (j : Nat), H, I.tok _, ⟨_, rfl⟩, q⟩
end
section
variable {X : Cx}
end
theorem iter_any {prog : Program} {w : World} {A : Around} {E : Value → Shared → Prop} {s : Shared} {l : Addr} {items : Array Value} {Q : Value → Shared → Prop} (hl : s.heap.IsList l items)
    (h : ∀ s₂ : Shared, s₂ = { s with heap := s.heap.push { cls := .type "list_iterator", data := .fields #[.ref l, .int 0 0] } } →
      (s₂.heap.IsListIter s.heap.objs.size l 0 ∧ s₂.heap.IsList l items) → l ≠ s.heap.objs.size → Q (.ref s.heap.objs.size) s₂) : wpAny (model prog w) A (pyIter (.ref l)) Q E s := by
  have hlt : l < s.heap.objs.size := by obtain ⟨_, e, _⟩ := hl; exact Heap.lt_size e
  exact wpAny_pyIter_list hl (h _ rfl ⟨⟨_, Heap.get?_push_size _ rfl, rfl, rfl⟩, hl.push _⟩ (Nat.ne_of_lt hlt))
theorem truth_bools {prog : Program} {w : World} {A : Around} {bs : List Bool} {its : List Value} (e : its = bs.map Value.bool) :
    TruthOf prog w A (fun i v => its.toArray[i]? = some v) (fun i => bs.getD i false) := fun i v s Q E hv hq => by
  have hv' : its[i]? = some v := by simpa using hv
  rw [e, List.getElem?_map] at hv'
  obtain ⟨b, hb, rfl⟩ := Option.map_eq_some_iff.mp hv'
  have hg : bs.getD i false = b := by rw [List.getD_eq_getElem?_getD, hb] <;> rfl
  have hq' : Q (bs.getD i false) s := hq
  rw [hg] at hq'
  exact wpAny_truthy_bool hq'
theorem any_range : ∀ bs : List Bool, (List.range bs.length).any (fun i => bs.getD i false) = bs.any id
  | [] => rfl
  | b :: bs => by
    rw [List.length_cons, List.range_succ_eq_map, List.any_cons, List.any_map, List.any_cons, ← any_range bs]
    all_goals rfl
section
variable {X : Cx}
def rAny (K : PySem.W.Frag) : List V → Hp → VK → Prop := fun vs H Q => ∃ (a : Addr) (bs : List Bool), vs = [V.ref a] ∧ SqL K H a (bs.map V.bl) ∧ Q (.bl (bs.any id)) H
def rAll (K : PySem.W.Frag) : List V → Hp → VK → Prop := fun vs H Q => ∃ (a : Addr) (bs : List Bool), vs = [V.ref a] ∧ SqL K H a (bs.map V.bl) ∧ Q (.bl (bs.all id)) H
theorem cr_any (hc : X.calm = true) : CallR X (.builtin "any") (rAny X.K) := by
  intro pins s σ H vs us Q I r h
  obtain ⟨a, bs, rfl, hs, q⟩ := h
  obtain ⟨its, rv, hl, _⟩ := I.list hs
  rw [Vals.ref1 r]
  have hb := rv.bls
  refine call_any_walk (iter_any hl.isList fun s₂ e2 st hne => ?_)
  subst e2
  refine ⟨_, _, _, _, _, _, _, rfl, Walks.list (A := X.A.in1) (I.ok.hd hc) _ a hne its.toArray, st, truth_bools hb, fun h' tk hk => ?_⟩
  refine ⟨.bl _, H, I.kept fun b o eo => hk b o (fun hmem => ?_) (Heap.get?_push_of_some _ eo), ?_, q⟩
  · rcases List.mem_cons.mp hmem with e1 | hmem
    · exact absurd (e1 ▸ Heap.lt_size eo) (Nat.lt_irrefl _)
    · cases hmem
  · show Value.bool _ = Value.bool _
    rw [← any_range, hb, List.size_toArray, List.length_map]
end
mutual
inductive Dp (K : PySem.W.Frag) (H : Hp) : V → PyData → Prop
  | non : Dp K H .non .none
  | bl (b : Bool) : Dp K H (.bl b) (.bool b)
  | int (i : Int) : Dp K H (.int i) (.int i)
  | str (x : Str) : Dp K H (.str x) (.str x)
  | lst {a : Addr} {xs : List V} {ds : List PyData} : SqL K H a xs → DpAll K H xs ds → Dp K H (.ref a) (.list ds)
  | tup {a : Addr} {xs : List V} {ds : List PyData} : SqT K H a xs → DpAll K H xs ds → Dp K H (.ref a) (.tuple ds)
inductive DpAll (K : PySem.W.Frag) (H : Hp) : List V → List PyData → Prop
  | nil : DpAll K H [] []
  | cons {v : V} {vs : List V} {d : PyData} {ds : List PyData} : Dp K H v d → DpAll K H vs ds → DpAll K H (v :: vs) (d :: ds)
end
section
variable {X : Cx} {pins : List (Addr × Obj)} {σ : St} {H : Hp} {s : Shared}
mutual
theorem Dp.reads (I : Inv X pins σ H s) : ∀ (d : PyData) (v : V) (u : Value), Dp X.K H v d → RelV v u → ∃ as, Reads s.heap u d as
  | .none, _, _, h, r => by
    cases h
    cases r
    exact ⟨_, Reads.none⟩
  | .bool b, _, _, h, r => by
    cases h
    cases r
    exact ⟨_, Reads.bool b⟩
  | .int i, _, _, h, r => by
    cases h
    obtain ⟨t, rfl⟩ := r
    exact ⟨_, Reads.int i t⟩
  | .str x, _, _, h, r => by
    cases h
    obtain ⟨t, rfl⟩ := r
    exact ⟨_, Reads.str x t⟩
  | .list ds, _, _, h, r => by
    cases h with
    | lst hs ha =>
      cases r
      obtain ⟨its, rv, ⟨o, n, ho, hc, _, hd⟩, _⟩ := I.list hs
      obtain ⟨as, hr⟩ := Dp.readsAll I ds _ its ha rv
      exact ⟨_, Reads.list ho hc hd hr⟩
  | .tuple ds, _, _, h, r => by
    cases h with
    | tup hs ha =>
      cases r
      obtain ⟨its, rv, ⟨o, ho, hc, n, hd⟩, _⟩ := I.tuple hs
      obtain ⟨as, hr⟩ := Dp.readsAll I ds _ its ha rv
      exact ⟨_, Reads.tuple ho hc hd hr⟩
  | .dict _, _, _, h, _ => by cases h
theorem Dp.readsAll (I : Inv X pins σ H s) : ∀ (ds : List PyData) (vs : List V) (us : List Value), DpAll X.K H vs ds → Vals vs us → ∃ as, ReadsAll s.heap us ds as
  | [], _, _, h, r => by
    cases h
    cases r
    exact ⟨_, ReadsAll.nil⟩
  | d :: ds, _, _, h, r => by
    cases h with
    | cons h1 h2 =>
      cases r with
      | cons r1 r2 =>
        obtain ⟨as, q1⟩ := Dp.reads I d _ _ h1 r1
        obtain ⟨bs, q2⟩ := Dp.readsAll I ds _ _ h2 r2
        exact ⟨_, ReadsAll.cons q1 q2⟩
end
end
section
variable {X : Cx}
def rEqD (K : PySem.W.Frag) : R2 := fun x y H Q => ∃ d e, Dp K H x d ∧ Dp K H y e ∧ SeqAt.shaped d = true ∧ SeqAt.shaped e = true ∧ Q (.bl (PyData.eqv d e)) H
def rNeD (K : PySem.W.Frag) : R2 := fun x y H Q => ∃ d e, Dp K H x d ∧ Dp K H y e ∧ SeqAt.shaped d = true ∧ SeqAt.shaped e = true ∧ Q (.bl (!PyData.eqv d e)) H
theorem op_eqD (hu : X.A.units + 64 < cLine) : OpR X (compareOp .Eq) (rEqD X.K) := by
  intro pins s σ H x y v u Q I rx ry h
  obtain ⟨d, e, hd, he, sd, se, q⟩ := h
  obtain ⟨as, r1⟩ := Dp.reads I d x v hd rx
  obtain ⟨bs, r2⟩ := Dp.reads I e y u he ry
  exact SeqAt.compareEq_shaped r1 r2 sd se hu ⟨.bl _, H, I, rfl, q⟩
theorem op_neD (hu : X.A.units + 64 < cLine) : OpR X (compareOp .NotEq) (rNeD X.K) := by
  intro pins s σ H x y v u Q I rx ry h
  obtain ⟨d, e, hd, he, sd, se, q⟩ := h
  obtain ⟨as, r1⟩ := Dp.reads I d x v hd rx
  obtain ⟨bs, r2⟩ := Dp.reads I e y u he ry
  exact SeqAt.compareNe_shaped r1 r2 sd se hu ⟨.bl _, H, I, rfl, q⟩
end
end L2
namespace L2
open PySem PySem.Spec PyProof.Rows
abbrev CellAt (h : Heap) (c : Addr) (v : Option Value) : Prop := h.IsCell c v
def relS (scope sc : Scope) : Scope :=
  { scope with names := scope.names.map fun (n, k) => if (k == .free && sc.kind == .function && sc.names.lookup n == some .cell) then (n, .cell) else (n, k) }
def cloFrom (cells : List (Str × Addr)) : List (Str × NameKind) → List (Str × Addr) → List (Str × Addr)
  | [], acc => acc
  | (n, k) :: r, acc => if k == .free then cloFrom cells r ((n, (cells.lookup n).getD 0) :: acc) else cloFrom cells r acc
theorem closure_loop (env : Env) (f : Str × NameKind → List (Str × Addr) → Sem (ForInStep (List (Str × Addr))))
    (hf : ∀ n k c, f (n, k) c = if k == .free then (do let a ← cellOf env n; pure (.yield ((n, a) :: c))) else pure (.yield c)) :
    ∀ (names : List (Str × NameKind)) (acc : List (Str × Addr)), (∀ y ∈ names, y.2 = .free → ∃ c, env.cells.lookup y.1 = some c) → forIn names acc f = pure (cloFrom env.cells names acc)
  | [], acc, _ => by rw [List.forIn_nil]; rfl
  | (n, k) :: r, acc, h => by
    rw [List.forIn_cons, hf]
    have ih := fun acc => closure_loop env f hf r acc fun y hy => h y (List.mem_cons_of_mem _ hy)
    unfold cloFrom
    by_cases hk : (k == NameKind.free) = true
    · rw [if_pos hk, if_pos hk]
      obtain ⟨c, hc⟩ := h (n, k) List.mem_cons_self (by simpa using hk)
      have e : cellOf env n = pure c := by unfold cellOf; rw [hc]
      rw [e]
      have e2 : (env.cells.lookup n).getD 0 = c := by rw [hc]; rfl
      rw [e2]
      exact ih _
    · rw [if_neg hk, if_neg hk]
      exact ih _
theorem closure_ok {scope : Scope} {env : Env} (h : ∀ y ∈ scope.names, y.2 = .free → ∃ c, env.cells.lookup y.1 = some c) : closureFor scope env = pure (cloFrom env.cells scope.names []) := by
  simp only [closureFor]
  rw [closure_loop env _ (fun n k c => rfl) scope.names [] h]
  rfl
theorem mem_lookup {α : Type} : ∀ {l : List (Str × α)} {n : Str} {c : α}, (n, c) ∈ l → ∃ c', l.lookup n = some c'
  | (k, v) :: r, n, c, h => by
    rw [List.lookup_cons]
    cases hb : n == k with
    | true => exact ⟨_, rfl⟩
    | false =>
      rcases List.mem_cons.mp h with e | h
      · cases e; simp at hb
      · exact mem_lookup h
theorem cloFrom_mem {cells : List (Str × Addr)} : ∀ {names : List (Str × NameKind)} {acc : List (Str × Addr)} {n : Str} {c : Addr}, (n, c) ∈ cloFrom cells names acc → (n, c) ∈ acc ∨ ((n, .free) ∈ names ∧ c = (cells.lookup n).getD 0)
  | [], _, _, _, h => .inl h
  | (m, k) :: r, acc, n, c, h => by
    unfold cloFrom at h
    split at h
    · rename_i hk
      have hk : k = .free := by simpa using hk
      rcases cloFrom_mem h with h | ⟨h1, h2⟩
      · rcases List.mem_cons.mp h with e | h
        · cases e; exact .inr ⟨hk ▸ List.mem_cons_self, rfl⟩
        · exact .inl h
      · exact .inr ⟨List.mem_cons_of_mem _ h1, h2⟩
    · rcases cloFrom_mem h with h | ⟨h1, h2⟩
      · exact .inl h
      · exact .inr ⟨List.mem_cons_of_mem _ h1, h2⟩
theorem cloFrom_acc {cells : List (Str × Addr)} : ∀ {names : List (Str × NameKind)} {acc : List (Str × Addr)} {p : Str × Addr}, p ∈ acc → p ∈ cloFrom cells names acc
  | [], _, _, h => h
  | (m, k) :: r, acc, p, h => by
    unfold cloFrom
    split
    · exact cloFrom_acc (List.mem_cons_of_mem _ h)
    · exact cloFrom_acc h
theorem cloFrom_has {cells : List (Str × Addr)} : ∀ {names : List (Str × NameKind)} {acc : List (Str × Addr)} {n : Str}, (n, .free) ∈ names → (n, (cells.lookup n).getD 0) ∈ cloFrom cells names acc
  | (m, k) :: r, acc, n, h => by
    unfold cloFrom
    rcases List.mem_cons.mp h with e | h
    · cases e
      exact cloFrom_acc List.mem_cons_self
    · split
      · exact cloFrom_has h
      · exact cloFrom_has h
theorem cells_mem : ∀ {names : List (Str × NameKind)} {h : Heap} {acc : List (Str × Addr)} {x : Str} {c : Addr}, (x, c) ∈ cellsFrom h.objs.size names acc →
    (x, c) ∈ acc ∨ ((x, .cell) ∈ names ∧ h.objs.size ≤ c ∧ CellAt (pushCells h names) c none)
  | [], _, _, _, _, h => .inl h
  | (n, k) :: r, h, acc, x, c, hm => by
    unfold cellsFrom at hm
    unfold pushCells
    split at hm
    · rename_i hk
      rw [if_pos hk]
      have hk : k = .cell := by simpa using hk
      rw [← Heap.size_push h { cls := .type "cell", data := .cell none }] at hm
      rcases cells_mem hm with hm | ⟨h1, h2, h3⟩
      · rcases List.mem_cons.mp hm with e | hm
        · cases e
          exact .inr ⟨hk ▸ List.mem_cons_self, Nat.le_refl _, _, pushCells_keeps r _ _ _ (Heap.get?_push_size _ rfl), rfl⟩
        · exact .inl hm
      · rw [Heap.size_push] at h2
        exact .inr ⟨List.mem_cons_of_mem _ h1, Nat.le_of_succ_le h2, h3⟩
    · rename_i hk
      rw [if_neg hk]
      rcases cells_mem hm with hm | ⟨h1, h2, h3⟩
      · exact .inl hm
      · exact .inr ⟨List.mem_cons_of_mem _ h1, h2, h3⟩
theorem cells_acc : ∀ {names : List (Str × NameKind)} {n : Nat} {acc : List (Str × Addr)} {p : Str × Addr}, p ∈ acc → p ∈ cellsFrom n names acc
  | [], _, _, _, h => h
  | (m, k) :: r, n, acc, p, h => by
    unfold cellsFrom
    split
    · exact cells_acc (List.mem_cons_of_mem _ h)
    · exact cells_acc h
theorem cells_has : ∀ {names : List (Str × NameKind)} {n : Nat} {acc : List (Str × Addr)} {x : Str}, (x, .cell) ∈ names → ∃ c, (x, c) ∈ cellsFrom n names acc
  | (m, k) :: r, n, acc, x, h => by
    unfold cellsFrom
    rcases List.mem_cons.mp h with e | h
    · cases e
      exact ⟨n, cells_acc List.mem_cons_self⟩
    · split
      · exact cells_has h
      · exact cells_has h
theorem cells_inj : ∀ {names : List (Str × NameKind)} {h : Heap} {acc : List (Str × Addr)} {x y : Str} {c : Addr}, (∀ p ∈ acc, p.2 < h.objs.size) → (∀ x y c, (x, c) ∈ acc → (y, c) ∈ acc → x = y) →
    (x, c) ∈ cellsFrom h.objs.size names acc → (y, c) ∈ cellsFrom h.objs.size names acc → x = y
  | [], _, _, _, _, _, _, hi, h1, h2 => hi _ _ _ h1 h2
  | (n, k) :: r, h, acc, x, y, c, hl, hi, h1, h2 => by
    unfold cellsFrom at h1 h2
    split at h1
    · rename_i hk
      rw [if_pos hk] at h2
      rw [← Heap.size_push h { cls := .type "cell", data := .cell none }] at h1 h2
      refine cells_inj (h := h.push _) (fun p hp => ?_) (fun x y c a b => ?_) h1 h2
      · rw [Heap.size_push]
        rcases List.mem_cons.mp hp with rfl | hp
        · exact Nat.lt_succ_self _
        · exact Nat.lt_succ_of_lt (hl p hp)
      · rcases List.mem_cons.mp a with e | a <;> rcases List.mem_cons.mp b with e' | b
        · cases e; cases e'; rfl
        · cases e; exact absurd (hl _ b) (Nat.lt_irrefl _)
        · cases e'; exact absurd (hl _ a) (Nat.lt_irrefl _)
        · exact hi _ _ _ a b
    · rename_i hk
      rw [if_neg hk] at h2
      exact cells_inj hl hi h1 h2
theorem newEnv_comp {M : Model} {A : Around} {E : Value → Shared → Prop} {s : Shared} {scope : Scope} {globals : Addr} {closure : List (Str × Addr)} {qual : Str} {func : Option Addr} {code : Value} {around : Env} {builtins : Addr} {Q : Env → Shared → Prop}
    (h : Q (newEnv scope s.heap.objs.size globals (cellsFrom (s.heap.objs.size + 1) scope.names closure) qual func code (some around) builtins)
      { s with heap := pushCells (s.heap.push { cls := .type "dict", data := .dict #[] }) scope.names }) :
    wpAny M A (newFunctionEnv scope globals closure [] qual func code (some around) builtins) Q E s := by
  simp only [newFunctionEnv, Option.isSome_some, if_true]
  refine wpAny_bind (wpAny_alloc ?_)
  refine wpAny_bind (wpAny_layCells _ (fun n k c => rfl) scope.names closure _ _ ?_)
  rw [show ({ s with heap := s.heap.push { cls := .type "dict", data := .dict #[] } } : Shared).heap.objs.size = s.heap.objs.size + 1 from Heap.size_push ..]
  rw [List.forIn_nil]
  exact wpAny_bind (wpAny_pure (wpAny_pure h))
theorem lookup_relS {sc : Scope} : ∀ {names : List (Str × NameKind)} {x : Str} {k : NameKind},
    (names.map fun (n, k) => if (k == NameKind.free && sc.kind == .function && sc.names.lookup n == some .cell) then (n, NameKind.cell) else (n, k)).lookup x = some k →
    ∃ k', names.lookup x = some k' ∧ (k = k' ∨ (k' = .free ∧ k = .cell))
  | [], _, _, h => by simp at h
  | (n, k₀) :: r, x, k, h => by
    have ih := @lookup_relS sc r x k
    have h' : List.lookup x ((if (k₀ == NameKind.free && sc.kind == .function && sc.names.lookup n == some .cell) = true then (n, NameKind.cell) else (n, k₀)) :: (r.map _)) = some k := h
    cases hx : x == n with
    | true =>
      simp only [List.lookup_cons, hx]
      by_cases hc : (k₀ == NameKind.free && sc.kind == .function && sc.names.lookup n == some .cell) = true
      · rw [if_pos hc] at h'
        simp only [List.lookup_cons, hx] at h'
        cases h'
        simp only [Bool.and_eq_true, beq_iff_eq] at hc
        exact ⟨k₀, rfl, .inr ⟨hc.1.1, rfl⟩⟩
      · rw [if_neg hc] at h'
        simp only [List.lookup_cons, hx] at h'
        cases h'
        exact ⟨_, rfl, .inl rfl⟩
    | false =>
      simp only [List.lookup_cons, hx]
      by_cases hc : (k₀ == NameKind.free && sc.kind == .function && sc.names.lookup n == some .cell) = true
      · rw [if_pos hc] at h'
        simp only [List.lookup_cons, hx] at h'
        exact ih h'
      · rw [if_neg hc] at h'
        simp only [List.lookup_cons, hx] at h'
        exact ih h'
structure BlkOk (N : List Str) (sc scope : Scope) (own : List (Str × Nat)) : Prop where
  kind : scope.kind = .function
  uniq : ∀ y ∈ scope.names, scope.names.lookup y.1 = some y.2
  ix : ∀ p ∈ own, N[p.2]? = some p.1
  free : ∀ y ∈ scope.names, y.2 = .free → sc.names.lookup y.1 = some .cell ∨ sc.names.lookup y.1 = some .free
  own : ∀ y ∈ scope.names, y.2 = .local ∨ y.2 = .cell → y.1 ∈ own.map (·.1) ∨ y.1 ∉ N
def wipe (σ : St) : List Nat → St
  | [] => σ
  | v :: vs => (wipe σ vs).set v none
theorem wipe_length (σ : St) : ∀ vs : List Nat, (wipe σ vs).length = σ.length
  | [] => rfl
  | v :: vs => by unfold wipe; rw [List.length_set, wipe_length σ vs]
theorem wipe_some {σ : St} {i : Nat} {x : V} : ∀ {vs : List Nat}, (wipe σ vs)[i]? = some (some x) → σ[i]? = some (some x) ∧ i ∉ vs
  | [], h => ⟨h, by simp⟩
  | v :: vs, h => by
    unfold wipe at h
    by_cases hi : v = i
    · subst hi
      by_cases hv : v < (wipe σ vs).length
      · rw [List.getElem?_set_self hv] at h; cases h
      · rw [List.getElem?_eq_none (by simpa using hv)] at h; cases h
    · rw [List.getElem?_set_ne hi] at h
      obtain ⟨h1, h2⟩ := wipe_some h
      exact ⟨h1, by simp only [List.mem_cons, not_or]; exact ⟨fun e => hi e.symm, h2⟩⟩
abbrev Cx.blk (X : Cx) (s : Shared) (H : Hp) (scope : Scope) (cenv : Env) (fp : List Addr) : Cx := { X with s_0 := s, H_0 := H, env := cenv, outer := X.stack, ex := fp, fn := fun x => scope.names.lookup x == some .cell, pn := [], xe := fun _ _ => False }
section
variable {X : Cx} {pins : List (Addr × Obj)} {σ : St} {H : Hp} {s : Shared}
theorem block_start {scope : Scope} {own : List (Str × Nat)} {fp : List Addr} (I : Inv X pins σ H s) (ok : BlkOk X.N X.env.scope scope own) (hN : X.N.Nodup) (hfp : ∀ b ∈ fp, FpOk X pins H b ∧ b < s.heap.objs.size) :
    Inv (X.blk s H scope (compEnvC scope (cellsFrom (s.heap.objs.size + 1) scope.names (cloFrom X.env.cells scope.names [])) s.heap.objs.size X.env) fp) [] (wipe σ (own.map (·.2))) H { s with heap := pushCells (s.heap.push { cls := .type "dict", data := .dict #[] }) scope.names } := by
  have hfree : ∀ y ∈ scope.names, y.2 = .free → ∃ c, X.env.cells.lookup y.1 = some c := fun y hy e => by
    rcases ok.free y hy e with k | k
    · exact I.ok.has _ (.inl k)
    · exact I.ok.has _ (.inr k)
  generalize hcenv : compEnvC scope (cellsFrom (s.heap.objs.size + 1) scope.names (cloFrom X.env.cells scope.names [])) s.heap.objs.size X.env = cenv
  have kp : ∀ b o, s.heap.get? b = some o → (pushCells (s.heap.push { cls := .type "dict", data := .dict #[] }) scope.names).get? b = some o := fun b o e => pushCells_keeps _ _ _ _ (Heap.get?_push_of_some _ e)
  have hL : cenv.locals = s.heap.objs.size := by rw [← hcenv]; rfl
  have hcl : cenv.cells = cellsFrom (s.heap.objs.size + 1) scope.names (cloFrom X.env.cells scope.names []) := by rw [← hcenv]; rfl
  have hsc : cenv.scope = relS scope X.env.scope := by rw [← hcenv]; rfl
  rw [← Heap.size_push s.heap { cls := .type "dict", data := .dict #[] }] at hcl
  have cm : ∀ {y c}, (y, c) ∈ cloFrom X.env.cells scope.names [] → X.env.cells.lookup y = some c ∧ c < s.heap.objs.size := fun {y c} hm => by
    rcases cloFrom_mem hm with hm | ⟨h1, rfl⟩
    · cases hm
    · obtain ⟨c, hc⟩ := hfree _ h1 rfl
      rw [hc]
      obtain ⟨w, z⟩ := I.cell _ _ hc
      exact ⟨rfl, z.lt⟩
  have mem : ∀ {y c}, cenv.cells.lookup y = some c → (X.env.cells.lookup y = some c ∧ c < s.heap.objs.size) ∨ (s.heap.objs.size + 1 ≤ c ∧ CellAt (pushCells (s.heap.push { cls := .type "dict", data := .dict #[] }) scope.names) c none) := fun {y c} e => by
    rw [hcl] at e
    rcases cells_mem (PySem.mem_of_lookup e) with hm | ⟨_, h2, h3⟩
    · exact .inl (cm hm)
    · rw [Heap.size_push] at h2; exact .inr ⟨h2, h3⟩
  have look : ∀ {y}, scope.names.lookup y = some .free → ∃ c, cenv.cells.lookup y = some c ∧ X.env.cells.lookup y = some c := fun {y} hl => by
    have hy : (y, NameKind.free) ∈ scope.names := PySem.mem_of_lookup hl
    obtain ⟨c', e'⟩ := mem_lookup (cells_acc (names := scope.names) (n := (s.heap.push { cls := .type "dict", data := .dict #[] }).objs.size) (cloFrom_has (cells := X.env.cells) (acc := []) hy))
    rw [← hcl] at e'
    refine ⟨c', e', ?_⟩
    rw [hcl] at e'
    rcases cells_mem (PySem.mem_of_lookup e') with hm | ⟨h1, _, _⟩
    · exact (cm hm).1
    · have := ok.uniq _ h1
      rw [hl] at this; cases this
  have okB : (X.blk s H scope cenv fp).Ok := by
    refine ⟨I.ok.mod, by show cenv.scope.kind = _; rw [hsc]; exact ok.kind, by show cenv.globals = _; rw [← hcenv]; exact I.ok.glob, by show cenv.builtins = _; rw [← hcenv]; exact I.ok.blt, by show s.heap.objs.size ≤ cenv.locals; rw [hL]; exact Nat.le_refl _,
      fun y z c e1 e2 => ?_, fun y hy => ?_, fun y c z e => ?_, I.ok.hd, I.ok.frames, .inl rfl, fun b hb => ⟨?_, fun y c e z => ?_⟩, I.bs, Nat.le_trans I.ok.bsz I.sz, fun b o e hb => ?_, fun b hb z => ?_, I.stack, I.stkFree⟩
    · have e1 : cenv.cells.lookup y = some c := e1
      have e2 : cenv.cells.lookup z = some c := e2
      rw [hcl] at e1 e2
      refine cells_inj (fun p hp => ?_) (fun y z c a b => I.ok.inj y z c (cm a).1 (cm b).1) (PySem.mem_of_lookup e1) (PySem.mem_of_lookup e2)
      rw [Heap.size_push]
      exact Nat.lt_succ_of_lt (cm (y := p.1) (c := p.2) hp).2
    · show ∃ c, cenv.cells.lookup y = some c
      have key : ∀ k, cenv.kindOf y = some k → (k = .cell ∨ k = .free) → ∃ c, cenv.cells.lookup y = some c := fun k hk hk' => by
        unfold Env.kindOf at hk
        rw [hsc] at hk
        obtain ⟨k', e, r⟩ := lookup_relS hk
        have : k' = .cell ∨ k' = .free := by
          rcases r with rfl | ⟨rfl, _⟩
          · exact hk'
          · exact .inr rfl
        rcases this with rfl | rfl
        · obtain ⟨c, hm⟩ := cells_has (n := (s.heap.push { cls := .type "dict", data := .dict #[] }).objs.size) (acc := cloFrom X.env.cells scope.names []) (PySem.mem_of_lookup e)
          obtain ⟨c', e'⟩ := mem_lookup hm
          exact ⟨c', by rw [hcl]; exact e'⟩
        · obtain ⟨c, h1, _⟩ := look e
          exact ⟨c, h1⟩
      rcases hy with hy | hy
      · exact key _ hy (.inl rfl)
      · exact key _ hy (.inr rfl)
    · have z : (scope.names.lookup y == some NameKind.cell) = true := z
      have z : scope.names.lookup y = some .cell := by simpa using z
      have e : cenv.cells.lookup y = some c := e
      rw [hcl] at e
      rcases cells_mem (PySem.mem_of_lookup e) with hm | ⟨_, h2, _⟩
      · rcases cloFrom_mem hm with hm | ⟨h1, _⟩
        · cases hm
        · have q := ok.uniq _ h1
          rw [z] at q; cases q
      · rw [Heap.size_push] at h2
        exact Nat.le_of_succ_le h2
    · show b ≠ cenv.locals
      rw [hL]; exact Nat.ne_of_lt (hfp b hb).2
    · have e : cenv.cells.lookup y = some c := e
      rcases mem e with ⟨h1, _⟩ | ⟨h1, _⟩
      · exact (hfp b hb).1.2.2.2.2.1 y c h1 z
      · have h2 : s.heap.objs.size + 1 ≤ b := by rw [← z]; exact h1
        exact absurd (Nat.lt_of_lt_of_le (hfp b hb).2 (Nat.le_of_succ_le h2)) (Nat.lt_irrefl _)
    · rcases (hfp b hb).1.2.2.2.1 with z | z
      · exact I.ok.noex b o e z
      · exact absurd (Nat.lt_of_lt_of_le (Heap.lt_size e) (Nat.le_trans I.ok.bsz z)) (Nat.lt_irrefl _)
    · rcases List.mem_cons.mp (I.stkSub b z) with z | z
      · exact (hfp b hb).1.2.1 z
      · exact (hfp b hb).1.2.2.1 z
  refine ⟨okB, rfl, I.bare, Un.kept kp, ⟨fun _ => none, ?_, fun i y av e1 e2 e3 => ?_⟩, fun y c e => ?_, ?_, fun y c e => ?_, fun p hp => ?_, I.hok.kept kp, by rw [wipe_length]; exact I.len⟩
  · show Heap.Ns _ cenv.locals _
    rw [hL]
    exact Heap.Ns.keeps (Heap.Ns.new ..) fun b o e => pushCells_keeps _ _ _ _ e
  · obtain ⟨e2, hne⟩ := wipe_some e2
    have hfr : scope.names.lookup y = some .free ∧ (cenv.kindOf y = some .cell ∨ cenv.kindOf y = some .free) := by
      have key : ∀ k, cenv.scope.names.lookup y = some k → k = .local ∨ k = .cell ∨ k = .free → scope.names.lookup y = some .free ∧ (cenv.kindOf y = some .cell ∨ cenv.kindOf y = some .free) := fun k hk hk' => by
        have hk0 := hk
        rw [hsc] at hk
        obtain ⟨k', e, r⟩ := lookup_relS hk
        have no : ¬ (k' = .local ∨ k' = .cell) := fun hh => by
          rcases ok.own _ (PySem.mem_of_lookup e) hh with e' | e'
          · obtain ⟨p, hp, hpy⟩ := List.mem_map.mp e'
            have e3 := ok.ix p hp
            have : p.1 = y := hpy
            rw [this] at e3
            exact hne (List.mem_map.mpr ⟨p, hp, nodup_ix hN e3 e1⟩)
          · exact e' (List.mem_of_getElem? e1)
        rcases r with rfl | ⟨rfl, rfl⟩
        · rcases hk' with rfl | rfl | rfl
          · exact absurd (.inl rfl) no
          · exact absurd (.inr rfl) no
          · exact ⟨e, .inr hk0⟩
        · exact ⟨e, .inl hk0⟩
      have e3 : Vis cenv.scope y := e3
      rcases e3 with e3 | e3 | e3
      · exact key _ e3 (.inl rfl)
      · exact key _ e3 (.inr (.inl rfl))
      · exact key _ e3 (.inr (.inr rfl))
    obtain ⟨m, hn, hl⟩ := I.loc
    have hvis : Vis X.env.scope y := (ok.free _ (PySem.mem_of_lookup hfr.1) rfl).elim (fun k => .inr (.inl k)) (fun k => .inr (.inr k))
    obtain ⟨w, r, q⟩ := hl i y av e1 e2 hvis
    refine ⟨w, r, .inr ⟨hfr.2, ?_⟩⟩
    obtain ⟨c, h1, h2⟩ := look hfr.1
    rcases q with ⟨k, _⟩ | ⟨_, c', e', z⟩
    · have k : X.env.scope.names.lookup y = some .local := k
      rcases ok.free _ (PySem.mem_of_lookup hfr.1) rfl with k' | k' <;> rw [show X.env.scope.names.lookup y = _ from k'] at k <;> cases k
    · rw [h2] at e'; cases e'
      exact ⟨c, h1, z.keeps kp⟩
  · have e : cenv.cells.lookup y = some c := e
    rcases mem e with ⟨h1, _⟩ | ⟨_, z⟩
    · obtain ⟨w, z⟩ := I.cell y c h1
      exact ⟨w, z.keeps kp⟩
    · exact ⟨_, z⟩
  · show H cenv.locals = none
    rw [hL]; exact I.hok.fresh (Nat.le_refl _)
  · have e : cenv.cells.lookup y = some c := e
    rcases mem e with ⟨h1, _⟩ | ⟨h1, _⟩
    · exact I.freeC y c h1
    · exact I.hok.fresh (Nat.le_of_succ_le h1)
  · exact absurd (show p ∈ ([] : List (Addr × Obj)) ++ [] from hp) (by simp)
theorem app_ok {E : Value → Shared → Prop} {D : Addr} {xs : List V} {y : V} {v : Value} {Q : Value → Shared → Prop} (I : Inv X pins σ H s) (hD : H D = some (.lst xs)) (hz : xs.length < sizeLine) (r : RelV y v)
    (h : ∀ s', Inv X pins σ (upd H D (.lst (xs ++ [y]))) s' → Q .none s') : wpAny (model X.prog X.w) X.A (call (.builtin "list.append") [.ref D, v]) Q E s := by
  obtain ⟨hz', its, n, ri, e⟩ := I.hok D _ hD
  have hl := ri.length
  refine append_at (hsz := by rw [List.size_toArray]; omega) e fun h' sb ho' => ?_
  refine h { s with heap := h' } (I.write (t' := s.toks) (by rw [hD]; trivial) (.inl rfl) (fun b u hb q => (sb.2 b hb).trans q) ⟨_, ho'⟩ ⟨by rw [List.length_append]; exact hz, its ++ [v], n + 1, ri.append (.cons r .nil), ?_⟩)
  rw [ho']
  simp
def PTs (X : Cx) (ifs : List Expr) (t : TT) : Prop :=
  ∀ (pins : List (Addr × Obj)) (s : Shared) (σ : St) (H : Hp) (Q : Bool → Hp → Prop), Inv X pins σ H s → t σ H Q →
    wpAny (model X.prog X.w) X.A (forIn ifs true fun c r => if r = true then do let ok ← isTrue c X.env (eval c X.env); pure (ForInStep.yield ok) else pure (ForInStep.yield r)) (TP X pins σ Q) X.xe s
def tYes : TT := fun _ H Q => Q true H
theorem pts_nil : PTs X [] tYes := fun _ _ _ H _ I h => wpAny_tests_nil ⟨H, I, h⟩
theorem pts_one {c : Expr} {t : TT} (h : PT X c t) : PTs X [c] t := fun pins s σ H Q I hw => wpAny_tests_one (h pins s σ H Q I hw)
end
theorem thnF {α : Type} {t : Sem α} {Q Q' : α → Shared → Prop} {M : Model} {A : Around} {E : Value → Shared → Prop} {s : Shared} (h : wpAny M A t Q (fun _ _ => False) s) (hQ : ∀ a s, Q a s → Q' a s) : wpAny M A t Q' E s := wpAny_mono h hQ fun _ _ z => False.elim z
theorem compLoop_any {prog : Program} {w : World} {A : Around} {R : Result → Shared → Prop} {s : Shared} {elt target iter : Expr} {ifs : List Expr} {scope : Scope} {pos : Pos} {it acc : Value} {env : Env} (I : Nat → Shared → Prop)
    (turn : ∀ n s, I n s → wpAny (model prog w) A (pyNext it) (fun r s₁ => match r with
      | none => R (.ok .next) s₁
      | some v => wpAny (model prog w) A (letOwnedTupleGo target it v) (fun _ s₁' => wpAny (model prog w) A (assign target env v) (fun _ s₂ =>
          wpAny (model prog w) A (forIn ifs true fun c r => if r = true then do let ok ← isTrue c env (eval c env); pure (ForInStep.yield ok) else pure (ForInStep.yield r)) (fun ok s₃ =>
            if ok = true then wpAny (model prog w) A (eval elt env) (fun x s₄ =>
              wpAny (model prog w) A (call (.builtin "list.append") [acc, x]) (fun _ s₅ => ∃ m, m < n ∧ I m s₅) (notedBy (model prog w) A env fun e s' => R (.error e) s') s₄) (notedBy (model prog w) A env fun e s' => R (.error e) s') s₃
            else ∃ m, m < n ∧ I m s₃) (notedBy (model prog w) A env fun e s' => R (.error e) s') s₂) (notedBy (model prog w) A env fun e s' => R (.error e) s') s₁') (notedBy (model prog w) A env fun e s' => R (.error e) s') s₁) (notedBy (model prog w) A env fun e s' => R (.error e) s') s)
    (n : Nat) (h : I n s) :
    codeAny (model prog w) A (.compLoop (.ListComp elt [⟨target, iter, ifs, 0⟩] scope pos) 0 it acc env) R s := by
  refine codeAny_loop rfl I (fun n s hI => ?_) n h
  show wpAny _ A ((compTurn (.ListComp elt [⟨target, iter, ifs, 0⟩] scope pos) 0 it acc env).onRaise (fun x => do noteFrame x env; theTreesLotGoes x)) _ _ s
  refine wpAny_noted ?_
  rw [compTurn_list]
  refine wpAny_bind (wpAny_standAt (wpAny_bind (wpAny_mono (turn n s hI) (fun r s₁ h₁ => ?_) fun _ _ h' => h')))
  cases r with
  | none => exact wpAny_pure h₁
  | some v =>
    refine wpAny_bind (wpAny_mono h₁ (fun _ s₁' h₁' => ?_) fun _ _ h' => h')
    refine wpAny_bind (wpAny_mono h₁' (fun _ s₂ h₂ => wpAny_bind (wpAny_mono h₂ (fun ok s₃ h₃ => ?_) fun _ _ h' => h')) fun _ _ h' => h')
    cases ok with
    | false => exact wpAny_pure ⟨rfl, h₃⟩
    | true =>
      exact wpAny_bind (wpAny_bind (wpAny_mono h₃ (fun x s₄ h₄ => wpAny_bind (wpAny_mono h₄ (fun _ s₅ h₅ => wpAny_pure (wpAny_pure ⟨rfl, h₅⟩)) fun _ _ h' => h')) fun _ _ h' => h'))
section
variable {X : Cx}
def tLc (wi : TI) (g : TG) (tt : TT) (te : TE) (vs : List Nat) : TE := fun σ H Q => wi σ H fun J H1 => ∀ D, H1 D = none → ∃ W : Nat → Nat → Hp → Prop, (∃ m, W 0 m (upd H1 D (.lst []))) ∧ ∀ i m H, W i m H →
  (J.stop i H ∧ Q (.ref D) H) ∨ (J.go i H ∧ ∃ Nx : Hp → Prop, (∀ H', Nx H' → ∃ m', m' < m ∧ W (i + 1) m' H') ∧ ∀ x H', J.yld i H x H' → g x (wipe σ vs) H' fun σ2 H2 => wipe σ2 vs = wipe σ vs ∧ tt σ2 H2 fun b H3 =>
    if b = true then te σ2 H3 fun y H4 => ∃ acc, H4 D = some (.lst acc) ∧ acc.length < sizeLine ∧ Nx (upd H4 D (.lst (acc ++ [y]))) else Nx H3)
theorem lc_core {pins : List (Addr × Obj)} {s : Shared} {σ : St} {H : Hp} {Q : VK} {elt tg iter : Expr} {ifs : List Expr} {scope : Scope} {own : List (Str × Nat)} {pos pos' : Pos} {wi : TI} {g : TG} {tt : TT} {te : TE} {use : Option (Value → Sem Unit)} {Qf : Value → Shared → Prop}
    (hc : X.calm = true) (hN : X.N.Nodup) (I : Inv X pins σ H s) (hi : PI X tg iter wi) (ok : BlkOk X.N X.env.scope scope own)
    (hg : ∀ (s : Shared) (H : Hp) (C : Addr) (cl : List (Str × Addr)) (fp : List Addr), PG (X.blk s H scope (compEnvC scope cl C X.env) fp) tg g) (ht : ∀ (s : Shared) (H : Hp) (C : Addr) (cl : List (Str × Addr)) (fp : List Addr), PTs (X.blk s H scope (compEnvC scope cl C X.env) fp) ifs tt)
    (he : ∀ (s : Shared) (H : Hp) (C : Addr) (cl : List (Str × Addr)) (fp : List Addr), PE (X.blk s H scope (compEnvC scope cl C X.env) fp) elt te) (hs : ∀ x, foldedSetIterable iter X.env x = pure x)
    (h : tLc wi g tt te (own.map (·.2)) σ H Q)
    (hRR : ∀ D C s' m H', Inv X pins σ H' s' → Q (.ref D) H' → s'.heap.Ns C m → FpOk X pins H' C → compPost (model X.prog X.w) X.A X.xe use Qf (.ref D) C (.ok .next) s') :
    wpAny (model X.prog X.w) X.A (comprehension (.ListComp elt [⟨tg, iter, ifs, 0⟩] scope pos) scope X.env pos' (newList []) false (eval iter X.env) use) Qf X.xe s := by
  have hfree : ∀ y ∈ scope.names, y.2 = .free → ∃ c, X.env.cells.lookup y.1 = some c := fun y hy e => by
    rcases ok.free y hy e with k | k
    · exact I.ok.has _ (.inl k)
    · exact I.ok.has _ (.inr k)
  refine wpAny_comprehension_free (use := use) rfl hs (closure_ok hfree) ok.kind (fun y hy e => by rw [ok.uniq y hy, e])
    (thn (hi pins s σ H _ I h) fun xv s1 hx => thn hx fun itv s2 h2 => ?_)
  obtain ⟨it, fp, tn, J, H2, e, I2, T, st2, f2, q⟩ := h2
  subst e
  refine wpAny_newObj_type (newEnv_comp ?_) (by show 0 ≤ sizeLine; decide)
  generalize hD : s2.heap.objs.size = D
  have hDn : H2 D = none := I2.hok.fresh (Nat.le_of_eq hD)
  obtain ⟨W, ⟨m0, w0⟩, turn⟩ := q D hDn
  generalize hs3 : ({ s2 with heap := s2.heap.push { cls := .type "list", data := .seq ([] : List Value).toArray } } : Shared) = s3
  have I3 : Inv X pins σ (upd H2 D (.lst [])) s3 := by
    rw [← hs3]
    refine I2.laid (t' := s2.toks) (fun b o e => Heap.get?_push_of_some _ e) (Nat.le_of_eq hD) ⟨Nat.zero_le _, [], 0, .nil, ?_⟩
    rw [← hD]
    exact Heap.get?_push_size _ rfl
  have h3 : s3.heap = s2.heap.push { cls := .type "list", data := .seq ([] : List Value).toArray } := by rw [← hs3]
  have sz : ∀ b ∈ fp, b < s2.heap.objs.size := fun b hb => by
    obtain ⟨o, e, _⟩ := T.obj _ _ st2 b hb
    exact Heap.lt_size e
  have f3 : ∀ b ∈ fp, FpOk X pins (upd H2 D (.lst [])) b ∧ b < s3.heap.objs.size := fun b hb => by
    have hlt := sz b hb
    refine ⟨⟨?_, (f2 b hb).2⟩, by rw [h3, Heap.size_push]; exact Nat.lt_succ_of_lt hlt⟩
    rw [upd_ne (by rw [← hD]; exact Nat.ne_of_lt hlt)]
    exact (f2 b hb).1
  have st3 : tn 0 s3.heap := T.keep _ _ _ st2 fun b _ o e => by rw [h3]; exact Heap.get?_push_of_some _ e
  have I4 := block_start I3 ok hN f3
  have pg := hg s3 (upd H2 D (.lst [])) s3.heap.objs.size (cellsFrom (s3.heap.objs.size + 1) scope.names (cloFrom X.env.cells scope.names [])) fp
  have pt := ht s3 (upd H2 D (.lst [])) s3.heap.objs.size (cellsFrom (s3.heap.objs.size + 1) scope.names (cloFrom X.env.cells scope.names [])) fp
  have pe := he s3 (upd H2 D (.lst [])) s3.heap.objs.size (cellsFrom (s3.heap.objs.size + 1) scope.names (cloFrom X.env.cells scope.names [])) fp
  show codeAny _ _ (.compStart (.ListComp elt [⟨tg, iter, ifs, 0⟩] scope pos) 0 (.ref it) (.ref D) (compEnvC scope (cellsFrom (s3.heap.objs.size + 1) scope.names (cloFrom X.env.cells scope.names [])) s3.heap.objs.size X.env)) (compPost (model X.prog X.w) X.A X.xe use Qf (.ref D) s3.heap.objs.size) { s3 with heap := pushCells (s3.heap.push { cls := .type "dict", data := .dict #[] }) scope.names }
  have nfp : ∀ b ∈ fp, (upd H2 D (.lst [])) b = none := fun b hb => (f3 b hb).1.1
  generalize hce : compEnvC scope (cellsFrom (s3.heap.objs.size + 1) scope.names (cloFrom X.env.cells scope.names [])) s3.heap.objs.size X.env = ce at I4 pg pt pe ⊢
  have cL : ce.locals = s3.heap.objs.size := by subst hce; rfl
  generalize hH3 : upd H2 D (.lst []) = H3 at I3 I4 pg pt pe w0 nfp f3
  generalize hs4 : ({ s3 with heap := pushCells (s3.heap.push { cls := .type "dict", data := .dict #[] }) scope.names } : Shared) = s4 at I4 ⊢
  have st4 : tn 0 s4.heap := T.keep _ _ _ st3 fun b _ o e => by rw [← hs4]; exact pushCells_keeps _ _ _ _ (Heap.get?_push_of_some _ e)
  have stat : ∀ {σ' : St} {H' : Hp} {s' : Shared}, Inv (X.blk s3 H3 scope ce fp) [] σ' H' s' → (∀ b ∈ fp, H' b = none) → ∀ b ∈ fp, FpOk (X.blk s3 H3 scope ce fp) [] H' b := fun {σ' H' s'} I' hn b hb =>
    ⟨hn b hb, (I'.ok.exf b hb).1, I'.ok.exfs b hb, .inl hb, fun x c e => (I'.ok.exf b hb).2 x c e, fun p hp => absurd (show p ∈ ([] : List (Addr × Obj)) ++ [] from hp) (by simp)⟩
  have loop : codeAny (model X.prog X.w) X.A (.compLoop (.ListComp elt [⟨tg, iter, ifs, 0⟩] scope pos) 0 (.ref it) (.ref D) ce) (compPost (model X.prog X.w) X.A X.xe use Qf (.ref D) s3.heap.objs.size) s4 := by
    refine compLoop_any (fun n s' => ∃ i H', Inv (X.blk s3 H3 scope ce fp) [] (wipe σ (own.map (·.2))) H' s' ∧ tn i s'.heap ∧ (∀ b ∈ fp, H' b = none) ∧ W i n H') ?_ m0 ⟨0, H3, I4, st4, nfp, w0⟩
    rintro n s5 ⟨i, H5, I5, st5, n5, w5⟩
    rcases turn i n H5 w5 with ⟨stop, qq⟩ | ⟨go, Nx, hNx, step⟩
    · have td := T.done (X.blk s3 H3 scope ce fp) rfl rfl rfl hc i [] s5 _ H5 (fun _ _ => False) I5 (stat I5 n5) st5 stop
      refine thnF td fun r s6 ⟨hr, I6⟩ => ?_
      subst hr
      have I7 : Inv X pins σ H5 s6 := I3.call' (ch := fp) I6.os I6.base I6.hok I6.bare fun b hb => ⟨(f3 b hb).1.2.2.2.1, (f3 b hb).1.2.1, (f3 b hb).1.2.2.2.2.1, (f3 b hb).1.2.2.2.2.2⟩
      have nC : H5 s3.heap.objs.size = none := by
        have z : H5 ce.locals = none := I6.free
        rw [cL] at z
        exact z
      obtain ⟨m, hn, _⟩ := I6.loc
      have hn : s6.heap.Ns ce.locals m := hn
      rw [cL] at hn
      exact hRR D s3.heap.objs.size s6 m H5 I7 qq hn (I3.fpOk (Nat.le_refl _) nC)
    · have ti := T.item (X.blk s3 H3 scope ce fp) rfl rfl rfl hc i [] s5 _ H5 (fun _ _ => False) I5 (stat I5 n5) st5 go
      refine thnF ti fun r s6 ⟨u, hr, h6⟩ => ?_
      subst hr
      refine thnF h6 fun _ s7 ⟨x, H7, I7, r7, y7, st7, n7⟩ => ?_
      have I7' := I7.pinned (stat I7 n7) (T.obj _ _ st7)
      refine thnF (pg _ s7 _ H7 x u _ I7' r7 (step x H7 y7)) fun _ s8 ⟨σ8, H8, I8, hw8, q8⟩ => ?_
      refine thnF (pt _ s8 σ8 H8 _ I8 q8) fun b s9 ⟨H9, I9, q9⟩ => ?_
      have fin : ∀ {s' : Shared} {H' : Hp}, Inv (X.blk s3 H3 scope ce fp) ([] ++ pinsAt fp s7.heap) σ8 H' s' → Nx H' → ∃ m, m < n ∧ ∃ i H', Inv (X.blk s3 H3 scope ce fp) [] (wipe σ (own.map (·.2))) H' s' ∧ tn i s'.heap ∧ (∀ b ∈ fp, H' b = none) ∧ W i m H' := fun {s' H'} I' nx => by
        obtain ⟨m', hm, w'⟩ := hNx H' nx
        have pin' : ∀ b ∈ fp, ∀ o, s7.heap.get? b = some o → s'.heap.get? b = some o ∧ H' b = none := fun b hb o e =>
          let z := I'.pin (b, o) (List.mem_append_right _ (List.mem_append_right _ (mem_pinsAt hb e)))
          ⟨z.1, z.2.1⟩
        have hl : (wipe σ (own.map (·.2))).length = σ8.length := by rw [← hw8, wipe_length]
        refine ⟨m', hm, i + 1, H', (I'.unpinned (pins := [])).weak hl (fun j v e => ?_), T.keep _ _ _ st7 fun b hb o e => (pin' b hb o e).1, fun b hb => ?_, w'⟩
        · rw [← hw8] at e
          exact (wipe_some e).1
        · obtain ⟨o, e, _⟩ := T.obj _ _ st7 b hb
          exact (pin' b hb o e).2
      cases b with
      | false =>
        simp only [Bool.false_eq_true, if_false] at q9 ⊢
        exact fin I9 q9
      | true =>
        simp only [if_true] at q9 ⊢
        refine thnF (pe _ s9 σ8 H9 _ I9 q9) fun z s10 ⟨yv, H10, I10, r10, acc, hD10, hz10, nx⟩ => ?_
        exact app_ok (X := X.blk s3 H3 scope ce fp) I10 hD10 hz10 r10 fun s11 I11 => fin I11 nx
  exact codeAny_compStart_list loop (T.self X.A 0 _ _ _ st4 loop)
theorem pe_lc {elt tg iter : Expr} {ifs : List Expr} {scope : Scope} {own : List (Str × Nat)} {pos : Pos} {wi : TI} {g : TG} {tt : TT} {te : TE} (hc : X.calm = true) (hN : X.N.Nodup) (hi : PI X tg iter wi) (ok : BlkOk X.N X.env.scope scope own)
    (hg : ∀ (s : Shared) (H : Hp) (C : Addr) (cl : List (Str × Addr)) (fp : List Addr), PG (X.blk s H scope (compEnvC scope cl C X.env) fp) tg g) (ht : ∀ (s : Shared) (H : Hp) (C : Addr) (cl : List (Str × Addr)) (fp : List Addr), PTs (X.blk s H scope (compEnvC scope cl C X.env) fp) ifs tt)
    (he : ∀ (s : Shared) (H : Hp) (C : Addr) (cl : List (Str × Addr)) (fp : List Addr), PE (X.blk s H scope (compEnvC scope cl C X.env) fp) elt te) (hs : ∀ x, foldedSetIterable iter X.env x = pure x := by intro _; rfl) :
    PE X (.ListComp elt [⟨tg, iter, ifs, 0⟩] scope pos) (tLc wi g tt te (own.map (·.2))) := by
  intro pins s σ H Q I h
  rw [eval_ListComp]
  refine lc_core hc hN I hi ok hg ht he hs h fun D C s' m H' I' q hn f => ⟨m, hn, fun h'' sb => ?_⟩
  obtain ⟨f0, f1, f2, f3, f4, f5⟩ := f
  exact ⟨.ref D, H', I'.turned (t' := s'.toks) (fun b o hb e => (sb.2 b hb).trans e) f0 f1 f3 f4 f5, rfl, q⟩
theorem ps_setLc {i : Nat} {y : Str} {py : Pos} {elt tg iter : Expr} {ifs : List Expr} {scope : Scope} {own : List (Str × Nat)} {pos spos : Pos} {wi : TI} {g : TG} {tt : TT} {te : TE} (hc : X.calm = true) (hN : X.N.Nodup) (hy : X.N[i]? = some y) (hyl : X.env.scope.names.lookup y = some .local)
    (hsw : swapsWith (.ListComp elt [⟨tg, iter, ifs, 0⟩] scope pos) (some (.Name y py)) spos.line X.env = pure true) (hi : PI X tg iter wi) (ok : BlkOk X.N X.env.scope scope own)
    (hg : ∀ (s : Shared) (H : Hp) (C : Addr) (cl : List (Str × Addr)) (fp : List Addr), PG (X.blk s H scope (compEnvC scope cl C X.env) fp) tg g) (ht : ∀ (s : Shared) (H : Hp) (C : Addr) (cl : List (Str × Addr)) (fp : List Addr), PTs (X.blk s H scope (compEnvC scope cl C X.env) fp) ifs tt)
    (he : ∀ (s : Shared) (H : Hp) (C : Addr) (cl : List (Str × Addr)) (fp : List Addr), PE (X.blk s H scope (compEnvC scope cl C X.env) fp) elt te) (hs : ∀ x, foldedSetIterable iter X.env x = pure x := by intro _; rfl) :
    PS X (.Assign [.Name y py] (.ListComp elt [⟨tg, iter, ifs, 0⟩] scope pos) spos) (tAsg (tLc wi g tt te (own.map (·.2))) (gName i)) := by
  intro pins s σ H D I h
  rw [exec_Assign_Name_used _ _ _ _ hsw]
  refine wpAny_bind (wpAny_standAt (wpAny_bind ?_))
  show wpAny _ X.A (do let _ ← comprehension (.ListComp elt [⟨tg, iter, ifs, 0⟩] scope pos) scope X.env (firstIterPos [⟨tg, iter, ifs, 0⟩] pos) (newList []) false (eval iter X.env) (some (assign (.Name y py) X.env))) _ _ s
  have h : tLc wi g tt te (own.map (·.2)) σ H (fun x H1 => gName i x σ H1 D.nx) := h
  refine wpAny_bind (thn (lc_core (Qf := fun _ s' => SP X pins D .next s') hc hN I hi ok hg ht he hs h fun L C s' m H' I' q hn f => ?_) fun _ s' hq => wpAny_pure (wpAny_pure hq))
  show wpAny _ _ (assign (.Name y py) X.env (.ref L)) _ _ _
  refine wpAny_assign_Name (store_ok2 (v := V.ref L) I' hN hy (.inl hyl) rfl (fun s2 I2 ⟨a, sb, ha⟩ => ?_) (.inr hyl))
  obtain ⟨f0, f1, f2, f3, f4, f5⟩ := f
  have haC : C ≠ a := by
    rcases ha with z | z
    · rw [z]; exact f1
    · exact fun e => f4 y a z e.symm
  refine ⟨m, hn.sameBut sb haC, fun h3 sb3 => ?_⟩
  exact ⟨_, H', I2.turned (t' := s2.toks) (fun b o hb e => (sb3.2 b hb).trans e) f0 f1 f3 f4 f5, q⟩
theorem sw_true {elt : Expr} {gs : List Comprehension} {scope : Scope} {pos py : Pos} {y : Str} {l : Nat} {env : Env} (hk : env.scope.kind = .function) (hy : env.scope.names.lookup y = some .local) (hl : (py.line == pos.line) = true)
    (ha : (scope.names.any fun (n, k) => n == y && (k == .local || k == .cell)) = false) : swapsWith (.ListComp elt gs scope pos) (some (.Name y py)) l env = pure true := by
  have ky : env.kindOf y = some .local := hy
  have hb : env.blockKind = .function := by unfold Env.blockKind; rw [hk]; rfl
  unfold swapsWith
  simp only [hb, ky, ha, Expr.pos, hl]
  rfl
end
theorem lc_range {lo : Int} {n : Nat} {g : TG} {tt : TT} {te : TE} {vs : List Nat} {σ : St} {H1 : Hp} {D : Addr} {Qd : Hp → Prop} (Pv : Nat → Hp → Prop) (h0 : Pv 0 (upd H1 D (.lst [])))
    (hs : ∀ i H, i < n → Pv i H → g (.int (lo + i)) (wipe σ vs) H fun σ2 H2 => wipe σ2 vs = wipe σ vs ∧ tt σ2 H2 fun b H3 =>
      if b = true then te σ2 H3 fun y H4 => ∃ acc, H4 D = some (.lst acc) ∧ acc.length < sizeLine ∧ Pv (i + 1) (upd H4 D (.lst (acc ++ [y]))) else Pv (i + 1) H3) (hd : ∀ H, Pv n H → Qd H) :
    ∃ W : Nat → Nat → Hp → Prop, (∃ m, W 0 m (upd H1 D (.lst []))) ∧ ∀ i m H, W i m H →
      ((Itr lo n).stop i H ∧ Qd H) ∨ ((Itr lo n).go i H ∧ ∃ Nx : Hp → Prop, (∀ H', Nx H' → ∃ m', m' < m ∧ W (i + 1) m' H') ∧ ∀ x H', (Itr lo n).yld i H x H' → g x (wipe σ vs) H' fun σ2 H2 => wipe σ2 vs = wipe σ vs ∧ tt σ2 H2 fun b H3 =>
        if b = true then te σ2 H3 fun y H4 => ∃ acc, H4 D = some (.lst acc) ∧ acc.length < sizeLine ∧ Nx (upd H4 D (.lst (acc ++ [y]))) else Nx H3) := by
  refine ⟨fun i m H => m = n - i ∧ i ≤ n ∧ Pv i H, ⟨n, by simp, Nat.zero_le _, h0⟩, ?_⟩
  rintro i m H ⟨rfl, hi, p⟩
  by_cases hlt : i < n
  · refine .inr ⟨hlt, Pv (i + 1), fun H' p' => ⟨n - (i + 1), by omega, rfl, hlt, p'⟩, fun x H' y => ?_⟩
    obtain ⟨e, y⟩ := y
    subst e y
    exact hs i _ hlt p
  · have e : i = n := by omega
    subst e
    exact .inl ⟨Nat.le_refl _, hd H p⟩
theorem lc_list {K : PySem.W.Frag} {a : Addr} {xs : List V} {g : TG} {tt : TT} {te : TE} {vs : List Nat} {σ : St} {H1 : Hp} {D : Addr} {Qd : Hp → Prop} (Pv : Nat → Hp → Prop) (h0 : Pv 0 (upd H1 D (.lst []))) (hl : ∀ i H, i ≤ xs.length → Pv i H → SqL K H a xs)
    (hs : ∀ i x H, xs[i]? = some x → Pv i H → g x (wipe σ vs) H fun σ2 H2 => wipe σ2 vs = wipe σ vs ∧ tt σ2 H2 fun b H3 =>
      if b = true then te σ2 H3 fun y H4 => ∃ acc, H4 D = some (.lst acc) ∧ acc.length < sizeLine ∧ Pv (i + 1) (upd H4 D (.lst (acc ++ [y]))) else Pv (i + 1) H3) (hd : ∀ H, Pv xs.length H → Qd H) :
    ∃ W : Nat → Nat → Hp → Prop, (∃ m, W 0 m (upd H1 D (.lst []))) ∧ ∀ i m H, W i m H →
      ((Itl K a).stop i H ∧ Qd H) ∨ ((Itl K a).go i H ∧ ∃ Nx : Hp → Prop, (∀ H', Nx H' → ∃ m', m' < m ∧ W (i + 1) m' H') ∧ ∀ x H', (Itl K a).yld i H x H' → g x (wipe σ vs) H' fun σ2 H2 => wipe σ2 vs = wipe σ vs ∧ tt σ2 H2 fun b H3 =>
        if b = true then te σ2 H3 fun y H4 => ∃ acc, H4 D = some (.lst acc) ∧ acc.length < sizeLine ∧ Nx (upd H4 D (.lst (acc ++ [y]))) else Nx H3) := by
  refine ⟨fun i m H => m = xs.length - i ∧ i ≤ xs.length ∧ Pv i H, ⟨xs.length, by simp, Nat.zero_le _, h0⟩, ?_⟩
  rintro i m H ⟨rfl, hi, p⟩
  have q := hl i H hi p
  by_cases hlt : i < xs.length
  · refine .inr ⟨⟨xs, xs[i], q, by simp [hlt]⟩, Pv (i + 1), fun H' p' => ⟨xs.length - (i + 1), by omega, rfl, hlt, p'⟩, fun x H' y => ?_⟩
    obtain ⟨e, y⟩ := y
    subst e
    exact hs i x _ (y xs q) p
  · have e : i = xs.length := by omega
    subst e
    exact .inl ⟨⟨xs, q, Nat.le_refl _⟩, hd H p⟩
def blkC (N : List Str) (sc scope : Scope) (own : List (Str × Nat)) : Bool :=
  (match scope.kind with | .function => true | _ => false) && (scope.names.all fun y => decide (scope.names.lookup y.1 = some y.2)) && (own.all fun p => decide (N[p.2]? = some p.1)) &&
    (scope.names.all fun y => match y.2 with
      | .free => (match sc.names.lookup y.1 with | some .cell => true | some .free => true | _ => false)
      | .local => decide (y.1 ∈ own.map (·.1)) || decide (y.1 ∉ N)
      | .cell => decide (y.1 ∈ own.map (·.1)) || decide (y.1 ∉ N)
      | _ => true)
theorem blkOk_by {N : List Str} {sc scope : Scope} {own : List (Str × Nat)} (h : blkC N sc scope own = true) : BlkOk N sc scope own := by
  unfold blkC at h
  simp only [Bool.and_eq_true, List.all_eq_true, decide_eq_true_eq] at h
  obtain ⟨⟨⟨h1, h2⟩, h3⟩, h4⟩ := h
  refine ⟨?_, h2, h3, fun y hy e => ?_, fun y hy e => ?_⟩
  · split at h1
    · assumption
    · cases h1
  · have q := h4 y hy
    simp only [e] at q
    split at q <;> first | exact .inl (by assumption) | exact .inr (by assumption) | cases q
  · have q := h4 y hy
    rcases e with e | e <;> (simp only [e, Bool.or_eq_true, decide_eq_true_eq] at q; exact q)
end L2
namespace L2
open PySem PySem.Spec PyProof.Rows
theorem compTurn2_out (elt t0 i0 t1 i1 : Expr) (ifs0 ifs1 : List Expr) (scope : Scope) (pos : Pos) (it acc : Value) (env : Env) :
    compTurn (.ListComp elt [⟨t0, i0, ifs0, 0⟩, ⟨t1, i1, ifs1, 0⟩] scope pos) 0 it acc env = (do
      standAt i0.pos
      match ← pyNext it with
      | none => pure (.done .next)
      | some v =>
        letOwnedTupleGo t0 it v
        assign t0 env v
        let mut ok := true
        for c in ifs0 do
          if ok then ok ← isTrue c env (eval c env)
        if ok then
          let x ← eval i1 env
          standAt i1.pos
          let x ← foldedSetIterable i1 env x
          let _ ← runOwn (.compStart (.ListComp elt [⟨t0, i0, ifs0, 0⟩, ⟨t1, i1, ifs1, 0⟩] scope pos) 1 (← holding [x] (pyIter x)) acc env) env
        again (.compLoop (.ListComp elt [⟨t0, i0, ifs0, 0⟩, ⟨t1, i1, ifs1, 0⟩] scope pos) 0 it acc env)) := by rfl
theorem compTurn2_in (elt t0 i0 t1 i1 : Expr) (ifs0 ifs1 : List Expr) (scope : Scope) (pos : Pos) (it acc : Value) (env : Env) :
    compTurn (.ListComp elt [⟨t0, i0, ifs0, 0⟩, ⟨t1, i1, ifs1, 0⟩] scope pos) 1 it acc env = (do
      standAt i1.pos
      match ← pyNext it with
      | none => pure (.done .next)
      | some v =>
        letOwnedTupleGo t1 it v
        assign t1 env v
        let mut ok := true
        for c in ifs1 do
          if ok then ok ← isTrue c env (eval c env)
        if ok then
          (do let _ ← call (.builtin "list.append") [acc, ← eval elt env])
        again (.compLoop (.ListComp elt [⟨t0, i0, ifs0, 0⟩, ⟨t1, i1, ifs1, 0⟩] scope pos) 1 it acc env)) := by rfl
section
variable {prog : Program} {w : World} {A : Around} {R : Result → Shared → Prop} {s : Shared} {elt t0 i0 t1 i1 : Expr} {ifs0 ifs1 : List Expr} {scope : Scope} {pos : Pos} {it acc : Value} {env : Env}
theorem compLoop2_out (hs : ∀ x, foldedSetIterable i1 env x = pure x) (I : Nat → Shared → Prop)
    (turn : ∀ n s, I n s → wpAny (model prog w) A (pyNext it) (fun r s₁ => match r with
      | none => R (.ok .next) s₁
      | some v => wpAny (model prog w) A (letOwnedTupleGo t0 it v) (fun _ s₁' => wpAny (model prog w) A (assign t0 env v) (fun _ s₂ =>
          wpAny (model prog w) A (forIn ifs0 true fun c r => if r = true then do let ok ← isTrue c env (eval c env); pure (ForInStep.yield ok) else pure (ForInStep.yield r)) (fun ok s₃ =>
            if ok = true then wpAny (model prog w) A (eval i1 env) (fun x s₄ => wpAny (model prog w) A (pyIter x) (fun it1 s₅ =>
              codeAny (model prog w) A (.compStart (.ListComp elt [⟨t0, i0, ifs0, 0⟩, ⟨t1, i1, ifs1, 0⟩] scope pos) 1 it1 acc env) (fun r s' => match r with
                | .ok _ => ∃ m, m < n ∧ I m s'
                | .error _ => False) s₅) (notedBy (model prog w) A env fun e s' => R (.error e) s') s₄) (notedBy (model prog w) A env fun e s' => R (.error e) s') s₃
            else ∃ m, m < n ∧ I m s₃) (notedBy (model prog w) A env fun e s' => R (.error e) s') s₂) (notedBy (model prog w) A env fun e s' => R (.error e) s') s₁') (notedBy (model prog w) A env fun e s' => R (.error e) s') s₁) (notedBy (model prog w) A env fun e s' => R (.error e) s') s)
    (n : Nat) (h : I n s) :
    codeAny (model prog w) A (.compLoop (.ListComp elt [⟨t0, i0, ifs0, 0⟩, ⟨t1, i1, ifs1, 0⟩] scope pos) 0 it acc env) R s := by
  refine codeAny_loop rfl I (fun n s hI => ?_) n h
  show wpAny _ A ((compTurn (.ListComp elt [⟨t0, i0, ifs0, 0⟩, ⟨t1, i1, ifs1, 0⟩] scope pos) 0 it acc env).onRaise (fun x => do noteFrame x env; theTreesLotGoes x)) _ _ s
  refine wpAny_noted ?_
  rw [compTurn2_out]
  refine wpAny_bind (wpAny_standAt (wpAny_bind (wpAny_mono (turn n s hI) (fun r s₁ h₁ => ?_) fun _ _ h' => h')))
  cases r with
  | none => exact wpAny_pure h₁
  | some v =>
    refine wpAny_bind (wpAny_mono h₁ (fun _ s₁' h₁' => ?_) fun _ _ h' => h')
    refine wpAny_bind (wpAny_mono h₁' (fun _ s₂ h₂ => wpAny_bind (wpAny_mono h₂ (fun ok s₃ h₃ => ?_) fun _ _ h' => h')) fun _ _ h' => h')
    cases ok with
    | false => exact wpAny_pure ⟨rfl, h₃⟩
    | true =>
      refine wpAny_bind (wpAny_mono h₃ (fun x s₄ h₄ => ?_) fun _ _ h' => h')
      refine wpAny_bind (wpAny_standAt (wpAny_bind (wpAny_of_eq (hs x) (wpAny_bind (wpAny_holding (wpAny_mono h₄ (fun it1 s₅ h₅ => ?_) fun _ _ h' => h'))))))
      refine wpAny_bind (wpAny_runOwn ?_)
      rw [Around.mark_none]
      refine codeAny_mono h₅ fun r s' hr => ?_
      cases r with
      | ok f =>
        first
          | exact wpAny_pure ⟨rfl, hr⟩
          | exact wpAny_bind (wpAny_pure (wpAny_pure ⟨rfl, hr⟩))
      | error e => exact hr.elim
theorem compLoop2_in (I : Nat → Shared → Prop)
    (turn : ∀ n s, I n s → wpAny (model prog w) A (pyNext it) (fun r s₁ => match r with
      | none => R (.ok .next) s₁
      | some v => wpAny (model prog w) A (letOwnedTupleGo t1 it v) (fun _ s₁' => wpAny (model prog w) A (assign t1 env v) (fun _ s₂ =>
          wpAny (model prog w) A (forIn ifs1 true fun c r => if r = true then do let ok ← isTrue c env (eval c env); pure (ForInStep.yield ok) else pure (ForInStep.yield r)) (fun ok s₃ =>
            if ok = true then wpAny (model prog w) A (eval elt env) (fun x s₄ =>
              wpAny (model prog w) A (call (.builtin "list.append") [acc, x]) (fun _ s₅ => ∃ m, m < n ∧ I m s₅) (notedBy (model prog w) A env fun e s' => R (.error e) s') s₄) (notedBy (model prog w) A env fun e s' => R (.error e) s') s₃
            else ∃ m, m < n ∧ I m s₃) (notedBy (model prog w) A env fun e s' => R (.error e) s') s₂) (notedBy (model prog w) A env fun e s' => R (.error e) s') s₁') (notedBy (model prog w) A env fun e s' => R (.error e) s') s₁) (notedBy (model prog w) A env fun e s' => R (.error e) s') s)
    (n : Nat) (h : I n s) :
    codeAny (model prog w) A (.compLoop (.ListComp elt [⟨t0, i0, ifs0, 0⟩, ⟨t1, i1, ifs1, 0⟩] scope pos) 1 it acc env) R s := by
  refine codeAny_loop rfl I (fun n s hI => ?_) n h
  show wpAny _ A ((compTurn (.ListComp elt [⟨t0, i0, ifs0, 0⟩, ⟨t1, i1, ifs1, 0⟩] scope pos) 1 it acc env).onRaise (fun x => do noteFrame x env; theTreesLotGoes x)) _ _ s
  refine wpAny_noted ?_
  rw [compTurn2_in]
  refine wpAny_bind (wpAny_standAt (wpAny_bind (wpAny_mono (turn n s hI) (fun r s₁ h₁ => ?_) fun _ _ h' => h')))
  cases r with
  | none => exact wpAny_pure h₁
  | some v =>
    refine wpAny_bind (wpAny_mono h₁ (fun _ s₁' h₁' => ?_) fun _ _ h' => h')
    refine wpAny_bind (wpAny_mono h₁' (fun _ s₂ h₂ => wpAny_bind (wpAny_mono h₂ (fun ok s₃ h₃ => ?_) fun _ _ h' => h')) fun _ _ h' => h')
    cases ok with
    | false => exact wpAny_pure ⟨rfl, h₃⟩
    | true =>
      exact wpAny_bind (wpAny_bind (wpAny_mono h₃ (fun x s₄ h₄ => wpAny_bind (wpAny_mono h₄ (fun _ s₅ h₅ => wpAny_pure (wpAny_pure ⟨rfl, h₅⟩)) fun _ _ h' => h')) fun _ _ h' => h'))
theorem compStart1_ok (h0 : codeAny (model prog w) A (.compLoop (.ListComp elt [⟨t0, i0, ifs0, 0⟩, ⟨t1, i1, ifs1, 0⟩] scope pos) 1 it acc env) R s)
    (h : wpAny (model prog w) A (pyIter it) (fun it' s' => codeAny (model prog w) A (.compLoop (.ListComp elt [⟨t0, i0, ifs0, 0⟩, ⟨t1, i1, ifs1, 0⟩] scope pos) 1 it' acc env) R s')
      (notedBy (model prog w) A env fun x s' => R (.error x) s') s) :
    codeAny (model prog w) A (.compStart (.ListComp elt [⟨t0, i0, ifs0, 0⟩, ⟨t1, i1, ifs1, 0⟩] scope pos) 1 it acc env) R s := by
  refine codeAny_of_tree ?_
  show wpAny _ _ ((compStart (.ListComp elt [⟨t0, i0, ifs0, 0⟩, ⟨t1, i1, ifs1, 0⟩] scope pos) 1 it acc env).onRaise (fun x => do noteFrame x env; standAt theWindowsPlace)) _ _ s
  refine wpAny_notedAt ?_
  unfold compStart
  show wpAny _ _ (ask >>= _) _ _ s
  refine wpAny_bind (wpAny_askSetting (wpAny_ite ?_))
  split
  · first
      | exact wpAny_bind (wpAny_pure (wpAny_pure (And.intro rfl h0)))
      | exact wpAny_pure (And.intro rfl h0)
  · first
      | exact wpAny_bind (wpAny_rule (wpAny_bind (wpAny_standAt (wpAny_bind (wpAny_mono h (fun it' s' h' => wpAny_pure (And.intro rfl h')) fun _ _ x => x)))))
      | (refine wpAny_bind (wpAny_rule ?_); show wpAny _ _ (standAt i1.pos >>= _) _ _ s; exact wpAny_bind (wpAny_standAt (wpAny_bind (wpAny_mono h (fun it' s' h' => wpAny_pure (And.intro rfl h')) fun _ _ x => x))))
end
theorem wipe_out {σ : St} {i : Nat} : ∀ {vs : List Nat}, i ∉ vs → (wipe σ vs)[i]? = σ[i]?
  | [], _ => rfl
  | v :: vs, h => by
    have h1 : v ≠ i := fun e => h (by rw [e]; exact List.mem_cons_self)
    have h2 : i ∉ vs := fun m => h (List.mem_cons_of_mem _ m)
    unfold wipe
    rw [List.getElem?_set_ne h1]
    exact wipe_out h2
section
variable {X : Cx}
def tLc2 (wi : TI) (g : TG) (tt : TT) (wi1 : TI) (g1 : TG) (tt1 : TT) (te : TE) (vs vs1 : List Nat) : TE := fun σ H Q => wi σ H fun J H1 => ∀ D, H1 D = none → ∃ W : Nat → Nat → Hp → Prop, (∃ m, W 0 m (upd H1 D (.lst []))) ∧ ∀ i m H, W i m H →
  (J.stop i H ∧ Q (.ref D) H) ∨ (J.go i H ∧ ∃ Nx : Hp → Prop, (∀ H', Nx H' → ∃ m', m' < m ∧ W (i + 1) m' H') ∧ ∀ x H', J.yld i H x H' → g x (wipe σ vs) H' fun σ2 H2 => wipe σ2 vs = wipe σ vs ∧ tt σ2 H2 fun b H3 =>
    if b = true then wi1 σ2 H3 fun J1 H4 => ∃ W1 : Nat → Nat → Hp → Prop, (∃ m, W1 0 m H4) ∧ ∀ j k H, W1 j k H →
      (J1.stop j H ∧ Nx H) ∨ (J1.go j H ∧ ∃ Nx1 : Hp → Prop, (∀ H', Nx1 H' → ∃ k', k' < k ∧ W1 (j + 1) k' H') ∧ ∀ x H', J1.yld j H x H' → g1 x (wipe σ2 vs1) H' fun σ3 H5 => wipe σ3 vs1 = wipe σ2 vs1 ∧ tt1 σ3 H5 fun b H6 =>
        if b = true then te σ3 H6 fun y H7 => ∃ acc, H7 D = some (.lst acc) ∧ acc.length < sizeLine ∧ Nx1 (upd H7 D (.lst (acc ++ [y]))) else Nx1 H6)
    else Nx H3)
theorem lc2_core {pins : List (Addr × Obj)} {s : Shared} {σ : St} {H : Hp} {Q : VK} {elt tg iter tg1 iter1 : Expr} {ifs ifs1 : List Expr} {scope : Scope} {own : List (Str × Nat)} {vs1 : List Nat} {pos pos' : Pos} {wi wi1 : TI} {g g1 : TG} {tt tt1 : TT} {te : TE} {use : Option (Value → Sem Unit)} {Qf : Value → Shared → Prop}
    (hc : X.calm = true) (hN : X.N.Nodup) (I : Inv X pins σ H s) (hi : PI X tg iter wi) (ok : BlkOk X.N X.env.scope scope own) (hv : ∀ i ∈ vs1, i ∈ own.map (·.2))
    (hg : ∀ (s : Shared) (H : Hp) (C : Addr) (cl : List (Str × Addr)) (fp : List Addr), PG (X.blk s H scope (compEnvC scope cl C X.env) fp) tg g) (ht : ∀ (s : Shared) (H : Hp) (C : Addr) (cl : List (Str × Addr)) (fp : List Addr), PTs (X.blk s H scope (compEnvC scope cl C X.env) fp) ifs tt)
    (he : ∀ (s : Shared) (H : Hp) (C : Addr) (cl : List (Str × Addr)) (fp : List Addr), PE (X.blk s H scope (compEnvC scope cl C X.env) fp) elt te) (hs : ∀ x, foldedSetIterable iter X.env x = pure x)
    (hi1 : ∀ (s : Shared) (H : Hp) (C : Addr) (cl : List (Str × Addr)) (fp : List Addr), PI (X.blk s H scope (compEnvC scope cl C X.env) fp) tg1 iter1 wi1)
    (hg1 : ∀ (s : Shared) (H : Hp) (C : Addr) (cl : List (Str × Addr)) (fp : List Addr), PG (X.blk s H scope (compEnvC scope cl C X.env) fp) tg1 g1)
    (ht1 : ∀ (s : Shared) (H : Hp) (C : Addr) (cl : List (Str × Addr)) (fp : List Addr), PTs (X.blk s H scope (compEnvC scope cl C X.env) fp) ifs1 tt1)
    (hs1 : ∀ env x, foldedSetIterable iter1 env x = pure x)
    (h : tLc2 wi g tt wi1 g1 tt1 te (own.map (·.2)) vs1 σ H Q)
    (hRR : ∀ D C s' m H', Inv X pins σ H' s' → Q (.ref D) H' → s'.heap.Ns C m → FpOk X pins H' C → compPost (model X.prog X.w) X.A X.xe use Qf (.ref D) C (.ok .next) s') :
    wpAny (model X.prog X.w) X.A (comprehension (.ListComp elt [⟨tg, iter, ifs, 0⟩, ⟨tg1, iter1, ifs1, 0⟩] scope pos) scope X.env pos' (newList []) false (eval iter X.env) use) Qf X.xe s := by
  have hfree : ∀ y ∈ scope.names, y.2 = .free → ∃ c, X.env.cells.lookup y.1 = some c := fun y hy e => by
    rcases ok.free y hy e with k | k
    · exact I.ok.has _ (.inl k)
    · exact I.ok.has _ (.inr k)
  refine wpAny_comprehension_free (use := use) rfl hs (closure_ok hfree) ok.kind (fun y hy e => by rw [ok.uniq y hy, e])
    (thn (hi pins s σ H _ I h) fun xv s1 hx => thn hx fun itv s2 h2 => ?_)
  obtain ⟨it, fp, tn, J, H2, e, I2, T, st2, f2, q⟩ := h2
  subst e
  refine wpAny_newObj_type (newEnv_comp ?_) (by show 0 ≤ sizeLine; decide)
  generalize hD : s2.heap.objs.size = D
  have hDn : H2 D = none := I2.hok.fresh (Nat.le_of_eq hD)
  obtain ⟨W, ⟨m0, w0⟩, turn⟩ := q D hDn
  generalize hs3 : ({ s2 with heap := s2.heap.push { cls := .type "list", data := .seq ([] : List Value).toArray } } : Shared) = s3
  have I3 : Inv X pins σ (upd H2 D (.lst [])) s3 := by
    rw [← hs3]
    refine I2.laid (t' := s2.toks) (fun b o e => Heap.get?_push_of_some _ e) (Nat.le_of_eq hD) ⟨Nat.zero_le _, [], 0, .nil, ?_⟩
    rw [← hD]
    exact Heap.get?_push_size _ rfl
  have h3 : s3.heap = s2.heap.push { cls := .type "list", data := .seq ([] : List Value).toArray } := by rw [← hs3]
  have sz : ∀ b ∈ fp, b < s2.heap.objs.size := fun b hb => by
    obtain ⟨o, e, _⟩ := T.obj _ _ st2 b hb
    exact Heap.lt_size e
  have f3 : ∀ b ∈ fp, FpOk X pins (upd H2 D (.lst [])) b ∧ b < s3.heap.objs.size := fun b hb => by
    have hlt := sz b hb
    refine ⟨⟨?_, (f2 b hb).2⟩, by rw [h3, Heap.size_push]; exact Nat.lt_succ_of_lt hlt⟩
    rw [upd_ne (by rw [← hD]; exact Nat.ne_of_lt hlt)]
    exact (f2 b hb).1
  have st3 : tn 0 s3.heap := T.keep _ _ _ st2 fun b _ o e => by rw [h3]; exact Heap.get?_push_of_some _ e
  have I4 := block_start I3 ok hN f3
  have pg := hg s3 (upd H2 D (.lst [])) s3.heap.objs.size (cellsFrom (s3.heap.objs.size + 1) scope.names (cloFrom X.env.cells scope.names [])) fp
  have pt := ht s3 (upd H2 D (.lst [])) s3.heap.objs.size (cellsFrom (s3.heap.objs.size + 1) scope.names (cloFrom X.env.cells scope.names [])) fp
  have pe := he s3 (upd H2 D (.lst [])) s3.heap.objs.size (cellsFrom (s3.heap.objs.size + 1) scope.names (cloFrom X.env.cells scope.names [])) fp
  have pi1 := hi1 s3 (upd H2 D (.lst [])) s3.heap.objs.size (cellsFrom (s3.heap.objs.size + 1) scope.names (cloFrom X.env.cells scope.names [])) fp
  have pg1 := hg1 s3 (upd H2 D (.lst [])) s3.heap.objs.size (cellsFrom (s3.heap.objs.size + 1) scope.names (cloFrom X.env.cells scope.names [])) fp
  have pt1 := ht1 s3 (upd H2 D (.lst [])) s3.heap.objs.size (cellsFrom (s3.heap.objs.size + 1) scope.names (cloFrom X.env.cells scope.names [])) fp
  show codeAny _ _ (.compStart (.ListComp elt [⟨tg, iter, ifs, 0⟩, ⟨tg1, iter1, ifs1, 0⟩] scope pos) 0 (.ref it) (.ref D) (compEnvC scope (cellsFrom (s3.heap.objs.size + 1) scope.names (cloFrom X.env.cells scope.names [])) s3.heap.objs.size X.env)) (compPost (model X.prog X.w) X.A X.xe use Qf (.ref D) s3.heap.objs.size) { s3 with heap := pushCells (s3.heap.push { cls := .type "dict", data := .dict #[] }) scope.names }
  have nfp : ∀ b ∈ fp, (upd H2 D (.lst [])) b = none := fun b hb => (f3 b hb).1.1
  generalize hce : compEnvC scope (cellsFrom (s3.heap.objs.size + 1) scope.names (cloFrom X.env.cells scope.names [])) s3.heap.objs.size X.env = ce at I4 pg pt pe pi1 pg1 pt1 ⊢
  have cL : ce.locals = s3.heap.objs.size := by subst hce; rfl
  generalize hH3 : upd H2 D (.lst []) = H3 at I3 I4 pg pt pe pi1 pg1 pt1 w0 nfp f3
  generalize hs4 : ({ s3 with heap := pushCells (s3.heap.push { cls := .type "dict", data := .dict #[] }) scope.names } : Shared) = s4 at I4 ⊢
  have st4 : tn 0 s4.heap := T.keep _ _ _ st3 fun b _ o e => by rw [← hs4]; exact pushCells_keeps _ _ _ _ (Heap.get?_push_of_some _ e)
  have stat : ∀ {σ' : St} {H' : Hp} {s' : Shared}, Inv (X.blk s3 H3 scope ce fp) [] σ' H' s' → (∀ b ∈ fp, H' b = none) → ∀ b ∈ fp, FpOk (X.blk s3 H3 scope ce fp) [] H' b := fun {σ' H' s'} I' hn b hb =>
    ⟨hn b hb, (I'.ok.exf b hb).1, I'.ok.exfs b hb, .inl hb, fun x c e => (I'.ok.exf b hb).2 x c e, fun p hp => absurd (show p ∈ ([] : List (Addr × Obj)) ++ [] from hp) (by simp)⟩
  have loop : codeAny (model X.prog X.w) X.A (.compLoop (.ListComp elt [⟨tg, iter, ifs, 0⟩, ⟨tg1, iter1, ifs1, 0⟩] scope pos) 0 (.ref it) (.ref D) ce) (compPost (model X.prog X.w) X.A X.xe use Qf (.ref D) s3.heap.objs.size) s4 := by
    refine compLoop2_out (hs1 ce) (fun n s' => ∃ i H', Inv (X.blk s3 H3 scope ce fp) [] (wipe σ (own.map (·.2))) H' s' ∧ tn i s'.heap ∧ (∀ b ∈ fp, H' b = none) ∧ W i n H') ?_ m0 ⟨0, H3, I4, st4, nfp, w0⟩
    rintro n s5 ⟨i, H5, I5, st5, n5, w5⟩
    rcases turn i n H5 w5 with ⟨stop, qq⟩ | ⟨go, Nx, hNx, step⟩
    · have td := T.done (X.blk s3 H3 scope ce fp) rfl rfl rfl hc i [] s5 _ H5 (fun _ _ => False) I5 (stat I5 n5) st5 stop
      refine thnF td fun r s6 ⟨hr, I6⟩ => ?_
      subst hr
      have I7 : Inv X pins σ H5 s6 := I3.call' (ch := fp) I6.os I6.base I6.hok I6.bare fun b hb => ⟨(f3 b hb).1.2.2.2.1, (f3 b hb).1.2.1, (f3 b hb).1.2.2.2.2.1, (f3 b hb).1.2.2.2.2.2⟩
      have nC : H5 s3.heap.objs.size = none := by
        have z : H5 ce.locals = none := I6.free
        rw [cL] at z
        exact z
      obtain ⟨m, hn, _⟩ := I6.loc
      have hn : s6.heap.Ns ce.locals m := hn
      rw [cL] at hn
      exact hRR D s3.heap.objs.size s6 m H5 I7 qq hn (I3.fpOk (Nat.le_refl _) nC)
    · have ti := T.item (X.blk s3 H3 scope ce fp) rfl rfl rfl hc i [] s5 _ H5 (fun _ _ => False) I5 (stat I5 n5) st5 go
      refine thnF ti fun r s6 ⟨u, hr, h6⟩ => ?_
      subst hr
      refine thnF h6 fun _ s7 ⟨x, H7, I7, r7, y7, st7, n7⟩ => ?_
      have I7' := I7.pinned (stat I7 n7) (T.obj _ _ st7)
      refine thnF (pg _ s7 _ H7 x u _ I7' r7 (step x H7 y7)) fun _ s8 ⟨σ8, H8, I8, hw8, q8⟩ => ?_
      refine thnF (pt _ s8 σ8 H8 _ I8 q8) fun b s9 ⟨H9, I9, q9⟩ => ?_
      have fin : ∀ {σ9 : St} {s' : Shared} {H' : Hp}, Inv (X.blk s3 H3 scope ce fp) ([] ++ pinsAt fp s7.heap) σ9 H' s' → (wipe σ (own.map (·.2))).length = σ9.length → (∀ (j : Nat) v, (wipe σ (own.map (·.2)))[j]? = some (some v) → σ9[j]? = some (some v)) → Nx H' →
          ∃ m, m < n ∧ ∃ i H', Inv (X.blk s3 H3 scope ce fp) [] (wipe σ (own.map (·.2))) H' s' ∧ tn i s'.heap ∧ (∀ b ∈ fp, H' b = none) ∧ W i m H' := fun {σ9 s' H'} I' hl hk nx => by
        obtain ⟨m', hm, w'⟩ := hNx H' nx
        have pin' : ∀ b ∈ fp, ∀ o, s7.heap.get? b = some o → s'.heap.get? b = some o ∧ H' b = none := fun b hb o e =>
          let z := I'.pin (b, o) (List.mem_append_right _ (List.mem_append_right _ (mem_pinsAt hb e)))
          ⟨z.1, z.2.1⟩
        refine ⟨m', hm, i + 1, H', (I'.unpinned (pins := [])).weak hl hk, T.keep _ _ _ st7 fun b hb o e => (pin' b hb o e).1, fun b hb => ?_, w'⟩
        obtain ⟨o, e, _⟩ := T.obj _ _ st7 b hb
        exact (pin' b hb o e).2
      have hl8 : (wipe σ (own.map (·.2))).length = σ8.length := by rw [← hw8, wipe_length]
      have hk8 : ∀ (j : Nat) v, (wipe σ (own.map (·.2)))[j]? = some (some v) → σ8[j]? = some (some v) := fun j v e => by
        rw [← hw8] at e
        exact (wipe_some e).1
      have hk9 : ∀ (j : Nat) v, (wipe σ (own.map (·.2)))[j]? = some (some v) → (wipe σ8 vs1)[j]? = some (some v) := fun j v e => by
        rw [← hw8] at e
        obtain ⟨e1, e2⟩ := wipe_some e
        rw [wipe_out fun z => e2 (hv j z)]
        exact e1
      cases b with
      | false =>
        simp only [Bool.false_eq_true, if_false] at q9 ⊢
        exact fin I9 hl8 hk8 q9
      | true =>
        simp only [if_true] at q9 ⊢
        refine thnF (pi1 _ s9 σ8 H9 _ I9 q9) fun xv s10 hx => thnF hx fun itv s11 h11 => ?_
        obtain ⟨it1, fp1, tn1, J1, H11, e1, I11, T1, st11, f11, W1, ⟨m1, w1⟩, turn1⟩ := h11
        subst e1
        have stat1 : ∀ {H' : Hp}, (∀ b ∈ fp1, H' b = none) → ∀ b ∈ fp1, FpOk (X.blk s3 H3 scope ce fp) ([] ++ pinsAt fp s7.heap) H' b := fun hn b hb => ⟨hn b hb, (f11 b hb).2⟩
        have loop1 : codeAny (model X.prog X.w) X.A (.compLoop (.ListComp elt [⟨tg, iter, ifs, 0⟩, ⟨tg1, iter1, ifs1, 0⟩] scope pos) 1 (.ref it1) (.ref D) ce)
            (fun r s' => match r with
              | .ok _ => ∃ m, m < n ∧ ∃ i H', Inv (X.blk s3 H3 scope ce fp) [] (wipe σ (own.map (·.2))) H' s' ∧ tn i s'.heap ∧ (∀ b ∈ fp, H' b = none) ∧ W i m H'
              | .error _ => False) s11 := by
          refine compLoop2_in (fun k s' => ∃ j H', Inv (X.blk s3 H3 scope ce fp) ([] ++ pinsAt fp s7.heap) (wipe σ8 vs1) H' s' ∧ tn1 j s'.heap ∧ (∀ b ∈ fp1, H' b = none) ∧ W1 j k H') ?_ m1 ⟨0, H11, I11.weak (wipe_length _ _) (fun j v e => (wipe_some e).1), st11, fun b hb => (f11 b hb).1, w1⟩
          rintro k s12 ⟨j, H12, I12, st12, n12, w12⟩
          rcases turn1 j k H12 w12 with ⟨stop1, nx1⟩ | ⟨go1, Nx1, hNx1, step1⟩
          · refine thnF (T1.done (X.blk s3 H3 scope ce fp) rfl rfl rfl hc j _ s12 (wipe σ8 vs1) H12 (fun _ _ => False) I12 (stat1 n12) st12 stop1) fun r s13 ⟨hr, I13⟩ => ?_
            subst hr
            exact fin I13 (hl8.trans (wipe_length σ8 vs1).symm) hk9 nx1
          · refine thnF (T1.item (X.blk s3 H3 scope ce fp) rfl rfl rfl hc j _ s12 (wipe σ8 vs1) H12 (fun _ _ => False) I12 (stat1 n12) st12 go1) fun r s13 ⟨u1, hr, h13⟩ => ?_
            subst hr
            refine thnF h13 fun _ s14 ⟨x1, H14, I14, r14, y14, st14, n14⟩ => ?_
            have I14' := I14.pinned (stat1 n14) (T1.obj _ _ st14)
            refine thnF (pg1 _ s14 (wipe σ8 vs1) H14 x1 u1 _ I14' r14 (step1 x1 H14 y14)) fun _ s15 ⟨σ15, H15, I15, hw15, q15⟩ => ?_
            refine thnF (pt1 _ s15 σ15 H15 _ I15 q15) fun b1 s16 ⟨H16, I16, q16⟩ => ?_
            have fin1 : ∀ {s' : Shared} {H' : Hp}, Inv (X.blk s3 H3 scope ce fp) (([] ++ pinsAt fp s7.heap) ++ pinsAt fp1 s14.heap) σ15 H' s' → Nx1 H' → ∃ m, m < k ∧ ∃ j H', Inv (X.blk s3 H3 scope ce fp) ([] ++ pinsAt fp s7.heap) (wipe σ8 vs1) H' s' ∧ tn1 j s'.heap ∧ (∀ b ∈ fp1, H' b = none) ∧ W1 j m H' := fun {s' H'} I' nx => by
              obtain ⟨m', hm, w'⟩ := hNx1 H' nx
              have pin' : ∀ b ∈ fp1, ∀ o, s14.heap.get? b = some o → s'.heap.get? b = some o ∧ H' b = none := fun b hb o e =>
                let z := I'.pin (b, o) (List.mem_append_right _ (List.mem_append_right _ (mem_pinsAt hb e)))
                ⟨z.1, z.2.1⟩
              refine ⟨m', hm, j + 1, H', I'.unpinned.weak (by rw [← hw15, wipe_length]) (fun j v e => by rw [← hw15] at e; exact (wipe_some e).1), T1.keep _ _ _ st14 fun b hb o e => (pin' b hb o e).1, fun b hb => ?_, w'⟩
              obtain ⟨o, e, _⟩ := T1.obj _ _ st14 b hb
              exact (pin' b hb o e).2
            cases b1 with
            | false =>
              simp only [Bool.false_eq_true, if_false] at q16 ⊢
              exact fin1 I16 q16
            | true =>
              simp only [if_true] at q16 ⊢
              refine thnF (pe _ s16 σ15 H16 _ I16 q16) fun z s17 ⟨yv, H17, I17, r17, acc, hD17, hz17, nx⟩ => ?_
              exact app_ok (X := X.blk s3 H3 scope ce fp) I17 hD17 hz17 r17 fun s18 I18 => fin1 I18 nx
        exact compStart1_ok loop1 (T1.self X.A 0 _ _ _ st11 loop1)
  exact codeAny_compStart_list loop (T.self X.A 0 _ _ _ st4 loop)
theorem pe_lc2 {elt tg iter tg1 iter1 : Expr} {ifs ifs1 : List Expr} {scope : Scope} {own : List (Str × Nat)} {vs1 : List Nat} {pos : Pos} {wi wi1 : TI} {g g1 : TG} {tt tt1 : TT} {te : TE} (hc : X.calm = true) (hN : X.N.Nodup) (hi : PI X tg iter wi) (ok : BlkOk X.N X.env.scope scope own) (hv : ∀ i ∈ vs1, i ∈ own.map (·.2))
    (hg : ∀ (s : Shared) (H : Hp) (C : Addr) (cl : List (Str × Addr)) (fp : List Addr), PG (X.blk s H scope (compEnvC scope cl C X.env) fp) tg g) (ht : ∀ (s : Shared) (H : Hp) (C : Addr) (cl : List (Str × Addr)) (fp : List Addr), PTs (X.blk s H scope (compEnvC scope cl C X.env) fp) ifs tt)
    (hi1 : ∀ (s : Shared) (H : Hp) (C : Addr) (cl : List (Str × Addr)) (fp : List Addr), PI (X.blk s H scope (compEnvC scope cl C X.env) fp) tg1 iter1 wi1)
    (hg1 : ∀ (s : Shared) (H : Hp) (C : Addr) (cl : List (Str × Addr)) (fp : List Addr), PG (X.blk s H scope (compEnvC scope cl C X.env) fp) tg1 g1) (ht1 : ∀ (s : Shared) (H : Hp) (C : Addr) (cl : List (Str × Addr)) (fp : List Addr), PTs (X.blk s H scope (compEnvC scope cl C X.env) fp) ifs1 tt1)
    (he : ∀ (s : Shared) (H : Hp) (C : Addr) (cl : List (Str × Addr)) (fp : List Addr), PE (X.blk s H scope (compEnvC scope cl C X.env) fp) elt te) (hs : ∀ x, foldedSetIterable iter X.env x = pure x := by intro _; rfl) (hs1 : ∀ env x, foldedSetIterable iter1 env x = pure x := by intro _ _; rfl) :
    PE X (.ListComp elt [⟨tg, iter, ifs, 0⟩, ⟨tg1, iter1, ifs1, 0⟩] scope pos) (tLc2 wi g tt wi1 g1 tt1 te (own.map (·.2)) vs1) := by
  intro pins s σ H Q I h
  rw [eval_ListComp]
  refine lc2_core hc hN I hi ok hv hg ht he hs hi1 hg1 ht1 hs1 h fun D C s' m H' I' q hn f => ⟨m, hn, fun h'' sb => ?_⟩
  obtain ⟨f0, f1, f2, f3, f4, f5⟩ := f
  exact ⟨.ref D, H', I'.turned (t' := s'.toks) (fun b o hb e => (sb.2 b hb).trans e) f0 f1 f3 f4 f5, rfl, q⟩
end
end L2
namespace L2
open PySem PySem.Spec PyProof.Rows
section
variable {κ : Type} [DecidableEq κ]
def valV (kvs : List (κ × V)) (k : κ) : Option V := (kvs.find? fun kv => decide (kv.1 = k)).map (·.2)
def putK (kvs : List (κ × V)) (k : κ) (v : V) : List (κ × V) :=
  if (kvs.any fun kv => decide (kv.1 = k)) = true then kvs.map (fun kv => if kv.1 = k then (kv.1, v) else kv) else kvs ++ [(k, v)]
def dropK (kvs : List (κ × V)) (k : κ) : List (κ × V) := kvs.filter fun kv => decide (kv.1 ≠ k)
theorem valV_pos {p : κ × V} {r : List (κ × V)} {k : κ} (e : p.1 = k) : valV (p :: r) k = some p.2 := by simp [valV, List.find?_cons, e]
theorem valV_neg {p : κ × V} {r : List (κ × V)} {k : κ} (e : ¬ p.1 = k) : valV (p :: r) k = valV r k := by simp [valV, List.find?_cons, e]
theorem valV_any (k : κ) : ∀ kvs : List (κ × V), (kvs.any fun kv => decide (kv.1 = k)) = (valV kvs k).isSome
  | [] => rfl
  | p :: r => by
    rw [List.any_cons]
    by_cases e : p.1 = k
    · simp only [valV_pos e, decide_eq_true e, Bool.true_or, Option.isSome_some]
    · rw [valV_neg e, decide_eq_false e, Bool.false_or]; exact valV_any k r
theorem RelO.isSome_eq {o : Option V} {u : Option Value} (r : RelO o u) : o.isSome = u.isSome := by
  cases o with
  | none => cases u with
    | none => rfl
    | some _ => exact (show False from r).elim
  | some _ => cases u with
    | none => exact (show False from r).elim
    | some _ => rfl
theorem RelO.getD {o : Option V} {u : Option Value} {d : V} {d' : Value} (r : RelO o u) (rd : RelV d d') : RelV (o.getD d) (u.getD d') := by
  cases o with
  | none => cases u with
    | none => exact rd
    | some _ => exact (show False from r).elim
  | some _ => cases u with
    | none => exact (show False from r).elim
    | some _ => exact r
theorem KV.val {kvs : List (κ × V)} {vs : List (κ × Value)} (r : KV kvs vs) (k : κ) : RelO (valV kvs k) (valueAt vs k) := by
  unfold KV at r
  induction r with
  | nil => exact True.intro
  | @cons p q ps qs h t ih =>
    obtain ⟨h1, h2⟩ := h
    by_cases e : p.1 = k
    · have e' : q.1 = k := h1.symm.trans e
      have b : valueAt (q :: qs) k = some q.2 := by simp [valueAt, List.find?_cons, e']
      rw [valV_pos e, b]; exact h2
    · have e' : ¬ q.1 = k := fun z => e (h1.trans z)
      have b : valueAt (q :: qs) k = valueAt qs k := by simp [valueAt, List.find?_cons, e']
      rw [valV_neg e, b]; exact ih
theorem KV.any {kvs : List (κ × V)} {vs : List (κ × Value)} (r : KV kvs vs) (k : κ) : (kvs.any fun kv => decide (kv.1 = k)) = vs.any fun kv => decide (kv.1 = k) := by
  unfold KV at r
  induction r with
  | nil => rfl
  | cons h t ih => rw [List.any_cons, List.any_cons, ih, h.1]
theorem KV.repl {kvs : List (κ × V)} {vs : List (κ × Value)} (r : KV kvs vs) (k : κ) {y : V} {u : Value} (ry : RelV y u) :
    KV (kvs.map fun kv => if kv.1 = k then (kv.1, y) else kv) (vs.map fun kv => if kv.1 = k then (kv.1, u) else kv) := by
  unfold KV at r ⊢
  induction r with
  | nil => exact .nil
  | @cons p q ps qs h t ih =>
    rw [List.map_cons, List.map_cons]
    refine .cons ?_ ih
    obtain ⟨h1, h2⟩ := h
    by_cases e : p.1 = k
    · rw [if_pos e, if_pos (h1.symm.trans e)]; exact ⟨h1, ry⟩
    · rw [if_neg e, if_neg (fun z => e (h1.trans z))]; exact ⟨h1, h2⟩
theorem KV.put {kvs : List (κ × V)} {vs : List (κ × Value)} (r : KV kvs vs) (k : κ) {y : V} {u : Value} (ry : RelV y u) : KV (putK kvs k y) (stored vs k u) := by
  unfold putK stored
  rw [r.any k]
  by_cases e : (vs.any fun kv => decide (kv.1 = k)) = true
  · rw [if_pos e, if_pos e]; exact r.repl k ry
  · rw [if_neg e, if_neg e]; exact Paired.snoc r ⟨rfl, ry⟩
theorem KV.drop {kvs : List (κ × V)} {vs : List (κ × Value)} (r : KV kvs vs) (k : κ) : KV (dropK kvs k) (without vs k) := by
  unfold KV at r ⊢
  unfold dropK without
  induction r with
  | nil => exact .nil
  | @cons p q ps qs h t ih =>
    obtain ⟨h1, h2⟩ := h
    rw [List.filter_cons, List.filter_cons]
    by_cases e : p.1 = k
    · have a : ¬ decide (p.1 ≠ k) = true := by simp [e]
      have b : ¬ decide (q.1 ≠ k) = true := by simp [h1.symm.trans e]
      rw [if_neg a, if_neg b]; exact ih
    · have e' : ¬ q.1 = k := fun z => e (h1.trans z)
      have a : decide (p.1 ≠ k) = true := by simp [e]
      have b : decide (q.1 ≠ k) = true := by simp [e']
      rw [if_pos a, if_pos b]; exact .cons ⟨h1, h2⟩ ih
theorem KV.keys {kvs : List (κ × V)} {vs : List (κ × Value)} (r : KV kvs vs) : kvs.map (·.1) = vs.map (·.1) := by
  unfold KV at r
  induction r with
  | nil => rfl
  | cons h t ih => rw [List.map_cons, List.map_cons, ih, h.1]
theorem KV.length {kvs : List (κ × V)} {vs : List (κ × Value)} (r : KV kvs vs) : kvs.length = vs.length := Paired.length r
end
abbrev KT (H : Hp) : List (List Key × V) → List (List Key × Addr × Value) → Prop := Paired fun p q => p.1 = q.1 ∧ H q.2.1 = some (.tup (p.1.map kV)) ∧ RelV p.2 q.2.2
theorem KT.val {H : Hp} {kvs : List (List Key × V)} {xs : List (List Key × Addr × Value)} (r : KT H kvs xs) (k : List Key) : RelO (valV kvs k) ((atKey xs k).map (·.2)) := by
  induction r with
  | nil => exact True.intro
  | @cons p q ps qs h t ih =>
    obtain ⟨h1, _, h2⟩ := h
    by_cases e : p.1 = k
    · have e' : q.1 = k := h1.symm.trans e
      have b : atKey (q :: qs) k = some q.2 := by simp [atKey, List.find?_cons, e']
      rw [valV_pos e, b]; exact h2
    · have e' : ¬ q.1 = k := fun z => e (h1.trans z)
      have b : atKey (q :: qs) k = atKey qs k := by simp [atKey, List.find?_cons, e']
      rw [valV_neg e, b]; exact ih
theorem KT.repl {H : Hp} {kvs : List (List Key × V)} {xs : List (List Key × Addr × Value)} (r : KT H kvs xs) (k : List Key) {y : V} {u : Value} (ry : RelV y u) :
    KT H (kvs.map fun kv => if kv.1 = k then (kv.1, y) else kv) (xs.map (putAt k u)) := by
  induction r with
  | nil => exact .nil
  | @cons p q ps qs h t ih =>
    rw [List.map_cons, List.map_cons]
    refine .cons ?_ ih
    obtain ⟨h1, h2, h3⟩ := h
    unfold putAt
    by_cases e : p.1 = k
    · rw [if_pos e, if_pos (h1.symm.trans e)]; exact ⟨h1, h2, ry⟩
    · rw [if_neg e, if_neg (fun z => e (h1.trans z))]; exact ⟨h1, h2, h3⟩
theorem KT.put {H : Hp} {kvs : List (List Key × V)} {xs : List (List Key × Addr × Value)} (r : KT H kvs xs) (k : List Key) {b : Addr} {y : V} {u : Value} (hb : H b = some (.tup (k.map kV))) (ry : RelV y u) :
    KT H (putK kvs k y) (storedH xs k b u) := by
  have e : (kvs.any fun kv => decide (kv.1 = k)) = (atKey xs k).isSome := by
    rw [valV_any, (r.val k).isSome_eq, Option.isSome_map]
  unfold putK storedH
  rw [e]
  by_cases q : (atKey xs k).isSome = true
  · rw [if_pos q, if_pos q]; exact r.repl k ry
  · rw [if_neg q, if_neg q]; exact Paired.snoc r ⟨rfl, hb, ry⟩
theorem KT.keeps {H H' : Hp} {kvs : List (List Key × V)} {xs : List (List Key × Addr × Value)} (r : KT H kvs xs) (ht : ∀ b ys, H b = some (.tup ys) → H' b = some (.tup ys)) : KT H' kvs xs :=
  Paired.mapP r fun _ _ z => ⟨z.1, ht _ _ z.2.1, z.2.2⟩
section
variable {P : Program} {w : World} {H : Hp} {h : Heap} {a : Addr}
end
def DGet (H : Hp) (a : Addr) (y : V) (r : Option V) : Prop :=
  (∃ kvs k, Rd H a (.dK kvs) ∧ y = kV k ∧ r = valV kvs k) ∨ ∃ kvs k b, Rd H a (.dT kvs) ∧ y = .ref b ∧ H b = some (.tup (k.map kV)) ∧ r = valV kvs k
def DPut (H : Hp) (a : Addr) (y v : V) (H' : Hp) : Prop :=
  (∃ kvs k, H a = some (.dK kvs) ∧ y = kV k ∧ kvs.length < sizeLine ∧ H' = upd H a (.dK (putK kvs k v))) ∨
  ∃ kvs k b, H a = some (.dT kvs) ∧ y = .ref b ∧ H b = some (.tup (k.map kV)) ∧ kvs.length < sizeLine ∧ H' = upd H a (.dT (putK kvs k v))
theorem DGet.k {H : Hp} {a : Addr} {kvs : List (Key × V)} {k : Key} (e : H a = some (.dK kvs)) : DGet H a (kV k) (valV kvs k) := .inl ⟨kvs, k, .inl e, rfl, rfl⟩
theorem DGet.t {H : Hp} {a b : Addr} {kvs : List (List Key × V)} {k : List Key} (e : H a = some (.dT kvs)) (eb : H b = some (.tup (k.map kV))) : DGet H a (.ref b) (valV kvs k) := .inr ⟨kvs, k, b, .inl e, rfl, eb, rfl⟩
theorem DPut.k {H : Hp} {a : Addr} {kvs : List (Key × V)} {k : Key} {v : V} (e : H a = some (.dK kvs)) (hl : kvs.length < sizeLine) : DPut H a (kV k) v (upd H a (.dK (putK kvs k v))) := .inl ⟨kvs, k, e, rfl, hl, rfl⟩
theorem DPut.t {H : Hp} {a b : Addr} {kvs : List (List Key × V)} {k : List Key} {v : V} (e : H a = some (.dT kvs)) (eb : H b = some (.tup (k.map kV))) (hl : kvs.length < sizeLine) :
    DPut H a (.ref b) v (upd H a (.dT (putK kvs k v))) := .inr ⟨kvs, k, b, e, rfl, eb, hl, rfl⟩
section
variable {X : Cx} {pins : List (Addr × Obj)} {σ : St} {H : Hp} {s : Shared} {a : Addr} {y v : V} {u r : Value} {o : Option V} {A : Around} {E : Value → Shared → Prop}
end
section
variable {X : Cx} {pins : List (Addr × Obj)} {σ : St} {H : Hp} {s : Shared} {a : Addr} {kvs : List (Key × V)} {k : Key} {u : Value} {A : Around} {E : Value → Shared → Prop}
end
def NoSl (i : Expr) : Prop := ∀ ov iv, subscripted i false ov iv = operate [ov, iv] (getItem ov iv)
def tDGet (td ty : TE) : TE := fun σ H Q => td σ H fun x H1 => ty σ H1 fun y H2 => ∃ a v, x = .ref a ∧ DGet H2 a y (some v) ∧ Q v H2
def tDIn (ty td : TE) : TE := fun σ H Q => ty σ H fun y H1 => td σ H1 fun x H2 => ∃ a o, x = .ref a ∧ DGet H2 a y o ∧ Q (.bl o.isSome) H2
def tDNotIn (ty td : TE) : TE := fun σ H Q => ty σ H fun y H1 => td σ H1 fun x H2 => ∃ a o, x = .ref a ∧ DGet H2 a y o ∧ Q (.bl (!o.isSome)) H2
def sDPut (td ty tv : TE) : TS := fun D σ H => tv σ H fun v H1 => td σ H1 fun x H2 => ty σ H2 fun y H3 => ∃ a H4, x = .ref a ∧ DPut H3 a y v H4 ∧ D.nx σ H4
def sDAug (td ty tv : TE) (rd : V → V → Hp → VK → Prop) : TS := fun D σ H => td σ H fun x H1 => ty σ H1 fun y H2 => ∃ a v, x = .ref a ∧ DGet H2 a y (some v) ∧
  tv σ H2 fun y2 H3 => rd v y2 H3 fun z H4 => ∃ H5, DPut H4 a y z H5 ∧ D.nx σ H5
def sDDel (td ty : TE) : TS := fun D σ H => td σ H fun x H1 => ty σ H1 fun y H2 => ∃ a kvs k, x = .ref a ∧ H2 a = some (.dK kvs) ∧ y = kV k ∧ (valV kvs k).isSome = true ∧ D.nx σ (upd H2 a (.dK (dropK kvs k)))
section
variable {X : Cx} {o i e value : Expr} {pos pos' tpos : Pos} {td ty tv : TE}
end
def tDNewK : TE := fun _ H Q => ∀ p, H p = none → Q (.ref p) (upd H p (.dK []))
def tDNewT : TE := fun _ H Q => ∀ p, H p = none → Q (.ref p) (upd H p (.dT []))
section
variable {X : Cx} {pos : Pos}
end
def tPairs : List (TE × TE) → St → Hp → (List (V × V) → Hp → Prop) → Prop
  | [], _, H, Q => Q [] H
  | (tk, tv) :: r, σ, H, Q => tk σ H fun x H1 => tv σ H1 fun y H2 => tPairs r σ H2 fun ps H3 => Q ((x, y) :: ps) H3
abbrev VV : List (V × V) → List (Value × Value) → Prop := Paired fun p q => RelV p.1 q.1 ∧ RelV p.2 q.2
def PPs (X : Cx) (pos : Pos) (keys : List (Option Expr)) (values : List Expr) (trs : List (TE × TE)) : Prop :=
  ∀ (pins : List (Addr × Obj)) (s : Shared) (σ : St) (H : Hp) (Q : List (V × V) → Hp → Prop), Inv X pins σ H s → tPairs trs σ H Q →
    wpAny (model X.prog X.w) X.A (evalPairs (pairTrees keys values X.env pos)) (fun vs s' => ∃ ps H', Inv X pins σ H' s' ∧ VV ps vs ∧ Q ps H') X.xe s
def mergeK (kvs more : List (Key × V)) : List (Key × V) := more.foldl (fun acc kv => putK acc kv.1 kv.2) kvs
def tDisp (trs : List (TE × TE)) : TE := fun σ H Q => ∀ p, H p = none → tPairs trs σ (upd H p (.dK [])) fun ps H2 => H2 p = some (.dK []) ∧ ∃ kvs : List (Key × V), ps = kvs.map (fun kv => (kV kv.1, kv.2)) ∧ kvs.length ≤ 15 ∧ Q (.ref p) (upd H2 p (.dK (mergeK [] kvs)))
structure M1 (X : Cx) (o : Expr) (m : Str) (apos : Pos) (e : Expr) (cpos : Pos) : Prop where
  base : attributeBase o m X.env (eval o X.env) = eval o X.env
  few : ((backTo cpos (starEach [e] X.env)).all (fun x => !x.1) && (backToKw cpos (keywordEach [] X.env)).all (fun x => x.1.isSome)
    && decide (([e] : List Expr).length + ([] : List Keyword).length + (if ([] : List Keyword).isEmpty then 0 else 1) < 30)) = true
  line : (apos.endLine == cpos.line) = true
  trees : backTo cpos (starEach [e] X.env) = [(false, eval e X.env)]
structure M2 (X : Cx) (o : Expr) (m : Str) (apos : Pos) (e f : Expr) (cpos : Pos) : Prop where
  base : attributeBase o m X.env (eval o X.env) = eval o X.env
  few : ((backTo cpos (starEach [e, f] X.env)).all (fun x => !x.1) && (backToKw cpos (keywordEach [] X.env)).all (fun x => x.1.isSome)
    && decide (([e, f] : List Expr).length + ([] : List Keyword).length + (if ([] : List Keyword).isEmpty then 0 else 1) < 30)) = true
  line : (apos.endLine == cpos.line) = true
  trees : backTo cpos (starEach [e, f] X.env) = [(false, eval e X.env), (false, eval f X.env)]
def IsD (H : Hp) (a : Addr) : Prop := (∃ kvs, Rd H a (.dK kvs)) ∨ ∃ kvs, Rd H a (.dT kvs)
section
variable {X : Cx} {pins : List (Addr × Obj)} {σ : St} {H : Hp} {s : Shared} {a : Addr} {y d : V} {u r : Value} {o : Option V} {A : Around} {E : Value → Shared → Prop}
end
def tDGet1 (td ty : TE) : TE := fun σ H Q => td σ H fun x H1 => ∃ a, x = .ref a ∧ IsD H1 a ∧ ty σ H1 fun y H2 => ∃ o, DGet H2 a y o ∧ Q (o.getD .non) H2
def tDGet2 (td ty tx : TE) : TE := fun σ H Q => td σ H fun x H1 => ∃ a, x = .ref a ∧ IsD H1 a ∧ ty σ H1 fun y H2 => tx σ H2 fun z H3 => ∃ o, DGet H3 a y o ∧ Q (o.getD z) H3
def tDPop1 (td ty : TE) : TE := fun σ H Q => td σ H fun x H1 => ∃ a, x = .ref a ∧ IsD H1 a ∧ ty σ H1 fun y H2 => ∃ kvs k v, H2 a = some (.dK kvs) ∧ y = kV k ∧ valV kvs k = some v ∧ Q v (upd H2 a (.dK (dropK kvs k)))
def tDPop2 (td ty tx : TE) : TE := fun σ H Q => td σ H fun x H1 => ∃ a, x = .ref a ∧ IsD H1 a ∧ ty σ H1 fun y H2 => tx σ H2 fun z H3 => ∃ kvs k, H3 a = some (.dK kvs) ∧ y = kV k ∧
  (∀ v, valV kvs k = some v → Q v (upd H3 a (.dK (dropK kvs k)))) ∧ (valV kvs k = none → Q z H3)
section
variable {X : Cx} {o e f : Expr} {apos cpos : Pos} {td ty tx : TE}
end
section
variable {X : Cx} {pins : List (Addr × Obj)} {σ : St} {H : Hp} {s : Shared} {a : Addr} {kvs : List (Key × V)} {A : Around} {E : Value → Shared → Prop}
end
section
variable {X : Cx} {pins : List (Addr × Obj)} {σ : St} {H : Hp} {s : Shared} {a : Addr} {y : V} {u : Value} {A : Around} {E : Value → Shared → Prop}
end
end L2
namespace L2
open PySem PySem.Spec PyProof.Rows
section
variable {prog : Program} {w : World} {A : Around} {E : Value → Shared → Prop}
end
section
variable {X : Cx}
end
end L2
namespace L2
open PySem PySem.Spec PyProof.Rows
section
variable {X : Cx} {pins : List (Addr × Obj)} {σ : St} {H : Hp} {s : Shared} {h' : Heap}
theorem Inv.turnedL {t' : Nat} {ch : List Addr} (I : Inv X pins σ H s) (k : ∀ b o, b ∉ ch → s.heap.get? b = some o → h'.get? b = some o) (hf : ∀ b ∈ ch, FpOk X pins H b) : Inv X pins σ H { s with heap := h', toks := t' } := by
  have nit : ∀ b u, H b = some u → b ∉ ch := fun b u e z => by
    have q := (hf b z).1
    rw [q] at e; cases e
  refine I.step (g' := s.gens) (d' := s.drawn) (ch := ch) (fun b hb => ⟨(hf b hb).2.2.2.1, (hf b hb).2.1, (hf b hb).2.2.2.2.1, (hf b hb).2.2.2.2.2⟩) (fun b o _ _ hc e _ => k b o hc e) (fun b o _ _ hc e _ => ⟨o.slots, k b o hc e⟩)
    (fun _ _ _ _ n => n) (fun b o hc e => ⟨o, k b o hc e⟩) (fun _ _ e => e) (fun _ _ _ e => e) (fun b ps e => ⟨#[], by rw [e]; simp⟩) (fun m hm => ?_) (fun b u e => ?_) I.bare
  · obtain ⟨o, es, ep, ho, r⟩ := hm
    exact ⟨o, es, ep, k _ o (fun z => (hf _ z).2.1 rfl) ho, r⟩
  · refine (I.hok b u e).stay (fun c v hc q => k c v ?_ q) (fun _ q => q) fun _ _ q => q
    rcases hc with z | z
    · rw [z]; exact nit b u e
    · exact nit c _ z
theorem Inv.turnedNew {t' : Nat} {ch : List Addr} {T : Addr} {ob : HO} (I : Inv X pins σ H s) (k : ∀ b o, b ∉ ch → s.heap.get? b = some o → h'.get? b = some o) (hf : ∀ b ∈ ch, FpOk X pins H b) (hT : s.heap.objs.size ≤ T)
    (new : ObjOk X.prog X.w (upd H T ob) h' T ob) : Inv X pins σ (upd H T ob) { s with heap := h', toks := t' } := by
  have hn : H T = none := I.hok.fresh hT
  have nit : ∀ b u, H b = some u → b ∉ ch := fun b u e z => by
    have q := (hf b z).1
    rw [q] at e; cases e
  refine I.step (g' := s.gens) (d' := s.drawn) (ch := ch) (fun b hb => ⟨(hf b hb).2.2.2.1, (hf b hb).2.1, (hf b hb).2.2.2.2.1, (hf b hb).2.2.2.2.2⟩) (fun b o _ _ hc e _ => k b o hc e) (fun b o _ _ hc e _ => ⟨o.slots, k b o hc e⟩)
    (fun b o _ e n => ?_) (fun b o hc e => ⟨o, k b o hc e⟩) (fun b xs e => ?_) (fun b o u e => ?_) (fun b ps e => ⟨#[], ?_⟩) (fun m hm => ?_) (fun b u e => ?_) I.bare
  · rw [upd_ne (Nat.ne_of_lt (Nat.lt_of_lt_of_le (Heap.lt_size e) hT))]; exact n
  · rw [upd_ne (ne_of_none e hn)]; exact e
  · rw [upd_ne (ne_of_none e hn)]; exact e
  · rw [upd_ne (ne_of_none e hn), e]; simp
  · obtain ⟨o, es, ep, ho, r⟩ := hm
    exact ⟨o, es, ep, k _ o (fun z => (hf _ z).2.1 rfl) ho, r⟩
  · by_cases hb : b = T
    · subst hb
      rw [upd_same] at e
      cases e
      exact new
    · rw [upd_ne hb] at e
      refine (I.hok b u e).stay (fun c v hc q => k c v ?_ q) (fun c q => by rw [upd_ne (ne_of_none q hn)]; exact q) fun c xs q => by rw [upd_ne (ne_of_none q hn)]; exact q
      rcases hc with z | z
      · rw [z]; exact nit b u e
      · exact nit c _ z
end
def tLock (t : TS) : TS := fun D σ H => ∃ d u, H d = some u ∧ Mut (some u) ∧ ∀ od, t ⟨fun σ' H' => H' d = some (.frz od u) ∧ D.nx σ' (upd H' d u), fun v H' => H' d = some (.frz od u) ∧ D.rt v (upd H' d u), fun σ' H' => H' d = some (.frz od u) ∧ D.bk σ' (upd H' d u), fun σ' H' => H' d = some (.frz od u) ∧ D.ct σ' (upd H' d u)⟩ σ (upd H d (.frz od u))
def tLockE (t : TE) : TE := fun σ H Q => ∃ d u, H d = some u ∧ Mut (some u) ∧ ∀ od, t σ (upd H d (.frz od u)) fun v H' => H' d = some (.frz od u) ∧ Q v (upd H' d u)
section
variable {X : Cx}
theorem pi_one {tg : Expr} {pins : List (Addr × Obj)} {σ : St} {H : Hp} {s : Shared} {R : It → Hp → Prop} {J : It} {tn : Nat → Heap → Prop} {tk : Nat} (I : Inv X pins σ H s) (o : Obj)
    (T : Turn X.prog X.w X.K tg J [s.heap.objs.size] s.heap.objs.size tn) (st : tn 0 (s.heap.push o)) (q : R J H) : PIE X pins σ tg R (.ref s.heap.objs.size) { s with heap := s.heap.push o, toks := tk } := by
  refine ⟨s.heap.objs.size, [s.heap.objs.size], tn, J, H, rfl, I.kept fun b ob e => Heap.get?_push_of_some _ e, T, st, fun b hb => ?_, q⟩
  have e : b = s.heap.objs.size := by simpa using hb
  subst e
  exact I.fpOk (Nat.le_refl _) (I.hok.fresh (Nat.le_refl _))
end
def Itc (lo c : Int) (n : Nat) : It := ⟨fun i _ => i < n, fun i H x H' => H' = H ∧ x = .int (lo + (i : Nat) * c), fun i _ => n ≤ i⟩
theorem turn_rangeC {P : Program} {w : World} {K : PySem.W.Frag} {tg : Expr} (it : Addr) (lo c : Int) (n : Nat) : Turn P w K tg (Itc lo c n) [it] it (fun i h => IsRangeIter h it (lo + (i : Nat) * c) ((n : Int) - (i : Nat)) c) where
  mem := by simp
  obj := fun i h st b hb => by
    have e : b = it := by simpa using hb
    subst e
    exact ⟨_, st, fun v z => nomatch z⟩
  keep := fun i h h' st k => k it (by simp) _ st
  item := by
    intro X hP hw hK hc i pins s σ H E I hf st hg
    subst hP hw hK
    obtain ⟨f0, f1, f2, f3, f4, f5⟩ := hf it (by simp)
    have W := Walks.range (prog := X.prog) (w := X.w) (I.ok.hd hc) it lo c n
    refine W.item i s _ _ hg st fun v h' tk hv st' kk => ?_
    obtain ⟨t, rfl⟩ := hv
    have I1 : Inv X pins σ H { s with heap := h', toks := tk } := I.turned (fun b o hb e => kk b o (by simpa using hb) e) f0 f1 f3 f4 f5
    exact ⟨_, rfl, go_of (s := { s with heap := h', toks := tk }) (n := "range_iterator") st' rfl rfl (by decide) ⟨.int (lo + (i : Nat) * c), H, I1, ⟨t, rfl⟩, ⟨rfl, rfl⟩, st', fun b hb => (hf b hb).1⟩⟩
  done := by
    intro X hP hw hK hc i pins s σ H E I hf st hg
    subst hP hw hK
    obtain ⟨f0, f1, f2, f3, f4, f5⟩ := hf it (by simp)
    exact wpAny_pyNext_range_end (I.ok.hd hc) st (by have : n ≤ i := hg; omega) fun h' eb => ⟨rfl, I.turned (t' := s.toks) (fun b o hb e => eb b o hb e) f0 f1 f3 f4 f5⟩
  self := fun A i s Q E st h => wpAny_pyIter_rangeiter st h
def RgC (i j c : Int) (n : Nat) : Prop := c ≠ 0 ∧ c.natAbs < 1073741824 ∧ Builtin.Range.small i j c = true ∧ Builtin.Range.rangeSize i j c = n
theorem RgC.neg {i j : Int} (ha : -(2 ^ 62) ≤ i) (ha' : i < 2 ^ 62) (hb : -(2 ^ 62) ≤ j) (hb' : j < 2 ^ 62) : RgC i j (-1) (i - j).toNat :=
  ⟨by decide, by decide, PySem.W.small_down ha ha' hb hb', PySem.W.rangeSize_downNat i j⟩
def iRng3 (ta : TA) : TI := fun σ H R => ta σ H fun vs H1 => ∃ (i j c : Int) (n : Nat), vs = [.int i, .int j, .int c] ∧ RgC i j c n ∧ R (Itc i c n) H1
section
variable {X : Cx} {tg : Expr}
theorem pi_range3 {a b c : Expr} {ta : TA} {p pos : Pos} (hg : Gl X "range") (hm : X.mg "range" = none) (ha : PA X [a, b, c] ta)
    (hs : starEach [a, b, c] X.env = (false, eval a X.env) :: starEach [b, c] X.env := by rfl) (hpl : (backTo pos (starEach [b, c] X.env)).any (·.1) = false := by rfl) :
    PI X tg (.Call (.Name "range" p) [a, b, c] [] pos) (iRng3 ta) := by
  intro pins s σ H R I h
  refine Call_ (ld_blt I hg hm boot_range (PyProof.Rows.callWith_type1 (thn (ha pos pins s σ H _ I h) fun us s1 ⟨vs, H1, I1, r1, q1⟩ => ?_) hs hpl))
  obtain ⟨i, j, k, n, e, ⟨c0, c1, c2, c3⟩, q⟩ := q1
  subst e
  cases r1 with
  | cons r rr =>
    cases rr with
    | cons r' rr =>
      cases rr with
      | cons r'' rr =>
        cases rr
        obtain ⟨t, rfl⟩ := r
        obtain ⟨t', rfl⟩ := r'
        obtain ⟨t'', rfl⟩ := r''
        refine call_range_3 c0 ?_ (.inl (PyProof.noPylong_small c1))
        refine wpAny_pyIter_range (IsRange.new ..) c2 ?_
        have I2 : Inv X pins σ H1 { s1 with heap := s1.heap.push { cls := .type "range", data := .fields #[.int i t, .int j t', .int k t''] } } := I1.kept (t' := s1.toks) fun b o e => Heap.get?_push_of_some _ e
        refine pi_one (tk := s1.toks) I2 _ (turn_rangeC _ i k n) ?_ q
        have e1 : i + ((0 : Nat) : Int) * k = i := by simp
        have e2 : (n : Int) - ((0 : Nat) : Int) = Builtin.Range.rangeSize i j k := by rw [c3]; simp
        show IsRangeIter _ _ (i + ((0 : Nat) : Int) * k) ((n : Int) - ((0 : Nat) : Int)) k
        rw [e1, e2]
        exact Heap.get?_push_size _ rfl
end
theorem for_rangeC {lo c : Int} {n : Nat} {g : TG} {tb : TS} {D : Ends} {σ : St} {H : Hp} (Pv : Nat → St → Hp → Prop) (h0 : Pv 0 σ H)
    (hs : ∀ i σ H, i < n → Pv i σ H → g (.int (lo + (i : Nat) * c)) σ H fun σ2 H2 => tb { D with nx := Pv (i + 1), ct := Pv (i + 1), bk := D.nx } σ2 H2) (hd : ∀ σ H, Pv n σ H → D.nx σ H) :
    ∃ W : Nat → Nat → St → Hp → Prop, (∃ m, W 0 m σ H) ∧ ∀ i m σ H, W i m σ H →
      ((Itc lo c n).stop i H ∧ D.nx σ H) ∨ ((Itc lo c n).go i H ∧ ∃ N : St → Hp → Prop, (∀ σ' H', N σ' H' → ∃ m', m' < m ∧ W (i + 1) m' σ' H') ∧ ∀ x H', (Itc lo c n).yld i H x H' → g x σ H' fun σ2 H2 => tb { D with nx := N, ct := N, bk := D.nx } σ2 H2) := by
  refine ⟨fun i m σ H => m = n - i ∧ i ≤ n ∧ Pv i σ H, ⟨n, by simp, Nat.zero_le _, h0⟩, ?_⟩
  rintro i m σ H ⟨rfl, hi, p⟩
  by_cases hlt : i < n
  · refine .inr ⟨hlt, Pv (i + 1), fun σ' H' p' => ⟨n - (i + 1), by omega, rfl, hlt, p'⟩, fun x H' y => ?_⟩
    obtain ⟨e, y⟩ := y
    subst e y
    exact hs i σ _ hlt p
  · have e : i = n := by omega
    subst e
    exact .inl ⟨Nat.le_refl _, hd σ H p⟩
def Itv (K : PySem.W.Frag) (a : Addr) (n : Nat) : It :=
  ⟨fun i H => i < n ∧ ∃ (xs : List V) (x : V), SqL K H a xs ∧ xs[n - 1 - i]? = some x, fun i H x H' => H' = H ∧ ∀ xs, SqL K H a xs → xs[n - 1 - i]? = some x, fun i _ => n ≤ i⟩
def iRev (K : PySem.W.Frag) (ta : TA) : TI := fun σ H R => ta σ H fun vs H1 => ∃ (a : Addr) (xs : List V), vs = [.ref a] ∧ SqL K H1 a xs ∧ R (Itv K a xs.length) H1
section
variable {X : Cx} {tg : Expr}
end
def Its (x : Str) : It := ⟨fun i _ => i < x.cps.size, fun i H v H' => H' = H ∧ ∃ c, x.cps[i]? = some c ∧ v = .str ⟨#[c]⟩, fun i _ => x.cps.size ≤ i⟩
def iStr (te : TE) : TI := fun σ H R => te σ H fun v H1 => ∃ x, v = .str x ∧ R (Its x) H1
section
variable {prog : Program} {w : World} {A : Around} {E : Value → Shared → Prop} {s : Shared}
end
section
variable {X : Cx} {pins : List (Addr × Obj)} {σ : St} {H : Hp} {s : Shared} {d : Addr} {o : Obj}
end
def Itk (d : Addr) (o : Obj) (kvs : List (Key × V)) : It :=
  ⟨fun i H => H d = some (.frz o (.dK kvs)) ∧ i < kvs.length, fun i H x H' => H' = H ∧ ∃ k v, kvs[i]? = some (k, v) ∧ x = kV k, fun i H => H d = some (.frz o (.dK kvs)) ∧ kvs.length ≤ i⟩
def Itkt (d : Addr) (o : Obj) (kvs : List (List Key × V)) : It :=
  ⟨fun i H => H d = some (.frz o (.dT kvs)) ∧ i < kvs.length, fun i H x H' => H' = H ∧ ∃ (k : List Key) (v : V) (q : Addr), kvs[i]? = some (k, v) ∧ x = .ref q ∧ H q = some (.tup (k.map kV)), fun i H => H d = some (.frz o (.dT kvs)) ∧ kvs.length ≤ i⟩
def Itd (d : Addr) (o : Obj) (kvs : List (Key × V)) : It :=
  ⟨fun i H => H d = some (.frz o (.dK kvs)) ∧ i < kvs.length, fun i H x H' => H' = H ∧ ∃ k, kvs[i]? = some (k, x), fun i H => H d = some (.frz o (.dK kvs)) ∧ kvs.length ≤ i⟩
def Iti (d : Addr) (o : Obj) (kvs : List (Key × V)) : It :=
  ⟨fun i H => H d = some (.frz o (.dK kvs)) ∧ i < kvs.length, fun i H x H' => ∃ T k v, kvs[i]? = some (k, v) ∧ x = .ref T ∧ H T = none ∧ H' = upd H T (.tup [kV k, v]), fun i H => H d = some (.frz o (.dK kvs)) ∧ kvs.length ≤ i⟩
section
variable {P : Program} {w : World} {K : PySem.W.Frag} {tg : Expr} {d : Addr} {o : Obj} {es : Array DictEntry} {ep : Nat}
end
def iKeys (td : TE) : TI := fun σ H R => td σ H fun x H1 => ∃ d o, x = .ref d ∧ ((∃ kvs, H1 d = some (.frz o (.dK kvs)) ∧ R (Itk d o kvs) H1) ∨ ∃ kvs, H1 d = some (.frz o (.dT kvs)) ∧ R (Itkt d o kvs) H1)
def iVals (td : TE) : TI := fun σ H R => td σ H fun x H1 => ∃ d o kvs, x = .ref d ∧ H1 d = some (.frz o (.dK kvs)) ∧ R (Itd d o kvs) H1
def iItems (td : TE) : TI := fun σ H R => td σ H fun x H1 => ∃ d o kvs, x = .ref d ∧ H1 d = some (.frz o (.dK kvs)) ∧ R (Iti d o kvs) H1
def iKeysM (td : TE) : TI := fun σ H R => td σ H fun x H1 => ∃ d o kvs, x = .ref d ∧ H1 d = some (.frz o (.dK kvs)) ∧ R (Itk d o kvs) H1
section
variable {X : Cx} {tg e : Expr} {td : TE} {apos cpos : Pos}
end
def Ite (K : PySem.W.Frag) (a : Addr) : It :=
  ⟨fun i H => ∃ (xs : List V) (x : V), SqL K H a xs ∧ xs[i]? = some x, fun i H v H' => ∃ T x, v = .ref T ∧ H T = none ∧ H' = upd H T (.tup [.int (i : Nat), x]) ∧ ∀ xs, SqL K H a xs → xs[i]? = some x, fun i H => ∃ xs : List V, SqL K H a xs ∧ xs.length ≤ i⟩
theorem turn_enum {P : Program} {w : World} {K : PySem.W.Frag} {elts : List Expr} {kk : Nat} {tpos : Pos} (a e it : Addr) :
    Turn P w K (.Tuple elts kk tpos) (Ite K a) [e, it] e (fun i h => (∃ old, IsEnum h e it ((i : Nat) : Int) old) ∧ h.IsListIter it a i ∧ e ≠ it) where
  mem := by simp
  obj := fun i h st b hb => by
    obtain ⟨⟨old, he⟩, ⟨o, ho, hc, hd⟩, _⟩ := st
    have e' : b = e ∨ b = it := by simpa using hb
    rcases e' with z | z
    · rw [z]; exact ⟨_, he, fun v q => nomatch q⟩
    · rw [z]; exact ⟨o, ho, fun v q => by rw [hd] at q; cases q⟩
  keep := fun i h h' st k => let ⟨⟨old, he⟩, hi, hne⟩ := st; ⟨⟨old, k e (by simp) _ he⟩, hi.at fun o q => k it (by simp) o q, hne⟩
  item := by
    intro X hP hw hK hc i pins s σ H E I hf st hg
    subst hP hw hK
    obtain ⟨⟨old, he⟩, hit, hne⟩ := st
    obtain ⟨xs, x, hq, hx⟩ := hg
    obtain ⟨its, rv, p, hz⟩ := I.list hq
    obtain ⟨u, hu, ru⟩ := rv.get hx
    have hel : e < s.heap.objs.size := Heap.lt_size he
    have hil : it < s.heap.objs.size := by obtain ⟨_, q, _⟩ := hit; exact Heap.lt_size q
    refine wpAny_pyNext_enum_item he hit p.isList (x := u) (by simpa using hu) hne fun h' ho hit' hT hsz hk => ?_
    refine ⟨_, rfl, wpAny_letOwnedTupleGo_enum (s := { s with heap := h', toks := s.toks + 1 }) ho fun h'' he' sb => ?_⟩
    have hT2 : h''.get? s.heap.objs.size = some { cls := .type "tuple", data := .seq #[.int i s.toks, u] } := (sb.2 _ (Nat.ne_of_gt hel)).trans hT
    have new : ObjOk X.prog X.w (upd H s.heap.objs.size (.tup [.int (i : Nat), x])) h'' s.heap.objs.size (.tup [.int (i : Nat), x]) :=
      ⟨by show 2 ≤ sizeLine; decide, [.int i s.toks, u], .cons ⟨_, rfl⟩ (.cons ru .nil), ⟨_, hT2, rfl, rfl, _, rfl⟩⟩
    have I1 : Inv X pins σ (upd H s.heap.objs.size (.tup [.int (i : Nat), x])) { s with heap := h'', toks := s.toks + 1 } :=
      I.turnedNew (ch := [e, it]) (fun b ob hb q => (sb.2 b (fun z => hb (by simp [z]))).trans (hk b ob (fun z => hb (by simp [z])) (fun z => hb (by simp [z])) q)) hf (Nat.le_refl _) new
    refine ⟨.ref s.heap.objs.size, _, I1, rfl, ⟨_, x, rfl, I.hok.fresh (Nat.le_refl _), rfl, fun ys hy => by rw [I.list_inj hy hq]; exact hx⟩, ⟨⟨u, ?_⟩, hit'.at fun o q => (sb.2 it (Ne.symm hne)).trans q, hne⟩, fun b hb => ?_⟩
    · have e1 : ((i + 1 : Nat) : Int) = (i : Int) + 1 := by omega
      rw [e1]; exact he'
    · have hb' : b < s.heap.objs.size := by
        have e' : b = e ∨ b = it := by simpa using hb
        rcases e' with z | z
        · rw [z]; exact hel
        · rw [z]; exact hil
      rw [upd_ne (Nat.ne_of_lt hb')]
      exact (hf b hb).1
  done := by
    intro X hP hw hK hc i pins s σ H E I hf st hg
    subst hP hw hK
    obtain ⟨⟨old, he⟩, hit, hne⟩ := st
    obtain ⟨xs, hq, hx⟩ := hg
    obtain ⟨its, rv, p, hz⟩ := I.list hq
    obtain ⟨f0, f1, f2, f3, f4, f5⟩ := hf it (by simp)
    have hl := rv.length
    exact wpAny_pyNext_enum_end (I.ok.hd hc) he hit p.isList (by simp; omega) fun h' eb => ⟨rfl, I.turned (t' := s.toks) (fun b o hb q => eb b o hb q) f0 f1 f3 f4 f5⟩
  self := fun A i s Q E st h => let ⟨⟨_, he⟩, _⟩ := st; wpAny_pyIter_enum he h
def iEnum (K : PySem.W.Frag) (ta : TA) : TI := fun σ H R => ta σ H fun vs H1 => ∃ a xs, vs = [.ref a] ∧ SqL K H1 a xs ∧ R (Ite K a) H1
theorem pi_enum {X : Cx} {e : Expr} {ta : TA} {p pos tpos : Pos} {elts : List Expr} {kk : Nat} (hg : Gl X "enumerate") (hm : X.mg "enumerate" = none) (ha : PA X [e] ta) (hs : starEach [e] X.env = [(false, eval e X.env)] := by rfl) :
    PI X (.Tuple elts kk tpos) (.Call (.Name "enumerate" p) [e] [] pos) (iEnum X.K ta) := by
  intro pins s σ H R I h
  refine Call_ (ld_blt I hg hm boot_enumerate (PyProof.Rows.callWith_type1 (thn (ha pos pins s σ H _ I h) fun us s1 ⟨vs, H1, I1, r1, q1⟩ => ?_) hs rfl))
  obtain ⟨a, xs, ex, hq, q⟩ := q1
  subst ex
  cases r1 with
  | cons r rr =>
    cases rr
    cases r
    obtain ⟨its, rv, p', hz⟩ := I1.list hq
    refine call_enumerate_list p'.isList fun h' he hit hsz hk => wpAny_pyIter_enum he ?_
    have I2 : Inv X pins σ H1 { s1 with heap := h' } := I1.kept (t' := s1.toks) hk
    refine ⟨s1.heap.objs.size + 1, [s1.heap.objs.size + 1, s1.heap.objs.size], _, _, H1, rfl, I2, turn_enum a (s1.heap.objs.size + 1) s1.heap.objs.size, ⟨⟨.none, he⟩, hit, Nat.succ_ne_self _⟩, fun b hb => ?_, q⟩
    have e' : b = s1.heap.objs.size + 1 ∨ b = s1.heap.objs.size := by simpa using hb
    have hle : s1.heap.objs.size ≤ b := by
      rcases e' with z | z
      · rw [z]; exact Nat.le_add_right _ _
      · rw [z]; exact Nat.le_refl _
    exact I1.fpOk hle (I1.hok.fresh hle)
theorem boot_zip5 : bootBuiltins "zip" = some (.type "zip") := by decide +kernel
def Itz (K : PySem.W.Frag) (a b : Addr) : It :=
  ⟨fun i H => ∃ (xs ys : List V) (x y : V), SqL K H a xs ∧ SqL K H b ys ∧ xs[i]? = some x ∧ ys[i]? = some y,
    fun i H v H' => ∃ T x y, v = .ref T ∧ H T = none ∧ H' = upd H T (.tup [x, y]) ∧ (∀ xs, SqL K H a xs → xs[i]? = some x) ∧ ∀ ys, SqL K H b ys → ys[i]? = some y,
    fun i H => ∃ xs ys : List V, SqL K H a xs ∧ SqL K H b ys ∧ (xs.length ≤ i ∨ ys.length ≤ i)⟩
theorem turn_zip {P : Program} {w : World} {K : PySem.W.Frag} {elts : List Expr} {kk : Nat} {tpos : Pos} {a b z TI TO i1 i2 : Addr} (D : ZipApart z TI TO i1 i2 a b) :
    Turn P w K (.Tuple elts kk tpos) (Itz K a b) [z, TI, TO, i1, i2] z (fun i h => IsZip h z TI TO .none ∧ IsPair h TI (.ref i1) (.ref i2) ∧ (∃ x y, IsPair h TO x y) ∧ h.IsListIter i1 a i ∧ h.IsListIter i2 b i) where
  mem := by simp
  obj := fun i h st c hc => by
    obtain ⟨hz, hTI, ⟨x, y, hTO⟩, ⟨o1, e1, _, d1⟩, ⟨o2, e2, _, d2⟩⟩ := st
    have e' : c = z ∨ c = TI ∨ c = TO ∨ c = i1 ∨ c = i2 := by simpa using hc
    rcases e' with q | q | q | q | q
    · rw [q]; exact ⟨_, hz, fun v q => nomatch q⟩
    · rw [q]; exact ⟨_, hTI, fun v q => nomatch q⟩
    · rw [q]; exact ⟨_, hTO, fun v q => nomatch q⟩
    · rw [q]; exact ⟨o1, e1, fun v q => by rw [d1] at q; cases q⟩
    · rw [q]; exact ⟨o2, e2, fun v q => by rw [d2] at q; cases q⟩
  keep := fun i h h' st k => by
    obtain ⟨hz, hTI, ⟨x, y, hTO⟩, h1, h2⟩ := st
    exact ⟨k z (by simp) _ hz, k TI (by simp) _ hTI, ⟨x, y, k TO (by simp) _ hTO⟩, h1.at fun o q => k i1 (by simp) o q, h2.at fun o q => k i2 (by simp) o q⟩
  item := by
    intro X hP hw hK hc i pins s σ H E I hf st hg
    subst hP hw hK
    obtain ⟨hz, hTI, ⟨x0, y0, hTO⟩, h1, h2⟩ := st
    obtain ⟨xs, ys, x, y, hqx, hqy, hx, hy⟩ := hg
    obtain ⟨its, rv, p, _⟩ := I.list hqx
    obtain ⟨its2, rv2, p2, _⟩ := I.list hqy
    obtain ⟨u, hu, ru⟩ := rv.get hx
    obtain ⟨u2, hu2, ru2⟩ := rv2.get hy
    have hzl : z < s.heap.objs.size := Heap.lt_size hz
    refine wpAny_pyNext_zip_item D hz hTI hTO h1 h2 p.isList p2.isList (x := u) (y := u2) (by simpa using hu) (by simpa using hu2) fun h' z' TO' h1' h2' hT hsz hk => ?_
    refine ⟨_, rfl, wpAny_letOwnedTupleGo_zip (s := { s with heap := h' }) z' fun h'' z'' sb => ?_⟩
    have hT2 : h''.get? s.heap.objs.size = some { cls := .type "tuple", data := .seq #[u, u2] } := (sb.2 _ (Nat.ne_of_gt hzl)).trans hT
    have new : ObjOk X.prog X.w (upd H s.heap.objs.size (.tup [x, y])) h'' s.heap.objs.size (.tup [x, y]) :=
      ⟨by show 2 ≤ sizeLine; decide, [u, u2], .cons ru (.cons ru2 .nil), ⟨_, hT2, rfl, rfl, _, rfl⟩⟩
    have I1 : Inv X pins σ (upd H s.heap.objs.size (.tup [x, y])) { s with heap := h'' } :=
      I.turnedNew (t' := s.toks) (ch := [z, TI, TO, i1, i2]) (fun c o hb q => (sb.2 c (fun q' => hb (by simp [q']))).trans (hk c o (fun q' => hb (by simp [q'])) (fun q' => hb (by simp [q'])) (fun q' => hb (by simp [q'])) (fun q' => hb (by simp [q'])) q)) hf (Nat.le_refl _) new
    refine ⟨.ref s.heap.objs.size, _, I1, rfl, ⟨_, x, y, rfl, I.hok.fresh (Nat.le_refl _), rfl, fun l hl => by rw [I.list_inj hl hqx]; exact hx, fun l hl => by rw [I.list_inj hl hqy]; exact hy⟩, ⟨z'', ?_, ⟨u, u2, ?_⟩, ?_, ?_⟩, fun c hcm => ?_⟩
    · exact (sb.2 _ D.TIz).trans (hk _ _ D.TIz D.TITO D.TIi1 D.TIi2 hTI)
    · exact (sb.2 _ D.TOz).trans TO'
    · exact h1'.at fun o q => (sb.2 _ D.i1z).trans q
    · exact h2'.at fun o q => (sb.2 _ D.i2z).trans q
    · have hlt : c < s.heap.objs.size := by
        have e' : c = z ∨ c = TI ∨ c = TO ∨ c = i1 ∨ c = i2 := by simpa using hcm
        rcases e' with q | q | q | q | q
        · rw [q]; exact hzl
        · rw [q]; exact Heap.lt_size hTI
        · rw [q]; exact Heap.lt_size hTO
        · rw [q]; obtain ⟨_, e1, _⟩ := h1; exact Heap.lt_size e1
        · rw [q]; obtain ⟨_, e2, _⟩ := h2; exact Heap.lt_size e2
      rw [upd_ne (Nat.ne_of_lt hlt)]
      exact (hf c hcm).1
  done := by
    intro X hP hw hK hc i pins s σ H E I hf st hg
    subst hP hw hK
    obtain ⟨hz, hTI, ⟨x0, y0, hTO⟩, h1, h2⟩ := st
    obtain ⟨xs, ys, hqx, hqy, hend⟩ := hg
    obtain ⟨its, rv, p, _⟩ := I.list hqx
    obtain ⟨its2, rv2, p2, _⟩ := I.list hqy
    have l1 := rv.length
    have l2 := rv2.length
    have he : its.toArray[i]? = none ∨ its2.toArray[i]? = none := by
      rcases hend with q | q
      · exact .inl (by simp; omega)
      · exact .inr (by simp; omega)
    exact wpAny_pyNext_zip_end (I.ok.hd hc) D hz hTI hTO h1 h2 p.isList p2.isList he fun h' hk => ⟨rfl, I.turnedL (t' := s.toks) (ch := [z, TI, TO, i1, i2]) (fun c o hb q =>
      hk c o (fun q' => hb (by simp [q'])) (fun q' => hb (by simp [q'])) (fun q' => hb (by simp [q'])) (fun q' => hb (by simp [q'])) q) hf⟩
  self := fun A i s Q E st h => wpAny_pyIter_zip st.1 h
def iZip (K : PySem.W.Frag) (ta : TA) : TI := fun σ H R => ta σ H fun vs H1 => ∃ a b xs ys, vs = [.ref a, .ref b] ∧ SqL K H1 a xs ∧ SqL K H1 b ys ∧ R (Itz K a b) H1
theorem pi_zip {X : Cx} {e e2 : Expr} {ta : TA} {p pos tpos : Pos} {elts : List Expr} {kk : Nat} (hg : Gl X "zip") (hm : X.mg "zip" = none) (ha : PA X [e, e2] ta)
    (hs : starEach [e, e2] X.env = (false, eval e X.env) :: starEach [e2] X.env := by rfl) (hpl : (backTo pos (starEach [e2] X.env)).any (·.1) = false := by rfl) :
    PI X (.Tuple elts kk tpos) (.Call (.Name "zip" p) [e, e2] [] pos) (iZip X.K ta) := by
  intro pins s σ H R I h
  refine Call_ (ld_blt I hg hm boot_zip5 (PyProof.Rows.callWith_type1 (thn (ha pos pins s σ H _ I h) fun us s1 ⟨vs, H1, I1, r1, q1⟩ => ?_) hs hpl))
  obtain ⟨a, b, xs, ys, ex, hqx, hqy, q⟩ := q1
  subst ex
  cases r1 with
  | cons r rr =>
    cases rr with
    | cons r' rr =>
      cases rr
      cases r
      cases r'
      obtain ⟨its, rv, p1, _⟩ := I1.list hqx
      obtain ⟨its2, rv2, p2, _⟩ := I1.list hqy
      have la : a < s1.heap.objs.size := p1.lt
      have lb : b < s1.heap.objs.size := p2.lt
      refine call_zip_2 p1.isList p2.isList fun h' hz hTI hTO h1 h2 hsz hk => wpAny_pyIter_zip hz ?_
      have I2 : Inv X pins σ H1 { s1 with heap := h' } := I1.kept (t' := s1.toks) hk
      refine ⟨s1.heap.objs.size + 4, [s1.heap.objs.size + 4, s1.heap.objs.size + 2, s1.heap.objs.size + 3, s1.heap.objs.size, s1.heap.objs.size + 1], _, _, H1, rfl, I2, turn_zip (PySem.W.ktu_apart s1.heap.objs.size a b la lb), ⟨hz, hTI, ⟨_, _, hTO⟩, h1, h2⟩, fun c hcm => ?_, q⟩
      have e' : c = s1.heap.objs.size + 4 ∨ c = s1.heap.objs.size + 2 ∨ c = s1.heap.objs.size + 3 ∨ c = s1.heap.objs.size ∨ c = s1.heap.objs.size + 1 := by simpa using hcm
      have hle : s1.heap.objs.size ≤ c := by
        rcases e' with z | z | z | z | z
        · rw [z]; exact Nat.le_add_right _ _
        · rw [z]; exact Nat.le_add_right _ _
        · rw [z]; exact Nat.le_add_right _ _
        · rw [z]; exact Nat.le_refl _
        · rw [z]; exact Nat.le_add_right _ _
      exact I1.fpOk hle (I1.hok.fresh hle)
end L2
section 
namespace Bits
open PySem PyProof.Rows
end Bits
end 
section 
namespace TL
open PySem PySem.Builtin PySem.Builtin.Str PySem.StrLaws
abbrev tl (x : Str) : List Nat := x.cps.toList
def pre (S l : List Nat) : Bool := l.take S.length == S
def spl (S : List Nat) : Nat → List Nat → List Nat → List (List Nat)
  | _, acc, [] => [acc]
  | 0, acc, c :: r => if pre S (c :: r) = true then acc :: spl S (S.length - 1) [] r else spl S 0 (acc ++ [c]) r
  | k + 1, acc, _ :: r => spl S k acc r
def par (S : List Nat) : List Nat → List Nat → Option (List Nat × List Nat)
  | _, [] => none
  | acc, c :: r => if pre S (c :: r) = true then some (acc, (c :: r).drop S.length) else par S (acc ++ [c]) r
def joinL (S : List Nat) : List (List Nat) → List Nat
  | [] => []
  | [p] => p
  | p :: q :: r => p ++ (S ++ joinL S (q :: r))
def numL (n : Nat) : List Nat := (Nat.toDigits 10 n).map Char.toNat
def wstep (st : List (List Nat) × List Nat) (c : Nat) : List (List Nat) × List Nat :=
  if Unicode.isSpace c = true then (if st.2 = [] then st else (st.1 ++ [st.2], [])) else (st.1, st.2 ++ [c])
def wfin (st : List (List Nat) × List Nat) : List (List Nat) := if st.2 = [] then st.1 else st.1 ++ [st.2]
end TL
end 
namespace L2
open PySem PySem.Spec PyProof.Rows
def rNewStrs (ys : List Str) : Hp → VK → Prop := fun H Q => ∀ p, H p = none → Q (.ref p) (upd H p (.lst (ys.map V.str)))
section
variable {X : Cx} {pins : List (Addr × Obj)} {σ : St} {H : Hp} {s : Shared} {Q : VK}
end
section
variable {X : Cx}
end
section
variable {X : Cx} {o e : Expr} {to te : TE}
def tM0 (r : V → List V → Hp → VK → Prop) (to : TE) : TE := fun σ H Q => to σ H fun x H1 => (∃ a, x = .str a) ∧ r x [] H1 Q
def tM1 (r : V → List V → Hp → VK → Prop) (to te : TE) : TE := fun σ H Q => to σ H fun x H1 => (∃ a, x = .str a) ∧ te σ H1 fun y H2 => r x [y] H2 Q
end
end L2
namespace L2
open PySem PySem.Spec PyProof.Rows
section
variable {X : Cx}
end
def clipS (n d : Nat) : Option Int → Int
  | none => (d : Int)
  | some i => max 0 (min (if i < 0 then i + (n : Int) else i) (n : Int))
def cutS (z : Str) (lo hi : Option Int) : Str :=
  ⟨((z.cps.toList.drop (HT.sIx z.length 0 lo)).take (HT.sIx z.length z.length hi - HT.sIx z.length 0 lo)).toArray⟩
def rSlS : V → Option Int → Option Int → Hp → VK → Prop := fun x lo hi H Q => ∃ z, x = .str z ∧ z.length ≤ sizeLine ∧ Q (.str (cutS z lo hi)) H
end L2
namespace Att
open PySem PySem.W PySem.Calls PyProof.Rows
theorem ints_of_wellAll {P : Params} {h : Heap} : ∀ (ns : List Int) (vs : List Value), WellAll P h vs (ns.map WData.int) → IntsAre vs ns := by
  intro ns
  induction ns with
  | nil =>
    intro vs w
    rw [List.map_nil] at w
    cases w
    exact .nil
  | cons n ns ih =>
    intro vs w
    rw [List.map_cons] at w
    cases w with
    | cons a b =>
      cases a
      exact .cons _ _ (ih _ b)
theorem script_of {l : OpenLaw} {n : Nat} (hn : l.most = some n) {P : Params} {h : Heap} {args : List WData} {vals : List Value}
    (hpre : l.row.toRowW.claim.pre args = true) (hwl : WellAll P h vals args) :
    ∃ a vs ns, vals = [Value.ref a] ∧ args = [WData.list (ns.map WData.int)] ∧ h.get? a = some { cls := .type "list", data := .seq vs.toArray } ∧ IntsAre vs ns ∧ ns.length ≤ n := by
  have hsh : WShape.hasAll [] args [.list .int] = true := (pre_splitW hpre).1
  have hc : l.pre.holds [] { args := args } = true := (pre_splitW hpre).2
  obtain ⟨d, r, rfl, h1, h2⟩ := hasAllW_cons hsh
  obtain rfl := hasAllW_nil h2
  obtain ⟨xs, rfl, h3⟩ := hasW_list h1
  obtain ⟨ns, rfl⟩ := items_int h3
  have hlen : ns.length ≤ n := by
    unfold OpenLaw.pre at hc
    have h4 : (WTm.not (.lt (.lit (.int (n : Int))) (.len (.arg 0)))).holds [] { args := [.list (ns.map .int)] } = true := by
      have h4 := (holds_andW hc).1
      rw [hn] at h4
      exact h4
    have h5 := condW_of h4 (w_not (w_lt w_lit (w_len_list (w_arg rfl))))
    rw [List.length_map] at h5
    refine Nat.le_of_not_lt fun q => ?_
    have q' : (n : Int) < ((ns.length : Nat) : Int) := by omega
    first
      | (rw [decide_eq_true q'] at h5; exact absurd h5 (by decide))
      | (simp at h5; omega)
  cases hwl with
  | cons w1 w2 =>
    cases w2
    cases w1 with
    | list ho hall => exact ⟨_, _, ns, rfl, rfl, ho, ints_of_wellAll ns _ hall, hlen⟩
theorem post_true (l : OpenLaw) (args : List WData) : l.row.toRowW.claim.post args (.bool true) args = true :=
  postW_of (r := l.row.toRowW) (X := (true == true))
    (show WShape.has [] (.bool true) .bool = true by first | rfl | decide | simp [WShape.has, WShape.arms, WShape.armsAll])
    (show (WTm.eq .res (.lit (.bool true))).value [] { args := args, res := some (.bool true), after := args } = some (.bool (true == true)) from w_eq_bool (w_res rfl) w_lit) rfl
theorem attach_call {l : OpenLaw} {n : Nat} {q : Program} {loose : List Str} {XP : (Str → Option Value) → Heap → Prop} {YP : World → Heap → Prop} {d : DefRec}
    (hn : l.most = some n) (hdf : d.params.defaults = [])
    (call : ∀ (w : World) (s₀ s₁ : Shared) (mg mb : Str → Option Value) (fa : Addr) (o : Obj) (pm cd doc : Value) (a : Addr) (vs : List Value) (ns : List Int),
      Ground q loose [] XP w s₀ mg mb s₁.heap → YP w s₁.heap →
      s₁.heap.get? fa = some o → o.data = .func (docDef d.name d.params d.body d.scope pm cd doc) → s₁.heap.CodeRec cd d.name → mg d.name = some (.ref fa) →
      s₁.heap.get? a = some { cls := .type "list", data := .seq vs.toArray } → IntsAre vs ns → ns.length ≤ n → s₁.gens = #[] →
      codeAny (model l.prog w) callerA (.call (.ref fa) ⟨[.ref a], []⟩) (fun r s' => r = .ok (.ret (.bool true)) ∧ OldK s₁.heap s'.heap ∧ s'.os = s₁.os ∧ AllBare s'.gens) s₁) :
    WalkO q loose XP YP l.row.toRowW d [] (fun f vs => PySem.call f vs) := by
  intro w s₀ s₁ mg mb G Y fa o pm cd doc dV kV ho hd hcd hD hmg hg args vals as hpre hlay hrd hwl hlo
  obtain rfl : dV = .none := Dflts.none hD hdf
  obtain rfl : kV = .none := Dflts.noKw hD
  obtain ⟨a, vs, ns, rfl, rfl, hobj, hints, hlen⟩ := script_of hn hpre hwl
  refine enter_call (codeAny_mono (call w s₀ s₁ mg mb fa o pm cd doc a vs ns G Y ho (fd_plain hd) hcd hmg hobj hints hlen hg) fun r s' hq => ?_)
  obtain ⟨rfl, h2, h3, h4⟩ := hq
  exact ⟨.inl ⟨.bool true, .bool true, [], rfl, fun _ => rfl, .bool true, post_true l _, fun _ => ⟨List.Pairwise.nil, fun _ hm => (nomatch hm)⟩⟩, h2, h3, h4⟩
section
variable {prog : Program} {w : World} {A : Around} {E : Value → Shared → Prop} {s : Shared} {K : Frag}
def noObjs (h : Heap) : Heap := { h with objs := #[] }
def ledger (h : Heap) (L d : Addr) : List (Addr × Obj) := (List.range h.objs.size).filterMap fun a => if a = L ∨ a = d then none else (h.get? a).map fun o => (a, o)
end
end Att
namespace L2
open PySem PySem.Spec PyProof.Rows
theorem vals_ints : ∀ {vs : List Value} {ns : List Int}, IntsAre vs ns → Vals (ns.map V.int) vs
  | _, _, .nil => .nil
  | _, _, .cons n t h => .cons ⟨t, rfl⟩ (vals_ints h)
def Only (H : Hp) : Prop := ∀ b, H b = none ∨ ∃ o xs, H b = some (.frz o (.lst xs))
end L2
namespace L2
open PySem PySem.Spec PyProof.Rows
abbrev KOf {K : PySem.W.Frag} {h : Heap} (_ : K.In h) : PySem.W.Frag := K
end L2
namespace L2
open PySem PySem.Spec PyProof.Rows
def inClass (s : Stmt) (j : Nat) : Stmt := match s with
  | .ClassDef _ _ _ body _ _ _ _ _ _ _ => body.getD j (.Pass ⟨0, 0, 0, 0⟩)
  | _ => .Pass ⟨0, 0, 0, 0⟩
def defArgs (s : Stmt) : Arguments := match s with
  | .FunctionDef _ a _ _ _ _ _ _ _ _ => a
  | _ => { posonlyargs := [], args := [], vararg := none, kwonlyargs := [], kw_defaults := [], kwarg := none, defaults := [] }
def defBody (s : Stmt) : List Stmt := match s with
  | .FunctionDef _ _ b _ _ _ _ _ _ _ => b
  | _ => []
def defScope (s : Stmt) : Scope := match s with
  | .FunctionDef _ _ _ _ _ _ sc _ _ _ => sc
  | _ => { kind := .function, names := [], isGenerator := false, isCoroutine := false }
abbrev CX0 : CXT := fun _ _ _ _ _ _ => False
abbrev E0 : XK := fun _ _ _ => False
theorem pass0 {X : Cx} : Passes CX0 X E0 := fun _ _ _ _ _ _ _ h => h.elim
structure Fun (K : PySem.W.Frag) (x qual : Str) (st : Stmt) (f : Addr) (fd : FuncData) : Prop where
  ex : ∃ (oc : Value) (od : Option Addr) (kV doc pm : Value) (an : Option Addr) (cdv ct : Value) (osl : Array (Option Value)),
    fd = PySem.W.fnOf x qual (defArgs st) (defBody st) (defScope st) .none kV doc pm an cdv ct ∧ K.lookup f = some ⟨oc, od, .func fd, osl⟩ ∧ PySem.W.codeIn K cdv qual = true
  kp : PySem.W.keepIn K (.ref f) = true
section
variable {P : Program} {w : World} {K : PySem.W.Frag} {mg : Str → Option Value} {base : Heap}
theorem Fun.ok {x qual : Str} {st : Stmt} {f : Addr} {fd : FuncData} {N ps : List Str} {k : Nat} {sp : Sp} (F : Fun K x qual st f fd) (S : FnScope N ps (defScope st)) (len : ∀ vs H Q E, sp vs H Q E → vs.length = ps.length)
    (hbody : ∀ (cdv : Value) (A : Around) (outer : List Env) (s : Shared) (H : Hp) (vs : List V) (Q : VK) (E : XK), Room k (A.deeper (envOfC qual (defScope st) s.heap.objs.size f cdv)) → sp vs H Q E →
      ∃ t, PSs (cxOf CX0 P w K mg base N qual (defScope st) f cdv A outer s H E).nox (defBody st) t ∧ t { nx := fun _ H' => Q .non H', rt := Q } (start N vs) H) : FnOk P w K mg base CX0 (k + 1) f fd ps sp := by
  obtain ⟨oc, od, kV, doc, pm, an, cdv, ct, osl, rfl, lk, hcd⟩ := F.ex
  refine fn_of lk hcd S len fun A outer s H vs Q E hr hsp => ?_
  obtain ⟨t, h, q⟩ := hbody cdv A outer s H vs Q E hr hsp
  exact ⟨t, h.nox, q⟩
theorem Fun.binds {x qual : Str} {st : Stmt} {f : Addr} {fd : FuncData} {ps : List Str} (F : Fun K x qual st f fd)
    (h : ∀ (kV doc pm : Value) (an : Option Addr) (cdv ct : Value) (us : List Value), us.length = ps.length → bindArgs (PySem.W.fnOf x qual (defArgs st) (defBody st) (defScope st) .none kV doc pm an cdv ct) ⟨us, []⟩ = pure (ps.zip us)) : Binds K fd ps [] := by
  obtain ⟨oc, od, kV, doc, pm, an, cdv, ct, osl, rfl, lk, hcd⟩ := F.ex
  exact .all (h kV doc pm an cdv ct)
theorem fun_mk {x qual : Str} {st : Stmt} {f : Addr} {oc : Value} {od an : Option Addr} {osl : Array (Option Value)} {kV doc pm cdv ct : Value} (l : K.lookup f = some ⟨oc, od, .func (PySem.W.fnOf x qual (defArgs st) (defBody st) (defScope st) .none kV doc pm an cdv ct), osl⟩)
    (c : PySem.W.codeIn K cdv qual = true) (k : PySem.W.keepIn K (.ref f) = true) : Fun K x qual st f (PySem.W.fnOf x qual (defArgs st) (defBody st) (defScope st) .none kV doc pm an cdv ct) := ⟨⟨oc, od, kV, doc, pm, an, cdv, ct, osl, rfl, l, c⟩, k⟩
end
theorem small1000 {n : Nat} (h : n ≤ 1000) : n < sizeLine := Nat.lt_of_le_of_lt h (by decide)
section
variable {X : Cx}
theorem pv (i : Nat) {x : Str} {pos : Pos} (hN : X.N[i]? = some x := by rfl) (hv : Vis X.env.scope x := by first | exact Or.inl rfl | exact Or.inr (Or.inl rfl) | exact Or.inr (Or.inr rfl)) (hd : (x == ("__debug__" : Str)) = false := by decide)
    (hcd : (x == ("__classdict__" : Str)) = false := by decide) : PE X (.Name x pos) (tVar i) := pe_var hN hv hd hcd
end
theorem iteF {A B : Prop} (h : B) : if false = true then A else B := by
  rw [if_neg Bool.false_ne_true]
  exact h
theorem iteT {A B : Prop} (h : A) : if true = true then A else B := by
  rw [if_pos rfl]
  exact h
theorem ite2 {c A B : Prop} [Decidable c] (h1 : c → A) (h2 : ¬ c → B) : if c then A else B := by
  by_cases h : c
  · rw [if_pos h]
    exact h1 h
  · rw [if_neg h]
    exact h2 h
def Same (H H' : Hp) : Prop := ∀ b o, H b = some o → H' b = some o
theorem Same.refl (H : Hp) : Same H H := fun _ _ h => h
theorem Same.trans {H H1 H2 : Hp} (a : Same H H1) (b : Same H1 H2) : Same H H2 := fun c o h => b c o (a c o h)
theorem Same.free {H H' : Hp} (e : Same H H') {l : Addr} (h : H' l = Option.none) : H l = Option.none := by
  cases q : H l with
  | none => rfl
  | some o =>
    rw [e l o q] at h
    cases h
theorem Same.seq {K : PySem.W.Frag} {H H' : Hp} {a : Addr} {xs : List V} (e : Same H H') (h : SqL K H a xs) : SqL K H' a xs := by
  rcases h with (h | ⟨o, h⟩) | h
  · exact .inl (.inl (e _ _ h))
  · exact .inl (.inr ⟨o, e _ _ h⟩)
  · exact .inr h
section
variable {κ : Type} [DecidableEq κ]
theorem nd_snoc : ∀ {l : List κ} {k : κ}, l.Nodup → ¬ k ∈ l → (l ++ [k]).Nodup
  | [], k, _, _ => by simp
  | a :: r, k, h, hk => by
    obtain ⟨h1, h2⟩ := List.nodup_cons.mp h
    show (a :: (r ++ [k])).Nodup
    refine List.nodup_cons.mpr ⟨fun m => ?_, nd_snoc h2 fun m => hk (List.mem_cons.mpr (Or.inr m))⟩
    rcases List.mem_append.mp m with q | q
    · exact h1 q
    · exact hk (List.mem_cons.mpr (Or.inl (List.mem_singleton.mp q).symm))
end
theorem at_of {xs : List V} {z : Int} {j : Nat} {v : V} (e : z = (j : Int)) (h : xs[j]? = some v) : atI xs z = some v := by
  rw [e]
  exact atI_nat h
theorem nd_ix {α : Type} {l : List α} (hN : l.Nodup) {i j : Nat} {x : α} (a : l[i]? = some x) (b : l[j]? = some x) : i = j := by
  obtain ⟨h1, e1⟩ := List.getElem?_eq_some_iff.mp a
  obtain ⟨h2, e2⟩ := List.getElem?_eq_some_iff.mp b
  exact (List.getElem_inj hN).mp (e1.trans e2.symm)
theorem Same.made {H H1 : Hp} {x dx C : Addr} (nx : H x = Option.none) (nd : H dx = Option.none) (k : ∀ b o, (upd (upd H dx (.own x)) x (.ins C dx [])) b = some o → b ≠ x → H1 b = some o) : Same H H1 := fun b o e =>
  k b o (by rw [upd_ne (ne_of_none e nx), upd_ne (ne_of_none e nd)]; exact e) (ne_of_none e nx)
end L2
set_option Elab.async false
set_option linter.all false
set_option maxRecDepth 100000
set_option maxHeartbeats 4000000
namespace L2
open PySem PySem.Spec PyProof.Rows
section
variable {prog : Program} {w : World} {A : Around} {E : Value → Shared → Prop} {s : Shared}
theorem nextTup_item {it l : Addr} {i : Nat} {items : Array Value} {x : Value} {Q : Value → Shared → Prop} (hit : s.heap.IsTupleIter it l i) (hl : s.heap.IsTuple l items) (hx : items[i]? = some x)
    (hQ : ∀ h', h'.IsTupleIter it l (i + 1) → Heap.SameBut it s.heap h' → Q x { s with heap := h' }) : wpAny (model prog w) A (Builtin.SmallTypes.nextOf (.ref it)) Q E s := by
  obtain ⟨o, ho, hc, hd⟩ := id hit
  obtain ⟨ol, hol, _, nl, hdl⟩ := hl
  unfold Builtin.SmallTypes.nextOf
  refine wpAny_bind (wpAny_callSpecial?_slot (name := Str.ofString "__next__") hit.typeIs F.slot_tuple_iterator_next (wpAny_call_entry F.slot_tuple_iterator_next hit.typeIs F.entry_tuple_iterator_next ?_ (F.args_tuple_iterator_next_1 _)))
  show wpAny _ _ (field (.ref it) 0 >>= _) _ _ s
  refine wpAny_bind (wpAny_field ho hd (x := .ref l) rfl ?_)
  show wpAny _ _ (if (Value.ref l == Value.none) = true then _ else _) _ _ s
  rw [if_neg (show ¬ ((Value.ref l == Value.none) = true) from Bool.false_ne_true)]
  show wpAny _ _ (field (.ref it) 1 >>= _) _ _ s
  refine wpAny_bind (wpAny_field ho hd (x := .int i 0) rfl ?_)
  show wpAny _ _ (seqItems? (.ref l) >>= _) _ _ s
  refine wpAny_bind (wpAny_seqItems hol hdl ?_)
  simp only [Int.toNat_natCast, hx]
  refine wpAny_bind (wpAny_setField ho hd (by simp) (wpAny_pure ⟨x, rfl, wpAny_pure (hQ _ ?_ (Heap.SameBut.update ..))⟩))
  exact ⟨_, Heap.get?_update_self _ ho (Obj.isFreed_of_fields (Obj.data_mapFields hd _)), (Obj.cls_mapFields ..).trans hc, by rw [Obj.data_mapFields hd]; simp [rawInt]⟩
theorem nextTup_end {it l : Addr} {i : Nat} {items : Array Value} {Q : Value → Shared → Prop} (hh : A.handled = none) (hit : s.heap.IsTupleIter it l i) (hl : s.heap.IsTuple l items) (hx : items[i]? = none)
    (hE : ∀ h' e, Heap.ExtBut it s.heap h' → (∃ o, h'.get? e = some o ∧ o.cls = .type "StopIteration") → E (.ref e) { s with heap := h' }) : wpAny (model prog w) A (Builtin.SmallTypes.nextOf (.ref it)) Q E s := by
  obtain ⟨o, ho, hc, hd⟩ := id hit
  obtain ⟨ol, hol, _, nl, hdl⟩ := hl
  unfold Builtin.SmallTypes.nextOf
  refine wpAny_bind (wpAny_callSpecial?_slot (name := Str.ofString "__next__") hit.typeIs F.slot_tuple_iterator_next (wpAny_call_entry F.slot_tuple_iterator_next hit.typeIs F.entry_tuple_iterator_next ?_ (F.args_tuple_iterator_next_1 _)))
  show wpAny _ _ (field (.ref it) 0 >>= _) _ _ s
  refine wpAny_bind (wpAny_field ho hd (x := .ref l) rfl ?_)
  show wpAny _ _ (if (Value.ref l == Value.none) = true then _ else _) _ _ s
  rw [if_neg (show ¬ ((Value.ref l == Value.none) = true) from Bool.false_ne_true)]
  show wpAny _ _ (field (.ref it) 1 >>= _) _ _ s
  refine wpAny_bind (wpAny_field ho hd (x := .int i 0) rfl ?_)
  show wpAny _ _ (seqItems? (.ref l) >>= _) _ _ s
  refine wpAny_bind (wpAny_seqItems hol hdl ?_)
  simp only [Int.toNat_natCast, hx]
  refine wpAny_bind (wpAny_rule (wpAny_bind (wpAny_setField ho hd (by simp) ?_)))
  show wpAny _ _ (newExc (.type "StopIteration") [] >>= _) _ _ _
  refine wpAny_bind ?_
  simp only [newExc, newTuple]
  refine wpAny_bind (wpAny_newObj_type ?_ (by size_fits))
  refine wpAny_bind (m := firstArgMember _ _) (wpAny_of_eq (a := Value.none) (by first | rfl | (simp only [firstArgMember]; rfl)) ?_)
  refine wpAny_newObj_type ?_ (by size_fits)
  simp only [raiseNew]
  refine wpAny_bind (wpAny_handled ?_)
  first | rw [show A.in1.handled = none from hh] | rw [hh]
  refine wpAny_bind (wpAny_pure (wpAny_throw ?_))
  exact hE _ _ (((Heap.SameBut.update ..).extBut.push _).push _) ⟨_, Heap.get?_push_size _ rfl, rfl⟩
end
theorem drawsTup {prog : Program} {w : World} {A : Around} (hh : A.handled = none) (it l : Addr) (hne : l ≠ it) (items : Array Value) :
    Draws prog w A it [it, l] items.size (fun i v => items[i]? = some v) (fun i h => h.IsTupleIter it l i ∧ h.IsTuple l items) where
  live := fun _ _ st => let ⟨o, ho, _⟩ := st.1; ⟨o, ho⟩
  frame := fun _ _ _ st hk => ⟨let ⟨o, ho, r⟩ := st.1; ⟨o, hk it (by simp) o ho, r⟩, let ⟨o, ho, r⟩ := st.2; ⟨o, hk l (by simp) o ho, r⟩⟩
  item := fun i s Q E hi st hQ => by
    refine nextTup_item st.1 st.2 (x := items[i]) (by simp [hi]) fun h' hit' hs' => ?_
    exact hQ _ h' s.toks (by simp [hi]) ⟨hit', st.2.extBut hs'.extBut hne⟩ hs'
  done := fun s Q E st hE => nextTup_end hh st.1 st.2 (by simp) hE
theorem meetsEnumT (l : Addr) (items : Array Value) (n : Nat) (dct : Option Addr) (sl : Array (Option Value)) :
    Meets (Builtin.«enumerate.__new__» ⟨[.type "enumerate", .ref l], []⟩) (fun _ R s => s.heap.get? l = some { cls := .type "tuple", dict := dct, data := .seq items n, slots := sl } ∧
      R (.ok (.ret (.ref (s.heap.push { cls := .type "tuple_iterator", data := .fields #[.ref l, .int 0 0] }).objs.size)))
        { s with heap := (s.heap.push { cls := .type "tuple_iterator", data := .fields #[.ref l, .int 0 0] }).push { cls := .type "enumerate", data := .fields #[.none, .bool false, .ref s.heap.objs.size, rawInt 0, .none, .none] } }) :=
  .of_wp fun prog w A R s h => by
    obtain ⟨hp, g, d, tk, os⟩ := s; obtain ⟨hl, h⟩ := h
    have hsub := sub_enumerate
    have hL : Heap.IsTuple (Shared.heap ⟨hp, g, d, tk, os⟩) l items := ⟨_, hl, rfl, n, rfl⟩
    wp_walk using AutoSeq1.wpAny_loadPart' hl
    refine wpAny_stack_any fun st => wpAny_pure ?_
    split
    · rename_i c _ _ _ _ _
      cases (c == Value.type "enumerate")
      · wp_walk using AutoSeq1.wpAny_loadPart' hl, wpAny_pyIter_tuple hL
        exact ⟨_, rfl, h⟩
      · wp_walk using AutoSeq1.wpAny_loadPart' hl, wpAny_pyIter_tuple hL
        exact ⟨_, rfl, h⟩
    · wp_walk using AutoSeq1.wpAny_loadPart' hl, wpAny_pyIter_tuple hL
      exact ⟨_, rfl, h⟩
section
variable {prog : Program} {w : World} {A : Around} {E : Value → Shared → Prop} {s : Shared}
theorem callEnumT {l : Addr} {items : Array Value} {Q : Value → Shared → Prop} (hL : s.heap.IsTuple l items)
    (h : ∀ h', IsEnum h' (s.heap.objs.size + 1) s.heap.objs.size 0 .none → h'.IsTupleIter s.heap.objs.size l 0 → h'.objs.size = s.heap.objs.size + 2 →
      (∀ b o, s.heap.get? b = some o → h'.get? b = some o) → Q (.ref (s.heap.objs.size + 1)) { s with heap := h' }) :
    wpAny (model prog w) A (call (.type "enumerate") [.ref l]) Q E s := by
  obtain ⟨⟨c, dct, dt, sl⟩, hl, hc, n, hd⟩ := hL
  replace hc : c = .type "tuple" := hc
  replace hd : dt = .seq items n := hd
  subst hc hd
  refine callType_new F.called_enumerate (by decide) (F.typeCall_enumerate_1 _) (F.newCall_enumerate_1 _) (fun obj => F.args_object_init_2 obj _) F.entry_enumerate_new (meetsEnumT l items n dct sl) ⟨hl, ?_⟩
  have hz : (s.heap.push { cls := .type "tuple_iterator", data := .fields #[.ref l, .int 0 0] }).objs.size = s.heap.objs.size + 1 := Heap.size_push ..
  show _ ∧ _
  rw [hz]
  have he : IsEnum ((s.heap.push { cls := .type "tuple_iterator", data := .fields #[.ref l, .int 0 0] }).push
      { cls := .type "enumerate", data := .fields #[.none, .bool false, .ref s.heap.objs.size, rawInt 0, .none, .none] }) (s.heap.objs.size + 1) s.heap.objs.size 0 .none := by
    have := Heap.get?_push_size (s.heap.push { cls := .type "tuple_iterator", data := .fields #[.ref l, .int 0 0] })
      (o := { cls := .type "enumerate", data := .fields #[.none, .bool false, .ref s.heap.objs.size, rawInt 0, .none, .none] }) rfl
    rw [hz] at this; exact this
  refine ⟨⟨_, he, rfl⟩, h _ he ⟨_, Heap.get?_push_of_some _ (Heap.get?_push_size _ rfl), rfl, rfl⟩ (by rw [Heap.size_push, hz]) fun b o x => Heap.get?_push_of_some _ (Heap.get?_push_of_some _ x)⟩
end
def IteT (K : PySem.W.Frag) (a : Addr) : It :=
  ⟨fun i H => ∃ (xs : List V) (x : V), SqT K H a xs ∧ xs[i]? = some x, fun i H v H' => ∃ T x, v = .ref T ∧ H T = none ∧ H' = upd H T (.tup [.int (i : Nat), x]) ∧ ∀ xs, SqT K H a xs → xs[i]? = some x, fun i H => ∃ xs : List V, SqT K H a xs ∧ xs.length = i⟩
theorem turn_enumT {P : Program} {w : World} {K : PySem.W.Frag} {elts : List Expr} {kk : Nat} {tpos : Pos} (a e it : Addr) :
    Turn P w K (.Tuple elts kk tpos) (IteT K a) [e, it] e (fun i h => (∃ old, IsEnum h e it ((i : Nat) : Int) old) ∧ h.IsTupleIter it a i ∧ e ≠ it) where
  mem := by simp
  obj := fun i h st b hb => by
    obtain ⟨⟨old, he⟩, ⟨o, ho, hc, hd⟩, _⟩ := st
    have e' : b = e ∨ b = it := by simpa using hb
    rcases e' with z | z
    · rw [z]; exact ⟨_, he, fun v q => nomatch q⟩
    · rw [z]; exact ⟨o, ho, fun v q => by rw [hd] at q; cases q⟩
  keep := fun i h h' st k => let ⟨⟨old, he⟩, ⟨o, ho, r⟩, hne⟩ := st; ⟨⟨old, k e (by simp) _ he⟩, ⟨o, k it (by simp) o ho, r⟩, hne⟩
  item := by
    intro X hP hw hK hc i pins s σ H E I hf st hg
    subst hP hw hK
    obtain ⟨⟨old, he⟩, hit, hne⟩ := st
    obtain ⟨xs, x, hq, hx⟩ := hg
    obtain ⟨its, rv, p, hz⟩ := I.tuple hq
    obtain ⟨u, hu, ru⟩ := rv.get hx
    have p' : s.heap.IsTuple a its.toArray := p
    have hel : e < s.heap.objs.size := Heap.lt_size he
    have hil : it < s.heap.objs.size := by obtain ⟨_, q, _⟩ := hit; exact Heap.lt_size q
    have hai : a ≠ it := by
      rintro rfl
      obtain ⟨o1, q1, c1, _⟩ := p'
      obtain ⟨o2, q2, c2, _⟩ := hit
      rw [q1] at q2; cases q2; rw [c1] at c2; injection c2 with z; exact absurd z (by decide)
    have hea : e ≠ a := by
      rintro rfl
      obtain ⟨o1, q1, c1, _⟩ := p'
      rw [he] at q1; cases q1; injection c1 with z; exact absurd z (by decide)
    have hlt : i < its.toArray.size := by
      have := (List.getElem?_eq_some_iff.mp hu).1
      simpa using this
    refine wpAny_pyNext_enum_itemD (drawsTup (A := X.A.in1) (I.ok.hd hc) it a hai its.toArray) he ⟨hit, p'⟩ hlt hne (by simp [hne, hea]) fun u' h' tk hP ho hst' hT hsz hk => ?_
    have hit' := hst'.1
    have eu : u' = u := by
      have q : its.toArray[i]? = some u' := hP
      have q2 : its.toArray[i]? = some u := by simpa using hu
      rw [q2] at q; exact (Option.some.inj q).symm
    subst eu
    refine ⟨_, rfl, wpAny_letOwnedTupleGo_enum (s := { s with heap := h', toks := tk + 1 }) ho fun h'' he' sb => ?_⟩
    have hT2 : h''.get? s.heap.objs.size = some { cls := .type "tuple", data := .seq #[.int i tk, u'] } := (sb.2 _ (Nat.ne_of_gt hel)).trans hT
    have new : ObjOk X.prog X.w (upd H s.heap.objs.size (.tup [.int (i : Nat), x])) h'' s.heap.objs.size (.tup [.int (i : Nat), x]) :=
      ⟨by show 2 ≤ sizeLine; decide, [.int i tk, u'], .cons ⟨_, rfl⟩ (.cons ru .nil), ⟨_, hT2, rfl, rfl, _, rfl⟩⟩
    have I1 : Inv X pins σ (upd H s.heap.objs.size (.tup [.int (i : Nat), x])) { s with heap := h'', toks := tk + 1 } :=
      I.turnedNew (ch := [e, it]) (fun b ob hb q => (sb.2 b (fun z => hb (by simp [z]))).trans (hk b ob (fun z => hb (by simp [z])) (fun z => hb (by simp [z])) q)) hf (Nat.le_refl _) new
    refine ⟨.ref s.heap.objs.size, _, I1, rfl, ⟨_, x, rfl, I.hok.fresh (Nat.le_refl _), rfl, fun ys hy => by rw [I.tuple_inj hy hq]; exact hx⟩, ⟨⟨u', ?_⟩, ?_, hne⟩, fun b hb => ?_⟩
    · have e1 : ((i + 1 : Nat) : Int) = (i : Int) + 1 := by omega
      rw [e1]; exact he'
    · obtain ⟨o, ho, r⟩ := hit'
      exact ⟨o, (sb.2 it (Ne.symm hne)).trans ho, r⟩
    · have hb' : b < s.heap.objs.size := by
        have e' : b = e ∨ b = it := by simpa using hb
        rcases e' with z | z
        · rw [z]; exact hel
        · rw [z]; exact hil
      rw [upd_ne (Nat.ne_of_lt hb')]
      exact (hf b hb).1
  done := by
    intro X hP hw hK hc i pins s σ H E I hf st hg
    subst hP hw hK
    obtain ⟨⟨old, he⟩, hit, hne⟩ := st
    obtain ⟨xs, hq, hx⟩ := hg
    obtain ⟨its, rv, p, hz⟩ := I.tuple hq
    have p' : s.heap.IsTuple a its.toArray := p
    obtain ⟨f0, f1, f2, f3, f4, f5⟩ := hf it (by simp)
    have hl := rv.length
    have hai : a ≠ it := by
      rintro rfl
      obtain ⟨o1, q1, c1, _⟩ := p'
      obtain ⟨o2, q2, c2, _⟩ := hit
      rw [q1] at q2; cases q2; rw [c1] at c2; injection c2 with z; exact absurd z (by decide)
    have ei : i = its.toArray.size := by rw [List.size_toArray]; omega
    subst ei
    exact wpAny_pyNext_enum_endD (drawsTup (A := X.A.in1) (I.ok.hd hc) it a hai its.toArray) he ⟨hit, p'⟩ fun h' eb => ⟨rfl, I.turned (t' := s.toks) (fun b o hb q => eb b o hb q) f0 f1 f3 f4 f5⟩
  self := fun A i s Q E st h => let ⟨⟨_, he⟩, _⟩ := st; wpAny_pyIter_enum he h
def iEnumT (K : PySem.W.Frag) (ta : TA) : TI := fun σ H R => ta σ H fun vs H1 => ∃ a xs, vs = [.ref a] ∧ SqT K H1 a xs ∧ R (IteT K a) H1
theorem pi_enumT {X : Cx} {e : Expr} {ta : TA} {p pos tpos : Pos} {elts : List Expr} {kk : Nat} (hg : Gl X "enumerate") (hm : X.mg "enumerate" = none) (ha : PA X [e] ta) (hs : starEach [e] X.env = [(false, eval e X.env)] := by rfl) :
    PI X (.Tuple elts kk tpos) (.Call (.Name "enumerate" p) [e] [] pos) (iEnumT X.K ta) := by
  intro pins s σ H R I h
  refine Call_ (ld_blt I hg hm boot_enumerate (PyProof.Rows.callWith_type1 (thn (ha pos pins s σ H _ I h) fun us s1 ⟨vs, H1, I1, r1, q1⟩ => ?_) hs rfl))
  obtain ⟨a, xs, ex, hq, q⟩ := q1
  subst ex
  cases r1 with
  | cons r rr =>
    cases rr
    cases r
    obtain ⟨its, rv, p', hz⟩ := I1.tuple hq
    refine callEnumT (show s1.heap.IsTuple a its.toArray from p') fun h' he hit hsz hk => wpAny_pyIter_enum he ?_
    have I2 : Inv X pins σ H1 { s1 with heap := h' } := I1.kept (t' := s1.toks) hk
    refine ⟨s1.heap.objs.size + 1, [s1.heap.objs.size + 1, s1.heap.objs.size], _, _, H1, rfl, I2, turn_enumT a (s1.heap.objs.size + 1) s1.heap.objs.size, ⟨⟨.none, he⟩, hit, Nat.succ_ne_self _⟩, fun b hb => ?_, q⟩
    have e' : b = s1.heap.objs.size + 1 ∨ b = s1.heap.objs.size := by simpa using hb
    have hle : s1.heap.objs.size ≤ b := by
      rcases e' with z | z
      · rw [z]; exact Nat.le_add_right _ _
      · rw [z]; exact Nat.le_refl _
    exact I1.fpOk hle (I1.hok.fresh hle)
def rRepr (K : PySem.W.Frag) : List V → Hp → VK → Prop := fun vs H Q => ∃ a d, vs = [.ref a] ∧ Dp K H (.ref a) d ∧ d.showable = true ∧ d.hasDict = false ∧ d.depth ≤ 60 ∧ d.shown.length ≤ sizeLine ∧ Q (.str d.shown) H
theorem cr_repr {X : Cx} {k : Nat} (hr : Room k X.A) : CallR X (.builtin "repr") (rRepr X.K) := by
  intro pins s σ H vs us Q I r h
  obtain ⟨a, d, rfl, hd, hs, hnd, hdp, hz, q⟩ := h
  obtain ⟨u, rfl, ru⟩ := Vals.one r
  obtain ⟨as, rd⟩ := Dp.reads I d _ _ hd ru
  cases ru
  have hu := hr.un
  refine repr_of_reads' rd hs (fun z => by rw [hnd] at z; cases z) hr.gd (by omega) (fun _ _ e => e) (fun h' u tk hk => ?_) hz
  exact ⟨.str d.shown, H, I.kept hk, ⟨u, rfl⟩, q⟩
def rIsi (K : PySem.W.Frag) (T : String) (b : Bool) : List V → Hp → VK → Prop := fun vs H Q => ∃ x t, vs = [x, .ty T] ∧ TyOf K H x t ∧ PySem.W.kitOne K t (.type T) = some b ∧ Q (.bl b) H
theorem cr_isi {X : Cx} {T : String} {b : Bool} : CallR X (.builtin "isinstance") (rIsi X.K T b) := by
  intro pins s σ H vs us Q I r h
  obtain ⟨x, t, rfl, ty, e, q⟩ := h
  obtain ⟨u, v, rfl, ru, rv⟩ := Vals.two r
  cases (show v = Value.type T from rv)
  exact isinst_ok I ru ty e fun tk => ⟨.bl b, H, I.tok tk, rfl, q⟩
theorem ins_len {α : Type} (xs : List α) (y : α) (i : Nat) (h : i ≤ xs.length) : (xs.take i ++ y :: xs.drop i).length = xs.length + 1 := by
  rw [List.length_append, List.length_cons, List.length_take, List.length_drop]
  omega
def rInsert : V → List V → Hp → VK → Prop := fun x vs H Q => ∃ l xs i y, x = .ref l ∧ vs = [.int i, y] ∧ H l = some (.lst xs) ∧ 0 ≤ i ∧ i.toNat ≤ xs.length ∧ xs.length < 1000 ∧ Q .non (upd H l (.lst (xs.take i.toNat ++ y :: xs.drop i.toNat)))
theorem fits_small {i : Int} (h0 : 0 ≤ i) (h1 : i < 1000000) : ¬(!Builtin.List.listFitsIndex i) = true := by
  have : Builtin.List.listFitsIndex i = true := by
    unfold Builtin.List.listFitsIndex
    simp only [Bool.and_eq_true, decide_eq_true_eq]
    omega
  rw [this]; decide
theorem mt_insert {X : Cx} : MtM X "list.insert" rInsert := by
  intro pins s σ H x vs v us Q I rx rv h
  obtain ⟨l, xs, i, y, rfl, rfl, hH, h0, hi, hz, q⟩ := h
  cases rx
  obtain ⟨u0, u1, rfl, ru0, ru1⟩ := rv.two
  obtain ⟨t, rfl⟩ := ru0
  obtain ⟨z, its, n, r, hl, e⟩ := I.lstM hH
  have hsz : its.toArray.size ≤ sizeLine := by rw [List.size_toArray, ← hl]; exact z
  have hfit : ¬(!Builtin.List.listFitsIndex i) = true := fits_small h0 (by omega)
  refine call_meets F.slot_list_insert ⟨_, e, rfl⟩ F.entry_list_insert (F.args_list_insert_3 _ _ _) (PySem.AutoSeq1.list_insert_list_int_val_1 l its.toArray n i t u1 hfit hsz) ⟨e, ?_⟩
  refine ⟨.non, _, I.lset (its' := its.take i.toNat ++ u1 :: its.drop i.toNat) hH e ?_ ?_ ?_, rfl, q⟩
  · have hn : ¬ (i < 0) := by omega
    have hm : min i.toNat its.length = i.toNat := by omega
    simp only [if_neg hn, List.size_toArray, hm]
    apply Array.toList_inj.mp
    simp
    rw [List.take_of_length_le]
    rw [List.length_drop]
    exact Nat.le_refl _
  · exact (r.take i.toNat).append (.cons ru1 (r.drop i.toNat))
  · rw [ins_len xs y i.toNat hi]
    exact Nat.le_of_lt (small1000 (by omega))
end L2
set_option Elab.async false
set_option linter.all false
set_option maxRecDepth 100000
set_option maxHeartbeats 4000000
namespace L2
open PySem PySem.Spec PyProof.Rows
section
variable {X : Cx} {pins : List (Addr × Obj)} {σ : St} {H : Hp} {s : Shared} {a : Addr} {y v : V} {u r : Value} {A : Around} {E : Value → Shared → Prop}
end
section
variable {X : Cx}
def tDc (wi : TI) (g : TG) (tt : TT) (tk tv : TE) (vs : List Nat) : TE := fun σ H Q => wi σ H fun J H1 => ∀ D, H1 D = none → ∃ W : Nat → Nat → Hp → Prop, (∃ m, W 0 m (upd H1 D (.dT []))) ∧ ∀ i m H, W i m H →
  (J.stop i H ∧ Q (.ref D) H) ∨ (J.go i H ∧ ∃ Nx : Hp → Prop, (∀ H', Nx H' → ∃ m', m' < m ∧ W (i + 1) m' H') ∧ ∀ x H', J.yld i H x H' → g x (wipe σ vs) H' fun σ2 H2 => wipe σ2 vs = wipe σ vs ∧ tt σ2 H2 fun b H3 =>
    if b = true then tk σ2 H3 fun kx H4 => tv σ2 H4 fun y H5 => ∃ H6, DPut H5 D kx y H6 ∧ Nx H6 else Nx H3)
end
end L2
set_option Elab.async false
set_option linter.all false
set_option maxRecDepth 100000
set_option maxHeartbeats 4000000
namespace Far
open PySem L2
def But (f : Addr) (H H' : Hp) : Prop := ∀ b o, H b = some o → b ≠ f → H' b = some o
theorem But.trans {f : Addr} {H H1 H2 : Hp} (a : But f H H1) (b : But f H1 H2) : But f H H2 := fun c o h n => b c o (a c o h n) n
theorem But.refl (f : Addr) (H : Hp) : But f H H := fun _ _ h _ => h
theorem But.of {f : Addr} {H H' : Hp} (s : Same H H') : But f H H' := fun b o h _ => s b o h
theorem But.put (f : Addr) (H : Hp) (o : HO) : But f H (upd H f o) := fun b u h n => by rw [upd_ne n]; exact h
theorem same_new {H : Hp} {p : Addr} (h : H p = none) (o : HO) : Same H (upd H p o) := fun b u q => by rw [upd_ne (ne_of_none q h)]; exact q
theorem But.free {f : Addr} {H H' : Hp} (e : But f H H') {l : Addr} (n : l ≠ f) (h : H' l = none) : H l = none := by
  cases q : H l with
  | none => rfl
  | some o => rw [e l o q n] at h; cases h
def Two (H : Hp) (f : Addr) : Prop := ∃ a b : Int, H f = some (.lst [.int a, .int b])
theorem Two.same {H H' : Hp} {f : Addr} (s : Same H H') (t : Two H f) : Two H' f := let ⟨a, b, h⟩ := t; ⟨a, b, s _ _ h⟩
theorem Two.ne {H : Hp} {f p : Addr} (t : Two H f) (h : H p = none) : f ≠ p := let ⟨_, _, e⟩ := t; ne_of_none e h
def KT (K : PySem.W.Frag) (H H' : Hp) : Prop := ∀ b xs, SqT K H b xs → SqT K H' b xs
theorem KT.refl {K : PySem.W.Frag} (H : Hp) : KT K H H := fun _ _ h => h
theorem KT.trans {K : PySem.W.Frag} {H H1 H2 : Hp} (a : KT K H H1) (b : KT K H1 H2) : KT K H H2 := fun c xs h => b c xs (a c xs h)
theorem KT.same {K : PySem.W.Frag} {H H' : Hp} (s : Same H H') : KT K H H' := fun b xs h => by
  rcases h with (h | ⟨o, h⟩) | h
  · exact .inl (.inl (s _ _ h))
  · exact .inl (.inr ⟨o, s _ _ h⟩)
  · exact .inr h
theorem KT.but {K : PySem.W.Frag} {f : Addr} {H H' : Hp} {ys : List V} (s : But f H H') (hf : H f = some (.lst ys)) : KT K H H' := fun b xs h => by
  rcases h with (h | ⟨o, h⟩) | h
  · exact .inl (.inl (s _ _ h (by rintro rfl; rw [hf] at h; cases h)))
  · exact .inl (.inr ⟨o, s _ _ h (by rintro rfl; rw [hf] at h; cases h)⟩)
  · exact .inr h
theorem KT.two {K : PySem.W.Frag} {f : Addr} {H H' : Hp} (s : But f H H') (t : Two H f) : KT K H H' := let ⟨_, _, e⟩ := t; KT.but s e
theorem pget {α β : Type} {F : α → β → Prop} : ∀ {xs : List α} {ys : List β} {i : Nat} {y : β}, Paired F xs ys → ys[i]? = some y → ∃ x, xs[i]? = some x ∧ F x y
  | _, _, _, _, .nil, e => by simp at e
  | _, _, 0, _, .cons r _, e => by simp at e; subst e; exact ⟨_, rfl, r⟩
  | _, _, i + 1, y, .cons _ t, e => by
    obtain ⟨u, h1, h2⟩ := pget (i := i) (y := y) t (by simpa using e)
    exact ⟨u, by simpa using h1, h2⟩
theorem pgetL {α β : Type} {F : α → β → Prop} : ∀ {xs : List α} {ys : List β} {i : Nat} {x : α}, Paired F xs ys → xs[i]? = some x → ∃ y, ys[i]? = some y ∧ F x y
  | _, _, _, _, .nil, e => by simp at e
  | _, _, 0, _, .cons r _, e => by simp at e; subst e; exact ⟨_, rfl, r⟩
  | _, _, i + 1, y, .cons _ t, e => by
    obtain ⟨u, h1, h2⟩ := pgetL (i := i) (x := y) t (by simpa using e)
    exact ⟨u, by simpa using h1, h2⟩
theorem pset {α β : Type} {F : α → β → Prop} {x : α} {y : β} (r : F x y) : ∀ {xs : List α} {ys : List β} (i : Nat), Paired F xs ys → Paired F (xs.set i x) (ys.set i y)
  | _, _, _, .nil => .nil
  | _, _, 0, .cons _ t => .cons r t
  | _, _, i + 1, .cons q t => .cons q (pset r i t)
theorem papp {α β : Type} {F : α → β → Prop} : ∀ {xs xs' : List α} {ys ys' : List β}, Paired F xs ys → Paired F xs' ys' → Paired F (xs ++ xs') (ys ++ ys')
  | _, _, _, _, .nil, s => s
  | _, _, _, _, .cons r t, s => .cons r (papp t s)
theorem ptake {α β : Type} {F : α → β → Prop} : ∀ {xs : List α} {ys : List β} (n : Nat), Paired F xs ys → Paired F (xs.take n) (ys.take n)
  | _, _, 0, _ => .nil
  | _, _, _ + 1, .nil => .nil
  | _, _, n + 1, .cons r t => .cons r (ptake n t)
theorem pdrop {α β : Type} {F : α → β → Prop} : ∀ {xs : List α} {ys : List β} (n : Nat), Paired F xs ys → Paired F (xs.drop n) (ys.drop n)
  | _, _, 0, r => r
  | _, _, _ + 1, .nil => .nil
  | _, _, n + 1, .cons _ t => pdrop n t
theorem plen {α β : Type} {F : α → β → Prop} {xs : List α} {ys : List β} (r : Paired F xs ys) : xs.length = ys.length := Paired.length r
inductive Stp where
  | doo | wai | snd (k : Nat)
def stpV : Stp → List V
  | .doo => [.str "do"]
  | .wai => [.str "wait"]
  | .snd k => [.str "send", .int (k : Nat)]
abbrev Job := List (Int × List Stp)
def kid : Stp → Option Nat
  | .snd k => some k
  | _ => none
def kids (l : List Stp) : List Nat := l.filterMap kid
def IsStp (K : PySem.W.Frag) (H : Hp) (v : V) (s : Stp) : Prop := ∃ a, v = .ref a ∧ SqT K H a (stpV s)
def IsSts (K : PySem.W.Frag) (H : Hp) (v : V) (l : List Stp) : Prop := ∃ a xs, v = .ref a ∧ SqT K H a xs ∧ Paired (IsStp K H) xs l
def IsWk (K : PySem.W.Frag) (H : Hp) (v : V) (w : Int × List Stp) : Prop := ∃ a x, v = .ref a ∧ SqT K H a [.int w.1, x] ∧ IsSts K H x w.2
def IsJob (K : PySem.W.Frag) (H : Hp) (v : V) (J : Job) : Prop := ∃ a xs, v = .ref a ∧ SqT K H a xs ∧ Paired (IsWk K H) xs J
theorem IsStp.kt {K : PySem.W.Frag} {H H' : Hp} (k : KT K H H') {v : V} {s : Stp} (h : IsStp K H v s) : IsStp K H' v s := let ⟨a, e, q⟩ := h; ⟨a, e, k _ _ q⟩
theorem pstp {K : PySem.W.Frag} {H H' : Hp} (k : KT K H H') {xs : List V} {l : List Stp} (r : Paired (IsStp K H) xs l) : Paired (IsStp K H') xs l := Paired.mapP r fun _ _ h => IsStp.kt k h
theorem IsSts.kt {K : PySem.W.Frag} {H H' : Hp} (k : KT K H H') {v : V} {s : List Stp} (h : IsSts K H v s) : IsSts K H' v s := let ⟨a, xs, e, q, r⟩ := h; ⟨a, xs, e, k _ _ q, pstp k r⟩
theorem IsWk.kt {K : PySem.W.Frag} {H H' : Hp} (k : KT K H H') {v : V} {s : Int × List Stp} (h : IsWk K H v s) : IsWk K H' v s := let ⟨a, x, e, q, r⟩ := h; ⟨a, x, e, k _ _ q, r.kt k⟩
theorem pwk {K : PySem.W.Frag} {H H' : Hp} (k : KT K H H') {xs : List V} {l : Job} (r : Paired (IsWk K H) xs l) : Paired (IsWk K H') xs l := Paired.mapP r fun _ _ h => IsWk.kt k h
theorem IsJob.kt {K : PySem.W.Frag} {H H' : Hp} (k : KT K H H') {v : V} {J : Job} (h : IsJob K H v J) : IsJob K H' v J := let ⟨a, xs, e, q, r⟩ := h; ⟨a, xs, e, k _ _ q, pwk k r⟩
structure JobOk (most : Nat) (J : Job) : Prop where
  pos : 1 ≤ J.length
  len : J.length ≤ most
  room : ∀ w ∈ J, 1 ≤ w.1 ∧ w.1 ≤ 9
  sts : ∀ w ∈ J, 1 ≤ w.2.length ∧ w.2.length ≤ 8
  up : ∀ i w, J[i]? = some w → ∀ k ∈ kids w.2, i < k ∧ k < J.length
  once : (J.flatMap fun w => kids w.2).Perm (List.range' 1 (J.length - 1))
theorem at_int {α : Type} {xs : List α} {i : Int} (h0 : 0 ≤ i) (h1 : i < xs.length) : ∃ v, xs[i.toNat]? = some v ∧ atI xs i = some v := by
  have hk : i.toNat < xs.length := by omega
  refine ⟨xs[i.toNat], List.getElem?_eq_getElem hk, ?_⟩
  have := atI_nat (List.getElem?_eq_getElem hk)
  rwa [Int.toNat_of_nonneg h0] at this
theorem ix_int {n : Nat} {i : Int} (h0 : 0 ≤ i) (h1 : i < n) : ixN n i = some i.toNat := by
  unfold ixN; rw [if_pos h0, if_pos h1]
theorem swap_perm {α : Type} {xs : List α} {i j : Nat} {x y : α} (hx : xs[i]? = some x) (hy : xs[j]? = some y) : ((xs.set i y).set j x).Perm xs := by
  obtain ⟨hi, rfl⟩ := List.getElem?_eq_some_iff.mp hx
  obtain ⟨hj, rfl⟩ := List.getElem?_eq_some_iff.mp hy
  exact List.set_set_perm hi hj
theorem ins_perm {α : Type} (xs : List α) (y : α) (i : Nat) : (xs.take i ++ y :: xs.drop i).Perm (y :: xs) := by
  refine (List.perm_middle).trans ?_
  rw [List.take_append_drop]
end Far
set_option Elab.async false
set_option linter.all false
set_option maxRecDepth 100000
set_option maxHeartbeats 4000000
namespace Far
open PySem L2
def natV (k : Nat) : V := .int (k : Int)
structure MI (many i : Nat) (ch : List (List Nat)) : Prop where
  len : ch.length = many
  le8 : ∀ (j : Nat) (l : List Nat), ch[j]? = some l → l.length ≤ 8
  up : ∀ (j : Nat) (l : List Nat), ch[j]? = some l → ∀ k ∈ l, j < k ∧ k ≤ i
  fl : ch.flatten.Perm (List.range' 1 i)
theorem MI.start (many : Nat) : MI many 0 (List.replicate many []) where
  len := List.length_replicate
  le8 := fun j l h => by
    rw [List.getElem?_replicate] at h
    split at h
    · cases h; exact Nat.zero_le _
    · cases h
  up := fun j l h k hk => by
    rw [List.getElem?_replicate] at h
    split at h
    · cases h; cases hk
    · cases h
  fl := by
    have e : (List.replicate many ([] : List Nat)).flatten = [] := by
      induction many with
      | zero => rfl
      | succ n ih => rw [List.replicate_succ, List.flatten_cons, ih]; rfl
    rw [e]
    exact List.Perm.refl _
theorem flat_put {α : Type} {x : α} : ∀ {ch : List (List α)} {j : Nat} {l : List α}, ch[j]? = some l → (ch.set j (l ++ [x])).flatten.Perm (x :: ch.flatten)
  | [], _, _, h => by simp at h
  | a :: r, 0, l, h => by
    have e : a = l := by simpa using h
    subst e
    rw [List.set_cons_zero, List.flatten_cons, List.flatten_cons, List.append_assoc]
    exact List.perm_middle
  | a :: r, j + 1, l, h => by
    have ih := flat_put (x := x) (ch := r) (j := j) (l := l) (by simpa using h)
    rw [List.set_cons_succ, List.flatten_cons, List.flatten_cons]
    exact (ih.append_left a).trans List.perm_middle
theorem MI.put {many i j : Nat} {ch : List (List Nat)} {l : List Nat} (m : MI many i ch) (hj : ch[j]? = some l) (h8 : l.length < 8) (hji : j < i + 1) : MI many (i + 1) (ch.set j (l ++ [i + 1])) where
  len := by rw [List.length_set]; exact m.len
  le8 := fun a b h => by
    by_cases e : j = a
    · subst e
      rw [List.getElem?_set_self (List.getElem?_eq_some_iff.mp hj).1] at h
      cases h
      rw [List.length_append, List.length_singleton]; omega
    · rw [List.getElem?_set_ne e] at h
      exact m.le8 a b h
  up := fun a b h k hk => by
    by_cases e : j = a
    · subst e
      rw [List.getElem?_set_self (List.getElem?_eq_some_iff.mp hj).1] at h
      cases h
      rcases List.mem_append.mp hk with q | q
      · have := m.up j l hj k q; omega
      · have := List.mem_singleton.mp q; omega
    · rw [List.getElem?_set_ne e] at h
      have := m.up a b h k hk; omega
  fl := by
    refine (flat_put hj).trans ?_
    rw [List.range'_1_concat, Nat.add_comm 1 i]
    exact (m.fl.cons _).trans (List.perm_append_singleton _ _).symm
theorem many8 : ∀ (ch : List (List Nat)) (n : Nat), n ≤ ch.length → (∀ o, o < n → ∀ l, ch[o]? = some l → 8 ≤ l.length) → 8 * n ≤ ch.flatten.length
  | _, 0, _, _ => Nat.zero_le _
  | [], n + 1, h, _ => by simp at h
  | a :: r, n + 1, h, q => by
    have h1 := q 0 (Nat.succ_pos _) a rfl
    have h2 := many8 r n (by simpa using h) fun o ho l e => q (o + 1) (by omega) l (by simpa using e)
    rw [List.flatten_cons, List.length_append]
    omega
theorem MI.some8 {many i : Nat} {ch : List (List Nat)} (m : MI many i ch) (h : i < many) : ∃ o l, o < i + 1 ∧ ch[o]? = some l ∧ l.length < 8 := by
  apply Classical.byContradiction
  intro no
  have q := many8 ch (i + 1) (by rw [m.len]; omega) fun o ho l e => by
    apply Classical.byContradiction
    intro c
    exact no ⟨o, l, ho, e, by omega⟩
  have e := m.fl.length_eq
  rw [List.length_range'] at e
  omega
def KR (H0 H : Hp) (f a : Addr) (l : List Nat) : Prop := H a = some (.lst (l.map natV)) ∧ a ≠ f ∧ H0 a = none
structure Kids (H0 H : Hp) (f C : Addr) (cs : List Addr) (ch : List (List Nat)) : Prop where
  top : H C = some (.lst (cs.map V.ref))
  kid : Paired (KR H0 H f) cs ch
  nd : cs.Nodup
  nC : C ∉ cs
  fC : C ≠ f
  nw : H0 C = none
theorem Kids.but {H0 H H' : Hp} {f C : Addr} {cs : List Addr} {ch : List (List Nat)} (k : Kids H0 H f C cs ch) (b : But f H H') : Kids H0 H' f C cs ch :=
  ⟨b _ _ k.top k.fC, Paired.mapP k.kid fun a l h => ⟨b _ _ h.1 h.2.1, h.2⟩, k.nd, k.nC, k.fC, k.nw⟩
theorem kfar {H0 H : Hp} {f a0 : Addr} {o : HO} : ∀ {cs : List Addr} {ch : List (List Nat)}, a0 ∉ cs → Paired (KR H0 H f) cs ch → Paired (KR H0 (upd H a0 o) f) cs ch
  | _, _, _, .nil => .nil
  | _, _, h, .cons r t => .cons ⟨by rw [upd_ne fun e => h (by rw [e]; exact List.mem_cons_self)]; exact r.1, r.2⟩ (kfar (fun m => h (List.mem_cons_of_mem _ m)) t)
theorem kput {H0 H : Hp} {f a0 : Addr} {l' : List Nat} : ∀ {cs : List Addr} {ch : List (List Nat)} (j : Nat), cs.Nodup → cs[j]? = some a0 → Paired (KR H0 H f) cs ch → Paired (KR H0 (upd H a0 (.lst (l'.map natV))) f) cs (ch.set j l')
  | _, _, _, _, e, .nil => by simp at e
  | _, _, 0, nd, e, .cons r t => by
    have e' := Option.some.inj (show some _ = some a0 from e)
    subst e'
    exact .cons ⟨upd_same, r.2⟩ (kfar (List.nodup_cons.mp nd).1 t)
  | a :: _, _, j + 1, nd, e, .cons r t => by
    have hm : a0 ∈ _ := List.mem_of_getElem? (show _ = some a0 from (by simpa using e))
    have ne : a ≠ a0 := fun z => (List.nodup_cons.mp nd).1 (by rw [z]; exact hm)
    exact .cons ⟨by rw [upd_ne ne]; exact r.1, r.2⟩ (kput j (List.nodup_cons.mp nd).2 (by simpa using e) t)
theorem Kids.put {H0 H : Hp} {f C : Addr} {cs : List Addr} {ch : List (List Nat)} {j : Nat} {a0 : Addr} {l' : List Nat} (k : Kids H0 H f C cs ch) (hj : cs[j]? = some a0) : Kids H0 (upd H a0 (.lst (l'.map natV))) f C cs (ch.set j l') :=
  ⟨by rw [upd_ne fun e => k.nC (by rw [e]; exact List.mem_of_getElem? hj)]; exact k.top, kput j k.nd hj k.kid, k.nd, k.nC, k.fC, k.nw⟩
theorem Kids.get {H0 H : Hp} {f C : Addr} {cs : List Addr} {ch : List (List Nat)} {j : Nat} {l : List Nat} (k : Kids H0 H f C cs ch) (hj : ch[j]? = some l) : ∃ a, cs[j]? = some a ∧ KR H0 H f a l ∧ (cs.map V.ref)[j]? = some (.ref a) := by
  obtain ⟨a, e, r⟩ := pget k.kid hj
  exact ⟨a, e, r, by rw [List.getElem?_map, e]; rfl⟩
def WkOk (w : Int × List Stp) (l : List Nat) : Prop := (1 ≤ w.1 ∧ w.1 ≤ 9) ∧ (1 ≤ w.2.length ∧ w.2.length ≤ 8) ∧ (kids w.2).Perm l
theorem flat_job : ∀ {J : Job} {ch : List (List Nat)}, Paired WkOk J ch → (J.flatMap fun w => kids w.2).Perm ch.flatten
  | _, _, .nil => List.Perm.refl _
  | _, _, .cons r t => by
    rw [List.flatMap_cons, List.flatten_cons]
    exact r.2.2.append (flat_job t)
theorem mem_pair {α β : Type} {F : α → β → Prop} {xs : List α} {ys : List β} {x : α} (p : Paired F xs ys) (h : x ∈ xs) : ∃ y, F x y := by
  obtain ⟨i, hi⟩ := List.getElem?_of_mem h
  obtain ⟨y, _, r⟩ := pgetL p hi
  exact ⟨y, r⟩
theorem job_ok {J : Job} {ch : List (List Nat)} {many : Nat} {most : Nat} (p : Paired WkOk J ch) (m : MI many (many - 1) ch) (h1 : 1 ≤ many) (h2 : many ≤ most) : JobOk most J where
  pos := by rw [plen p, m.len]; exact h1
  len := by rw [plen p, m.len]; exact h2
  room := fun w hw => let ⟨_, r⟩ := mem_pair p hw; r.1
  sts := fun w hw => let ⟨_, r⟩ := mem_pair p hw; r.2.1
  up := fun i w hw k hk => by
    obtain ⟨l, hl, r⟩ := pgetL p hw
    have := m.up i l hl k (r.2.2.mem_iff.mp hk)
    rw [plen p, m.len]
    omega
  once := by
    rw [plen p, m.len]
    exact (flat_job p).trans m.fl
end Far
set_option Elab.async false
set_option linter.all false
set_option maxRecDepth 100000
set_option maxHeartbeats 4000000
namespace Far
open PySem L2
def inSends (i : Nat) : Nat → List Stp → List (Nat × Nat × Nat)
  | _, [] => []
  | n, s :: r => ((kid s).toList.map fun k => (i, n, k)) ++ inSends i (n + 1) r
def jobSends : Nat → Job → List (Nat × Nat × Nat)
  | _, [] => []
  | i, w :: r => inSends i 0 w.2 ++ jobSends (i + 1) r
theorem inSends_app (i : Nat) : ∀ (n : Nat) (a b : List Stp), inSends i n (a ++ b) = inSends i n a ++ inSends i (n + a.length) b
  | n, [], b => by rw [List.nil_append, List.length_nil, Nat.add_zero]; rfl
  | n, s :: r, b => by
    show _ ++ inSends i (n + 1) (r ++ b) = (_ ++ inSends i (n + 1) r) ++ _
    rw [inSends_app i (n + 1) r b, List.append_assoc, List.length_cons]
    have e : n + 1 + r.length = n + (r.length + 1) := by omega
    rw [e]
theorem jobSends_app : ∀ (n : Nat) (a b : Job), jobSends n (a ++ b) = jobSends n a ++ jobSends (n + a.length) b
  | n, [], b => by rw [List.nil_append, List.length_nil, Nat.add_zero]; rfl
  | n, s :: r, b => by
    show _ ++ jobSends (n + 1) (r ++ b) = (_ ++ jobSends (n + 1) r) ++ _
    rw [jobSends_app (n + 1) r b, List.append_assoc, List.length_cons]
    have e : n + 1 + r.length = n + (r.length + 1) := by omega
    rw [e]
theorem inSends_take {i j : Nat} {l : List Stp} {s : Stp} (h : l[j]? = some s) : inSends i 0 (l.take (j + 1)) = inSends i 0 (l.take j) ++ (kid s).toList.map fun k => (i, j, k) := by
  have hj := (List.getElem?_eq_some_iff.mp h).1
  rw [List.take_add_one, h, inSends_app, List.length_take, Nat.min_eq_left (by omega), Nat.zero_add]
  show _ ++ (_ ++ []) = _
  rw [List.append_nil]
theorem jobSends_take {i : Nat} {J : Job} {w : Int × List Stp} (h : J[i]? = some w) : jobSends 0 (J.take (i + 1)) = jobSends 0 (J.take i) ++ inSends i 0 w.2 := by
  have hj := (List.getElem?_eq_some_iff.mp h).1
  rw [List.take_add_one, h, jobSends_app, List.length_take, Nat.min_eq_left (by omega), Nat.zero_add]
  show _ ++ (_ ++ []) = _
  rw [List.append_nil]
theorem inSends_mem {i k : Nat} {t : Nat × Nat × Nat} : ∀ {n : Nat} {l : List Stp}, t ∈ inSends i n l → t.1 = i ∧ t.2.2 ∈ kids l
  | _, [], h => by cases h
  | n, s :: r, h => by
    rcases List.mem_append.mp h with q | q
    · cases e : kid s with
      | none => rw [e] at q; cases q
      | some k =>
        rw [e] at q
        have q' := List.mem_singleton.mp q
        subst q'
        refine ⟨rfl, ?_⟩
        unfold kids
        rw [List.filterMap_cons, e]
        exact List.mem_cons_self
    · obtain ⟨h1, h2⟩ := inSends_mem (k := k) q
      refine ⟨h1, ?_⟩
      unfold kids at h2 ⊢
      rw [List.filterMap_cons]
      cases e : kid s with
      | none => exact h2
      | some _ => exact List.mem_cons_of_mem _ h2
theorem jobSends_mem {t : Nat × Nat × Nat} : ∀ {n : Nat} {J : Job}, t ∈ jobSends n J → ∃ j w, J[j]? = some w ∧ t.1 = n + j ∧ t.2.2 ∈ kids w.2
  | _, [], h => by cases h
  | n, w :: r, h => by
    rcases List.mem_append.mp h with q | q
    · obtain ⟨h1, h2⟩ := inSends_mem (k := 0) q
      exact ⟨0, w, rfl, by omega, h2⟩
    · obtain ⟨j, w', h1, h2, h3⟩ := jobSends_mem q
      exact ⟨j + 1, w', by simpa using h1, by omega, h3⟩
theorem JobOk.sends {most : Nat} {J : Job} (o : JobOk most J) {t : Nat × Nat × Nat} (h : t ∈ jobSends 0 J) : t.1 < t.2.2 ∧ t.2.2 < J.length := by
  obtain ⟨j, w, h1, h2, h3⟩ := jobSends_mem h
  have := o.up j w h1 _ h3
  omega
theorem inSends_len (i : Nat) : ∀ (n : Nat) (l : List Stp), (inSends i n l).length ≤ l.length
  | _, [] => Nat.le_refl _
  | n, s :: r => by
    have ih := inSends_len i (n + 1) r
    show (_ ++ inSends i (n + 1) r).length ≤ _
    rw [List.length_append, List.length_map, List.length_cons]
    have : (kid s).toList.length ≤ 1 := by cases kid s <;> simp
    omega
theorem jobSends_len : ∀ (n : Nat) (J : Job), (∀ w ∈ J, w.2.length ≤ 8) → (jobSends n J).length ≤ 8 * J.length
  | _, [], _ => Nat.le_refl _
  | n, w :: r, h => by
    have ih := jobSends_len (n + 1) r fun w hw => h w (List.mem_cons_of_mem _ hw)
    have h1 := inSends_len n 0 w.2
    have h2 := h w List.mem_cons_self
    show (_ ++ jobSends (n + 1) r).length ≤ _
    rw [List.length_append, List.length_cons]
    omega
def putS (acc : List (Option (Nat × Nat))) (t : Nat × Nat × Nat) : List (Option (Nat × Nat)) := acc.set t.2.2 (some (t.1, t.2.1))
def putP (acc : List (Option Nat)) (t : Nat × Nat × Nat) : List (Option Nat) := acc.set t.2.2 (some t.1)
def senderL (J : Job) : List (Option (Nat × Nat)) := (jobSends 0 J).foldl putS (List.replicate J.length none)
def parL (J : Job) : List (Option Nat) := (jobSends 0 J).foldl putP (List.replicate J.length none)
theorem putS_fst (acc : List (Option (Nat × Nat))) (t : Nat × Nat × Nat) : (putS acc t).map (Option.map Prod.fst) = putP (acc.map (Option.map Prod.fst)) t := by
  unfold putS putP
  rw [List.map_set]
  rfl
theorem foldS_fst : ∀ (l : List (Nat × Nat × Nat)) (acc : List (Option (Nat × Nat))), (l.foldl putS acc).map (Option.map Prod.fst) = l.foldl putP (acc.map (Option.map Prod.fst))
  | [], _ => rfl
  | t :: r, acc => by rw [List.foldl_cons, List.foldl_cons, foldS_fst r, putS_fst]
theorem senderL_fst (J : Job) : (senderL J).map (Option.map Prod.fst) = parL J := by
  unfold senderL parL
  rw [foldS_fst, List.map_replicate]
  rfl
theorem foldS_len : ∀ (l : List (Nat × Nat × Nat)) (acc : List (Option (Nat × Nat))), (l.foldl putS acc).length = acc.length
  | [], _ => rfl
  | t :: r, acc => by rw [List.foldl_cons, foldS_len r]; exact List.length_set
theorem foldP_len : ∀ (l : List (Nat × Nat × Nat)) (acc : List (Option Nat)), (l.foldl putP acc).length = acc.length
  | [], _ => rfl
  | t :: r, acc => by rw [List.foldl_cons, foldP_len r]; exact List.length_set
theorem parL_len (J : Job) : (parL J).length = J.length := by unfold parL; rw [foldP_len, List.length_replicate]
theorem senderL_len (J : Job) : (senderL J).length = J.length := by unfold senderL; rw [foldS_len, List.length_replicate]
def Ups (par : List (Option Nat)) : Prop := ∀ (i j : Nat), par[i]? = some (some j) → j < i
theorem Ups.fold : ∀ (l : List (Nat × Nat × Nat)) (acc : List (Option Nat)), (∀ t ∈ l, t.1 < t.2.2) → Ups acc → Ups (l.foldl putP acc)
  | [], _, _, h => h
  | t :: r, acc, h, u => by
    rw [List.foldl_cons]
    refine Ups.fold r _ (fun t ht => h t (List.mem_cons_of_mem _ ht)) fun i j e => ?_
    unfold putP at e
    by_cases c : t.2.2 = i
    · subst c
      rw [List.getElem?_set] at e
      rw [if_pos rfl] at e
      split at e
      · cases e; exact h t List.mem_cons_self
      · cases e
    · rw [List.getElem?_set_ne c] at e
      exact u i j e
theorem JobOk.ups {most : Nat} {J : Job} (o : JobOk most J) : Ups (parL J) := by
  unfold parL
  refine Ups.fold _ _ (fun t ht => (o.sends ht).1) fun i j e => ?_
  rw [List.getElem?_replicate] at e
  split at e <;> cases e
def belIs (tops : List Nat) (acc : List Nat) (i : Nat) (o : Option Nat) : Bool := tops.contains i || (match o with | some j => acc.contains j | none => false)
def belStep (tops : List Nat) (acc : List Nat) (i : Nat) (o : Option Nat) : List Nat := if belIs tops acc i o = true then acc ++ [i] else acc
def bel (tops : List Nat) : Nat → List (Option Nat) → List Nat → List Nat
  | _, [], acc => acc
  | i, o :: r, acc => bel tops (i + 1) r (belStep tops acc i o)
def upOf (par : List (Option Nat)) : Option Nat → Option Nat
  | none => none
  | some j => (par[j]?).getD none
def climb (par : List (Option Nat)) (top : Nat) : Nat → Option Nat → Bool
  | 0, o => decide (o = some top)
  | n + 1, o => if o = some top then true else climb par top n (upOf par o)
def isBel (par : List (Option Nat)) (top i : Nat) : Bool := climb par top par.length (some i)
end Far
set_option Elab.async false
set_option linter.all false
set_option maxRecDepth 100000
set_option maxHeartbeats 4000000
namespace Far
open PySem L2
mutual
def smallD : PyData → Bool
  | .none => true
  | .bool _ => true
  | .int i => decide (0 ≤ i) && decide (i < 1000000)
  | .str _ => false
  | .list xs => smallAll xs
  | .tuple xs => smallAll xs
  | .dict _ => false
def smallAll : List PyData → Bool
  | [] => true
  | x :: xs => smallD x && smallAll xs
end
def optV : Option Nat → V
  | none => .non
  | some k => natV k
def optD : Option Nat → PyData
  | none => .none
  | some k => .int (k : Int)
end Far
set_option Elab.async false
set_option linter.all false
set_option maxRecDepth 100000
set_option maxHeartbeats 4000000
namespace Far
open PySem L2
def KU (H H' : Hp) : Prop := ∀ b xs, H b = some (.tup xs) → H' b = some (.tup xs)
theorem KU.refl (H : Hp) : KU H H := fun _ _ h => h
theorem KU.trans {H H1 H2 : Hp} (a : KU H H1) (b : KU H1 H2) : KU H H2 := fun c xs h => b c xs (a c xs h)
theorem KU.same {H H' : Hp} (s : Same H H') : KU H H' := fun b xs h => s _ _ h
theorem KU.put {H : Hp} {D : Addr} {u : HO} (h : H D = some u) (nt : ∀ xs, u ≠ .tup xs) (o : HO) : KU H (upd H D o) := fun b xs q => by rw [upd_ne (ne_of q h (nt xs).symm)]; exact q
theorem KU.updL {H : Hp} {D : Addr} {xs : List V} (h : H D = some (.lst xs)) (o : HO) : KU H (upd H D o) := KU.put h (fun _ z => nomatch z) o
theorem KU.new {H : Hp} {D : Addr} (h : H D = none) (o : HO) : KU H (upd H D o) := KU.same (same_new h o)
theorem KU.but {f : Addr} {H H' : Hp} {ys : List V} (s : But f H H') (hf : H f = some (.lst ys)) : KU H H' := fun b xs h => s _ _ h (by rintro rfl; rw [hf] at h; cases h)
theorem KU.two {f : Addr} {H H' : Hp} (s : But f H H') (t : Two H f) : KU H H' := let ⟨_, _, e⟩ := t; KU.but s e
def IsPr (K : PySem.W.Frag) (H : Hp) (v : V) (t : Nat × Nat) : Prop := ∃ b, v = .ref b ∧ H b = some (.tup [natV t.1, natV t.2])
theorem IsPr.kt {K : PySem.W.Frag} {H H' : Hp} (k : KU H H') {v : V} {t : Nat × Nat} (h : IsPr K H v t) : IsPr K H' v t := let ⟨a, e, q⟩ := h; ⟨a, e, k _ _ q⟩
theorem ppr {K : PySem.W.Frag} {H H' : Hp} (k : KU H H') {xs : List V} {l : List (Nat × Nat)} (r : Paired (IsPr K H) xs l) : Paired (IsPr K H') xs l := Paired.mapP r fun _ _ h => IsPr.kt k h
def leP (a b : Nat × Nat) : Prop := a.1 < b.1 ∨ (a.1 = b.1 ∧ a.2 ≤ b.2)
abbrev noT : Nat → Bool := fun _ => false
def keyP (h : Heap) (v : Value) : Nat × Nat := match PyProof.Rows.G.tupKeyC h noT v with
  | some [Sum.inl a, Sum.inl b] => (a.toNat, b.toNat)
  | _ => (0, 0)
def rSortedP (K : PySem.W.Frag) : List V → Hp → VK → Prop := fun vs H Q => ∃ (a : Addr) (xs : List V) (prs : List (Nat × Nat)), vs = [.ref a] ∧ SqL K H a xs ∧ Paired (IsPr K H) xs prs ∧
  ∀ (ys : List V) (qs : List (Nat × Nat)) (p : Addr), qs.Perm prs → qs.Pairwise leP → Paired (IsPr K H) ys qs → H p = none → Q (.ref p) (upd H p (.lst ys))
section
variable {X : Cx} {pins : List (Addr × Obj)} {σ : St} {H : Hp} {s : Shared}
def Lie (K : PySem.W.Frag) (H : Hp) (h : Heap) : Prop := ∀ (b : Addr) (t : Nat × Nat), H b = some (.tup [natV t.1, natV t.2]) → ∃ (o : Obj) (t1 t2 : Tok) (n : Nat), h.get? b = some o ∧ o.cls = .type "tuple" ∧ o.data = .seq #[.int (t.1 : Int) t1, .int (t.2 : Int) t2] n
abbrev Good (K : PySem.W.Frag) (H : Hp) : Value → Nat × Nat → Prop := fun v t => ∃ b, v = Value.ref b ∧ H b = some (.tup [natV t.1, natV t.2])
theorem Lie.keep {K : PySem.W.Frag} {H : Hp} {h h' : Heap} (l : Lie K H h) (k : ∀ b o, h.get? b = some o → h'.get? b = some o) : Lie K H h' := fun b t q =>
  let ⟨o, t1, t2, n, ho, r⟩ := l b t q; ⟨o, t1, t2, n, k _ _ ho, r⟩
end
section
variable {K : PySem.W.Frag} {H : Hp} {h : Heap}
theorem Lie.key (l : Lie K H h) {b : Addr} {t : Nat × Nat} (q : H b = some (.tup [natV t.1, natV t.2])) : PyProof.Rows.G.tupKeyC h noT (.ref b) = some [Sum.inl (t.1 : Int), Sum.inl (t.2 : Int)] := by
  obtain ⟨o, t1, t2, n, ho, hc, hd⟩ := l b t q
  have e1 : PyProof.Rows.G.isTupObj h (.ref b) = true := by
    simp only [PyProof.Rows.G.isTupObj, ho, hc]
    decide
  unfold PyProof.Rows.G.tupKeyC
  rw [if_pos e1]
  simp only [PyProof.Rows.tupKey, ho, hd]
  rfl
theorem Lie.keyP (l : Lie K H h) {b : Addr} {t : Nat × Nat} (q : H b = some (.tup [natV t.1, natV t.2])) : keyP h (.ref b) = t := by
  unfold Far.keyP
  rw [l.key q]
  rfl
theorem Lie.tups (l : Lie K H h) : ∀ {vs : List Value} {prs : List (Nat × Nat)}, Paired (Good K H) vs prs → ∃ fs, PyProof.Rows.TupsOf h noT vs fs
  | _, _, .nil => ⟨[], .nil⟩
  | _, _, .cons r t => by
    obtain ⟨fs, hf⟩ := l.tups t
    obtain ⟨b, rfl, hq⟩ := r
    obtain ⟨o, t1, t2, n, ho, hc, hd⟩ := l b _ hq
    exact ⟨_ :: fs, .cons ⟨b, o, _, n, rfl, ho, hc, hd, rfl, fun _ => ⟨_, _, rfl⟩, fun z => nomatch z⟩ hf⟩
theorem good_mem {its : List Value} {prs : List (Nat × Nat)} (good : Paired (Good K H) its prs) : ∀ v ∈ its, ∃ (b : Addr) (t : Nat × Nat), v = Value.ref b ∧ H b = some (.tup [natV t.1, natV t.2]) := fun v hv => by
  obtain ⟨i, hi⟩ := List.getElem?_of_mem hv
  obtain ⟨t, _, b, e, hq⟩ := pgetL good hi
  exact ⟨b, t, e, hq⟩
theorem Lie.keys (l : Lie K H h) {its : List Value} {prs : List (Nat × Nat)} (good : Paired (Good K H) its prs) : ∀ v, v ∈ its → ∃ k, PyProof.Rows.G.tupKeyC h noT v = some k := fun v hv => by
  obtain ⟨b, t, rfl, hq⟩ := good_mem good v hv
  exact ⟨_, l.key hq⟩
end
section
variable {X : Cx}
end
section
variable {P : Program} {w : World} {H : Hp} {h h' : Heap} {a : Addr} {o : HO}
end
section
variable {prog : Program} {w : World} {A : Around} {E : Value → Shared → Prop} {s : Shared} {d : Addr} {o : Obj} {es : Array DictEntry} {ep : Nat}
end
def keyPr (t : Nat × Nat) : List Key := [Sum.inl (t.1 : Int), Sum.inl (t.2 : Int)]
def rSortedD : List V → Hp → VK → Prop := fun vs H Q => ∃ (a : Addr) (kvs : List ((Nat × Nat) × V)), vs = [.ref a] ∧ H a = some (.dT (kvs.map fun kv => (keyPr kv.1, kv.2))) ∧
  ∀ (K : PySem.W.Frag) (ys : List V) (qs : List (Nat × Nat)) (p : Addr), qs.Perm (kvs.map (·.1)) → qs.Pairwise leP → Paired (IsPr K H) ys qs → H p = none → Q (.ref p) (upd H p (.lst ys))
section
variable {X : Cx}
end
end Far
set_option Elab.async false
set_option linter.all false
set_option maxRecDepth 100000
set_option maxHeartbeats 4000000
namespace L2
open PySem PySem.Spec PyProof.Rows
section
variable {prog : Program} {w : World} {h h' : Heap} {k : List Key} {a b d : Addr} {xs : List (List Key × Addr × Value)}
end
section
variable {prog : Program} {w : World} {A : Around} {E : Value → Shared → Prop}
end
end L2
namespace Far
open PySem L2
open PySem.AutoSeq1 (wpAny_loadPart')
def idxF (items : Array Value) (x : Value) (i : Nat) (_b : Option PySem.Fin × Unit) : Sem (ForInStep (Option PySem.Fin × Unit)) :=
  match items[i]? with
  | some y => do
    let b ← eqBool y x
    if b = true then do
      let r ← retInt (i : Int)
      pure (ForInStep.done (some r, ()))
    else pure (ForInStep.yield (none, ()))
  | _ => pure (ForInStep.yield (none, ()))
def rTIndex (K : PySem.W.Frag) : V → List V → Hp → VK → Prop := fun x xs H Q => ∃ (a : Addr) (vs : List V) (ds : List PyData) (y : V) (d : PyData) (j : Nat) (dj : PyData), x = V.ref a ∧ xs = [y] ∧ SqT K H a vs ∧ DpAll K H vs ds ∧ Dp K H y d ∧ PyData.canLayAll0 ds = true ∧ SeqAt.shaped d = true ∧
  ds[j]? = some dj ∧ PyData.eqv dj d = true ∧ (∀ (m : Nat) (dm : PyData), m < j → ds[m]? = some dm → PyData.eqv dm d = false) ∧ Q (.int (j : Nat)) H
section
variable {X : Cx}
def rDictPT (K : PySem.W.Frag) : List V → Hp → VK → Prop := fun vs H Q => ∃ (a : Addr) (ps : List Addr) (kvs : List (List Key × V)), vs = [.ref a] ∧ SqL K H a (ps.map V.ref) ∧
  Paired (fun p kv => ∃ b, SqT K H p [.ref b, kv.2] ∧ H b = some (.tup (kv.1.map kV))) ps kvs ∧ ∀ p, H p = none → Q (.ref p) (upd H p (.dT (kvs.foldl (fun acc kv => putK acc kv.1 kv.2) [])))
def rNotInD (K : PySem.W.Frag) : R2 := fun x y H Q => ∃ d ds p, Dp K H x d ∧ y = .ref p ∧ Dp K H (.ref p) (.list ds) ∧ SeqAt.shaped d = true ∧ PyData.canLayAll0 ds = true ∧ Q (.bl (!ds.any fun e => PyData.eqv e d)) H
end
end Far
set_option Elab.async false
set_option linter.all false
set_option maxRecDepth 100000
set_option maxHeartbeats 4000000
namespace Far
open PySem L2
def allS : Nat → Job → List (Nat × Nat)
  | _, [] => []
  | n, w :: r => ((List.range w.2.length).map fun k => (n, k)) ++ allS (n + 1) r
theorem allS_mem {t : Nat × Nat} : ∀ {n : Nat} {J : Job}, t ∈ allS n J ↔ ∃ j w, J[j]? = some w ∧ t.1 = n + j ∧ t.2 < w.2.length
  | n, [] => by
    constructor
    · intro h; cases h
    · rintro ⟨j, w, h, _⟩; simp at h
  | n, w :: r => by
    show t ∈ _ ++ allS (n + 1) r ↔ _
    rw [List.mem_append, allS_mem (n := n + 1) (J := r)]
    constructor
    · rintro (h | ⟨j, w', h1, h2, h3⟩)
      · obtain ⟨k, hk, rfl⟩ := List.mem_map.mp h
        exact ⟨0, w, rfl, rfl, List.mem_range.mp hk⟩
      · exact ⟨j + 1, w', by simpa using h1, by omega, h3⟩
    · rintro ⟨j, w', h1, h2, h3⟩
      cases j with
      | zero =>
        have e : w = w' := by simpa using h1
        subst e
        left
        exact List.mem_map.mpr ⟨t.2, List.mem_range.mpr h3, Prod.ext (by simpa using h2.symm) rfl⟩
      | succ j => exact .inr ⟨j, w', by simpa using h1, by omega, h3⟩
theorem allS_len : ∀ (n : Nat) (J : Job), (∀ w ∈ J, w.2.length ≤ 8) → (allS n J).length ≤ 8 * J.length
  | _, [], _ => Nat.le_refl _
  | n, w :: r, h => by
    have ih := allS_len (n + 1) r fun w hw => h w (List.mem_cons_of_mem _ hw)
    have h2 := h w List.mem_cons_self
    show (_ ++ allS (n + 1) r).length ≤ _
    rw [List.length_append, List.length_map, List.length_range, List.length_cons]
    omega
def Stp2 (J : Job) (t : Nat × Nat) : Prop := ∃ w, J[t.1]? = some w ∧ t.2 < w.2.length
theorem stp2_iff {J : Job} {t : Nat × Nat} : t ∈ allS 0 J ↔ Stp2 J t := by
  rw [allS_mem]
  constructor
  · rintro ⟨j, w, h1, h2, h3⟩
    have e : j = t.1 := by omega
    subst e
    exact ⟨w, h1, h3⟩
  · rintro ⟨w, h1, h2⟩
    exact ⟨t.1, w, h1, by omega, h2⟩
def anyBel (par : List (Option Nat)) (tops : List Nat) (o : Nat) : Bool := tops.any fun t => isBel par t o
def lastN (J : Job) (o : Nat) : Nat := ((J[o]?).map fun w => w.2.length - 1).getD 0
def stepAt (J : Job) (w n : Nat) : Option Stp := (J[w]?).bind fun x => x.2[n]?
def stsOf (J : Job) (w : Nat) : List Stp := ((J[w]?).map (·.2)).getD []
def isWait : Option Stp → Bool
  | some .wai => true
  | _ => false
def headH (J : Job) (w n : Nat) : List (Nat × Nat) := if n > 0 then [(w, n - 1)] else if w > 0 then (((senderL J)[w]?).getD none).toList else []
def tailH (J : Job) (w n : Nat) : List (Nat × Nat) := if isWait (stepAt J w n) = true then ((List.range J.length).filter (anyBel (parL J) (kids ((stsOf J w).take n)))).map fun o => (o, lastN J o) else []
def hangsU (J : Job) (t : Nat × Nat) : List (Nat × Nat) := headH J t.1 t.2 ++ tailH J t.1 t.2
def leB (a b : Nat × Nat) : Bool := decide (a.1 < b.1) || (decide (a.1 = b.1) && decide (a.2 ≤ b.2))
def hs (J : Job) (t : Nat × Nat) : List (Nat × Nat) := (hangsU J t).mergeSort leB
theorem hs_perm (J : Job) (t : Nat × Nat) : (hs J t).Perm (hangsU J t) := List.mergeSort_perm _ _
theorem inSends_iff {i k m : Nat} : ∀ {n : Nat} {l : List Stp}, (i, n + m, k) ∈ inSends i n l ↔ l[m]? = some (.snd k)
  | n, [] => by
    constructor
    · intro h; cases h
    · intro h; simp at h
  | n, s :: r => by
    show (i, n + m, k) ∈ _ ++ inSends i (n + 1) r ↔ _
    rw [List.mem_append]
    cases m with
    | zero =>
      constructor
      · rintro (h | h)
        · cases s with
          | doo => cases h
          | wai => cases h
          | snd j =>
            have := List.mem_singleton.mp h
            injection this with _ this
            injection this with _ this
            subst this
            rfl
        · exfalso
          have : ∀ {n' : Nat} {l : List Stp} {t : Nat × Nat × Nat}, t ∈ inSends i n' l → n' ≤ t.2.1 := by
            intro n' l
            induction l generalizing n' with
            | nil => intro t h; cases h
            | cons s r ih =>
              intro t h
              rcases List.mem_append.mp h with q | q
              · obtain ⟨k', _, rfl⟩ := List.mem_map.mp q
                exact Nat.le_refl _
              · have := ih q
                omega
          have : n + 1 ≤ n + 0 := this h
          omega
      · intro h
        have e : s = .snd k := by simpa using h
        subst e
        left
        exact List.mem_singleton.mpr rfl
    | succ m =>
      have e : n + (m + 1) = (n + 1) + m := by omega
      rw [e, inSends_iff (n := n + 1) (l := r)]
      constructor
      · rintro (h | h)
        · exfalso
          obtain ⟨k', _, q⟩ := List.mem_map.mp h
          injection q with _ q
          injection q with q _
          omega
        · simpa using h
      · intro h
        right
        simpa using h
theorem jobSends_iff {i m k : Nat} : ∀ {n : Nat} {J : Job}, (n + i, m, k) ∈ jobSends n J ↔ ∃ w, J[i]? = some w ∧ w.2[m]? = some (.snd k)
  | n, [] => by
    constructor
    · intro h; cases h
    · rintro ⟨w, h, _⟩; simp at h
  | n, w :: r => by
    show (n + i, m, k) ∈ inSends n 0 w.2 ++ jobSends (n + 1) r ↔ _
    rw [List.mem_append]
    cases i with
    | zero =>
      rw [Nat.add_zero]
      have h0 := inSends_iff (i := n) (k := k) (m := m) (n := 0) (l := w.2)
      rw [Nat.zero_add] at h0
      rw [h0]
      constructor
      · rintro (h | h)
        · exact ⟨w, rfl, h⟩
        · exfalso
          obtain ⟨j, w', _, h2, _⟩ := jobSends_mem h
          have : n = n + 1 + j := h2
          omega
      · rintro ⟨w', h1, h2⟩
        have e : w = w' := by simpa using h1
        subst e
        exact .inl h2
    | succ i =>
      have e : n + (i + 1) = (n + 1) + i := by omega
      rw [e, jobSends_iff (n := n + 1) (J := r)]
      constructor
      · rintro (h | ⟨w', h1, h2⟩)
        · exfalso
          have := (inSends_mem (k := 0) h).1
          have : n + 1 + i = n := this
          omega
        · exact ⟨w', by simpa using h1, h2⟩
      · rintro ⟨w', h1, h2⟩
        exact .inr ⟨w', by simpa using h1, h2⟩
theorem sends_kids : ∀ (n : Nat) (J : Job), (jobSends n J).map (fun t => t.2.2) = J.flatMap fun w => kids w.2
  | _, [] => rfl
  | n, w :: r => by
    have hin : ∀ (i m : Nat) (l : List Stp), (inSends i m l).map (fun t => t.2.2) = kids l := by
      intro i m l
      induction l generalizing m with
      | nil => rfl
      | cons s r ih =>
        show (_ ++ inSends i (m + 1) r).map _ = _
        rw [List.map_append, ih]
        unfold kids
        rw [List.filterMap_cons]
        cases kid s <;> rfl
    show (_ ++ jobSends (n + 1) r).map _ = _
    rw [List.map_append, sends_kids (n + 1) r, List.flatMap_cons, hin]
theorem JobOk.kidsNd {most : Nat} {J : Job} (o : JobOk most J) : ((jobSends 0 J).map (fun t => t.2.2)).Nodup := by
  rw [sends_kids]
  exact o.once.nodup_iff.mpr List.nodup_range'
theorem JobOk.sent {most : Nat} {J : Job} (o : JobOk most J) {w : Nat} (h0 : 0 < w) (h1 : w < J.length) : ∃ i m, (i, m, w) ∈ jobSends 0 J := by
  have : w ∈ (jobSends 0 J).map (fun t => t.2.2) := by
    rw [sends_kids, o.once.mem_iff, List.mem_range'_1]
    omega
  obtain ⟨⟨i, m, k⟩, h, rfl⟩ := List.mem_map.mp this
  exact ⟨i, m, h⟩
theorem JobOk.oneSend {most : Nat} {J : Job} (o : JobOk most J) {t u : Nat × Nat × Nat} (ht : t ∈ jobSends 0 J) (hu : u ∈ jobSends 0 J) (e : t.2.2 = u.2.2) : t = u := by
  have nd := o.kidsNd
  obtain ⟨i, hi⟩ := List.getElem?_of_mem ht
  obtain ⟨j, hj⟩ := List.getElem?_of_mem hu
  have h1 : ((jobSends 0 J).map (fun t => t.2.2))[i]? = some t.2.2 := by rw [List.getElem?_map, hi]; rfl
  have h2 : ((jobSends 0 J).map (fun t => t.2.2))[j]? = some t.2.2 := by rw [List.getElem?_map, hj, e]; rfl
  have := nd_ix nd h1 h2
  subst this
  rw [hi] at hj
  exact Option.some.inj hj
theorem foldS_get : ∀ (l : List (Nat × Nat × Nat)) (acc : List (Option (Nat × Nat))) (k : Nat) (t : Nat × Nat × Nat), (∀ u ∈ l, u.2.2 = k → u = t) → t ∈ l → t.2.2 = k → k < acc.length → (l.foldl putS acc)[k]? = some (some (t.1, t.2.1))
  | [], _, _, _, _, h, _, _ => by cases h
  | u :: r, acc, k, t, hu, ht, hk, hl => by
    rw [List.foldl_cons]
    by_cases hr : t ∈ r
    · exact foldS_get r (putS acc u) k t (fun v hv => hu v (List.mem_cons_of_mem _ hv)) hr hk (by unfold putS; rw [List.length_set]; exact hl)
    · have e : t = u := by
        rcases List.mem_cons.mp ht with z | z
        · exact z
        · exact absurd z hr
      subst e
      have keep : ∀ (l : List (Nat × Nat × Nat)) (acc : List (Option (Nat × Nat))), (∀ v ∈ l, v.2.2 ≠ k) → (l.foldl putS acc)[k]? = acc[k]? := by
        intro l
        induction l with
        | nil => intro acc _; rfl
        | cons v r ih =>
          intro acc h
          rw [List.foldl_cons, ih _ fun v' hv' => h v' (List.mem_cons_of_mem _ hv')]
          unfold putS
          rw [List.getElem?_set_ne (h v List.mem_cons_self)]
      rw [keep r _ fun v hv e => hr (by rw [← hu v (List.mem_cons_of_mem _ hv) e]; exact hv)]
      unfold putS
      rw [hk, List.getElem?_set_self hl]
theorem JobOk.sender {most : Nat} {J : Job} (o : JobOk most J) {i m w : Nat} (h : (i, m, w) ∈ jobSends 0 J) : (senderL J)[w]? = some (some (i, m)) := by
  unfold senderL
  exact foldS_get _ _ w (i, m, w) (fun u hu e => o.oneSend hu h e) h rfl (by rw [List.length_replicate]; exact (o.sends h).2)
theorem JobOk.parent {most : Nat} {J : Job} (o : JobOk most J) {i m w : Nat} (h : (i, m, w) ∈ jobSends 0 J) : (parL J)[w]? = some (some i) := by
  rw [← senderL_fst, List.getElem?_map, o.sender h]
  rfl
theorem JobOk.hangs_steps {most : Nat} {J : Job} (o : JobOk most J) {t u : Nat × Nat} (ht : Stp2 J t) (hu : u ∈ hangsU J t) : Stp2 J u := by
  obtain ⟨w, hw, hn⟩ := ht
  rcases List.mem_append.mp hu with h | h
  · unfold headH at h
    by_cases c : t.2 > 0
    · rw [if_pos c] at h
      have := List.mem_singleton.mp h
      subst this
      exact ⟨w, hw, by show t.2 - 1 < _; omega⟩
    · rw [if_neg c] at h
      by_cases c2 : t.1 > 0
      · rw [if_pos c2] at h
        obtain ⟨i, m, hs⟩ := o.sent c2 (List.getElem?_eq_some_iff.mp hw).1
        rw [o.sender hs] at h
        have := List.mem_singleton.mp (show u ∈ [(i, m)] from h)
        subst this
        have := (jobSends_iff (n := 0) (i := i) (m := m) (k := t.1)).mp (by rw [Nat.zero_add]; exact hs)
        obtain ⟨w', h1, h2⟩ := this
        exact ⟨w', h1, (List.getElem?_eq_some_iff.mp h2).1⟩
      · rw [if_neg c2] at h; cases h
  · unfold tailH at h
    split at h
    · obtain ⟨x, hx, rfl⟩ := List.mem_map.mp h
      have hx' := List.mem_range.mp (List.mem_filter.mp hx).1
      obtain ⟨wx, hwx⟩ : ∃ wx, J[x]? = some wx := ⟨_, List.getElem?_eq_getElem hx'⟩
      refine ⟨wx, hwx, ?_⟩
      have := (o.sts wx (List.mem_of_getElem? hwx)).1
      show lastN J x < _
      unfold lastN
      rw [hwx]
      show wx.2.length - 1 < _
      omega
    · cases h
inductive Reach (J : Job) (t : Nat × Nat) : Nat × Nat → Prop
  | one {u : Nat × Nat} : u ∈ hs J t → Reach J t u
  | more {u v : Nat × Nat} : Reach J t u → v ∈ hs J u → Reach J t v
theorem hs_steps {most : Nat} {J : Job} (o : JobOk most J) {t u : Nat × Nat} (ht : Stp2 J t) (hu : u ∈ hs J t) : Stp2 J u := o.hangs_steps ht ((hs_perm J t).mem_iff.mp hu)
theorem Reach.step {most : Nat} {J : Job} (o : JobOk most J) {t u : Nat × Nat} (ht : Stp2 J t) (r : Reach J t u) : Stp2 J u := by
  induction r with
  | one h => exact hs_steps o ht h
  | more _ h ih => exact hs_steps o ih h
end Far
set_option Elab.async false
set_option linter.all false
set_option maxRecDepth 100000
set_option maxHeartbeats 4000000
namespace Far
open PySem L2
theorem hu66 {A : Around} {k : Nat} (hr : Room k A) : A.units + 66 < cLine := by
  have := hr.un
  omega
def prD (t : Nat × Nat) : PyData := .tuple [.int (t.1 : Int), .int (t.2 : Int)]
def stpD : Stp → PyData
  | .doo => .tuple [.str "do"]
  | .wai => .tuple [.str "wait"]
  | .snd k => .tuple [.str "send", .int (k : Int)]
end Far
set_option Elab.async false
set_option linter.all false
set_option maxRecDepth 100000
set_option maxHeartbeats 4000000
namespace Far
open PySem L2
def stp1 (rec : Nat → Nat → Nat) (a : Nat × Nat) (s : Stp) : Nat × Nat :=
  ((if isWait (some s) = true then max a.1 a.2 else a.1) + 1, match kid s with | some c => max a.2 (rec c ((if isWait (some s) = true then max a.1 a.2 else a.1) + 1)) | none => a.2)
def runW (rec : Nat → Nat → Nat) (l : List Stp) (b : Nat) : Nat × Nat := l.foldl (stp1 rec) (b, b)
def endF (J : Job) : Nat → Nat → Nat → Nat
  | 0, _, b => b
  | k + 1, w, b => max (runW (endF J k) (stsOf J w) b).1 (runW (endF J k) (stsOf J w) b).2
theorem sts_of {J : Job} {i : Nat} {w : Int × List Stp} (h : J[i]? = some w) : stsOf J i = w.2 := by unfold stsOf; rw [h]; rfl
theorem last_of {J : Job} {i : Nat} {w : Int × List Stp} (h : J[i]? = some w) : lastN J i = w.2.length - 1 := by unfold lastN; rw [h]; rfl
theorem send_of {J : Job} {i m c : Nat} (h : (stsOf J i)[m]? = some (.snd c)) : (i, m, c) ∈ jobSends 0 J := by
  cases e : J[i]? with
  | none => unfold stsOf at h; rw [e] at h; simp at h
  | some w =>
    rw [sts_of e] at h
    have := (jobSends_iff (n := 0) (i := i) (m := m) (k := c) (J := J)).mpr ⟨w, e, h⟩
    rw [Nat.zero_add] at this
    exact this
def gw (J : Job) (w b : Nat) : Nat := endF J J.length w b
def stt (J : Job) : Nat → Nat → Nat
  | 0, _ => 0
  | k + 1, w => if w = 0 then 0 else match ((senderL J)[w]?).getD none with
    | some t => (runW (gw J) ((stsOf J t.1).take (t.2 + 1)) (stt J k t.1)).1
    | none => 0
def bg (J : Job) (w : Nat) : Nat := stt J (w + 1) w
def nowN (J : Job) (w n : Nat) : Nat := (runW (gw J) ((stsOf J w).take n) (bg J w)).1
def mxN (J : Job) (w n : Nat) : Nat := (runW (gw J) ((stsOf J w).take n) (bg J w)).2
def tm (J : Job) (t : Nat × Nat) : Nat := nowN J t.1 (t.2 + 1)
def ew (J : Job) (c : Nat) : Nat := gw J c (bg J c)
theorem sts_len {most : Nat} {J : Job} (o : JobOk most J) {c : Nat} (h : c < J.length) : (stsOf J c).length = lastN J c + 1 := by
  obtain ⟨w, hw⟩ : ∃ w, J[c]? = some w := ⟨_, List.getElem?_eq_getElem h⟩
  rw [sts_of hw, last_of hw]
  have := (o.sts w (List.mem_of_getElem? hw)).1
  omega
end Far
set_option Elab.async false
set_option linter.all false
set_option maxRecDepth 100000
set_option maxHeartbeats 4000000
namespace Far
open PySem
section
variable {prog : Program} {w : World} {A : Around} {R : Result → Shared → Prop} {it : Addr} {fp wr : List Addr} {n : Nat} {P : Nat → Value → Prop} {St : Nat → Heap → Prop} {kw : List (Str × Value)}
end
end Far
namespace L2
open PySem PySem.Spec PyProof.Rows
section
variable {prog : Program} {w : World} {A : Around} {E : Value → Shared → Prop} {s : Shared} {l : Addr} {its : List Value} {ns : List Int} {d : Value} {Q : Value → Shared → Prop}
end
def CallKR (X : Cx) (f : Value) (ks : List Str) (r : List V → List V → Hp → VK → Prop) : Prop :=
  ∀ (pins : List (Addr × Obj)) (s : Shared) (σ : St) (H : Hp) (xs zs : List V) (us ws : List Value) (Q : VK), Inv X pins σ H s → Vals xs us → Vals zs ws → r xs zs H Q → wpAny (model X.prog X.w) X.A (call f us (ks.zip ws)) (EP X pins σ Q) X.xe s
def tCBK (r : List V → List V → Hp → VK → Prop) (t tk : TA) : TE := fun σ H Q => t σ H fun vs H1 => tk σ H1 fun zs H2 => r vs zs H2 Q
section
variable {X : Cx} {x : Str} {p pos : Pos} {e : Expr} {es : List Expr} {kws : List Keyword} {t tk : TA} {id : String} {ks : List Str} {r : List V → List V → Hp → VK → Prop}
def rMaxD (K : PySem.W.Frag) : List V → List V → Hp → VK → Prop := fun vs zs H Q => ∃ (a : Addr) (ns : List Int) (d : V), vs = [V.ref a] ∧ zs = [d] ∧ SqL K H a (ns.map V.int) ∧ (ns = [] → Q d H) ∧ ∀ m, m ∈ ns → (∀ y, y ∈ ns → y ≤ m) → Q (.int m) H
end
end L2
set_option Elab.async false
set_option linter.all false
set_option maxRecDepth 100000
set_option maxHeartbeats 4000000
namespace Far
open PySem
section
variable {prog : Program} {w : World} {A : Around} {E : Value → Shared → Prop} {t : Shared}
def RawD (hp : Heap) (d : Addr) (ents : Array DictEntry) (ep : Nat) : Prop := ∃ o, hp.get? d = some o ∧ o.ExactDict ∧ o.data = .dict ents ep
theorem RawD.at {hp hp' : Heap} {d : Addr} {ents : Array DictEntry} {ep : Nat} (x : RawD hp d ents ep) (k : ∀ o, hp.get? d = some o → hp'.get? d = some o) : RawD hp' d ents ep :=
  let ⟨o, e, r⟩ := x; ⟨o, k o e, r⟩
end
end Far
namespace L2
open PySem PySem.Spec PyProof.Rows
def ViewO (v d : Addr) : HO := .ext fun h => h.IsValuesView v d
def tDVals (td : TE) : TE := fun σ H Q => td σ H fun x H1 => ∃ d kvs, x = .ref d ∧ H1 d = some (.dT kvs) ∧ ∀ v, H1 v = none → Q (.ref v) (upd H1 v (ViewO v d))
section
variable {X : Cx} {e : Expr} {td : TE} {apos cpos : Pos}
def rMaxV : List V → Hp → VK → Prop := fun vs H Q => ∃ (v d : Addr) (kvs : List (List Key × V)) (ns : List Int), vs = [V.ref v] ∧ H v = some (ViewO v d) ∧ H d = some (.dT kvs) ∧ kvs.map (·.2) = ns.map V.int ∧ 0 < ns.length ∧ ∀ m, m ∈ ns → (∀ y, y ∈ ns → y ≤ m) → Q (.int m) H
end
end L2
set_option Elab.async false
set_option linter.all false
set_option maxRecDepth 100000
set_option maxHeartbeats 4000000
namespace Far
open PySem
section
variable {prog : Program} {w : World} {A : Around} {E : Value → Shared → Prop} {t : Shared}
abbrev zq1 (h : Heap) (tu : Addr) : Heap := h.push { cls := .type "tuple_iterator", data := .fields #[.ref tu, .int 0 0] }
abbrev zq2 (h : Heap) (tu li : Addr) : Heap := (zq1 h tu).push { cls := .type "list_iterator", data := .fields #[.ref li, .int 0 0] }
abbrev zq3 (h : Heap) (tu li : Addr) : Heap := (zq2 h tu li).push { cls := .type "tuple", data := .seq #[.ref h.objs.size, .ref (zq1 h tu).objs.size] }
abbrev zq4 (h : Heap) (tu li : Addr) : Heap := (zq3 h tu li).push { cls := .type "tuple", data := .seq #[.none, .none] }
abbrev zq5 (h : Heap) (tu li : Addr) : Heap := (zq4 h tu li).push { cls := .type "zip", data := .fields #[.none, .bool false, .bool false, .ref (zq2 h tu li).objs.size, .ref (zq3 h tu li).objs.size] }
end
end Far
namespace L2
open PySem PySem.Spec PyProof.Rows
def ItzT (K : PySem.W.Frag) (a b : Addr) : It :=
  ⟨fun i H => ∃ (xs ys : List V) (x y : V), SqT K H a xs ∧ SqL K H b ys ∧ xs[i]? = some x ∧ ys[i]? = some y,
    fun i H v H' => ∃ T x y, v = .ref T ∧ H T = none ∧ H' = upd H T (.tup [x, y]) ∧ (∀ xs, SqT K H a xs → xs[i]? = some x) ∧ ∀ ys, SqL K H b ys → ys[i]? = some y,
    fun i H => ∃ xs : List V, SqT K H a xs ∧ xs.length ≤ i⟩
def iZipT (K : PySem.W.Frag) (ta : TA) : TI := fun σ H R => ta σ H fun vs H1 => ∃ a b xs ys, vs = [.ref a, .ref b] ∧ SqT K H1 a xs ∧ SqL K H1 b ys ∧ R (ItzT K a b) H1
end L2
set_option Elab.async false
set_option linter.all false
set_option maxRecDepth 100000
set_option maxHeartbeats 4000000
namespace Far
open PySem L2
def roomAt (J : Job) (i : Nat) : Int := ((J[i]?).map (·.1)).getD 0
def climbS (J : Job) : Nat → Option Nat → Int
  | 0, _ => 0
  | _ + 1, none => 0
  | k + 1, some i => roomAt J i + climbS J k (upOf (parL J) (some i))
def rsum (J : Job) (i : Nat) : Int := climbS J (i + 1) (some i)
def roadL (J : Job) : List Int := (List.range J.length).map (rsum J)
def eldS (J : Job) : Option Nat → Int
  | some j => rsum J j
  | none => 0
theorem room_of {J : Job} {i : Nat} {w : Int × List Stp} (h : J[i]? = some w) : roomAt J i = w.1 := by unfold roomAt; rw [h]; rfl
def subK (sub : Nat → List (Nat × Nat)) : Option Nat → List (Nat × Nat)
  | none => []
  | some k => sub k
def goIn (sub : Nat → List (Nat × Nat)) (w : Nat) : Nat → List Stp → List (Nat × Nat)
  | _, [] => []
  | n, s :: r => (w, n) :: (subK sub (kid s) ++ goIn sub w (n + 1) r)
def goF (J : Job) : Nat → Nat → List (Nat × Nat)
  | 0, _ => []
  | d + 1, w => goIn (goF J d) w 0 (stsOf J w)
def gone (J : Job) (w : Nat) : List (Nat × Nat) := goF J J.length w
def restA (J : Job) (w n : Nat) : List (Nat × Nat) := goIn (gone J) w n ((stsOf J w).drop n)
def pend (J : Job) (due : List (Nat × Nat)) : List (Nat × Nat) := due.reverse.flatMap fun t => restA J t.1 t.2
def roomsOf (J : Job) (l : List (Nat × Nat)) : List Int := l.map fun t => rsum J t.1
theorem nodup_le {α : Type} [DecidableEq α] : ∀ (a b : List α), a.Nodup → (∀ x ∈ a, x ∈ b) → a.length ≤ b.length
  | [], b, _, _ => Nat.zero_le _
  | x :: a, b, nd, h => by
    have hx := h x List.mem_cons_self
    have nd' := List.nodup_cons.mp nd
    have := nodup_le a (b.erase x) nd'.2 fun y hy => (List.mem_erase_of_ne (show y ≠ x from fun e => nd'.1 (by rw [← e]; exact hy))).mpr (h y (List.mem_cons_of_mem _ hy))
    rw [List.length_erase_of_mem hx] at this
    have : 0 < b.length := List.length_pos_of_mem hx
    rw [List.length_cons]
    omega
end Far
set_option Elab.async false
set_option linter.all false
set_option maxRecDepth 100000
set_option maxHeartbeats 4000000
namespace Far
open PySem L2
structure Crew where
  hold : List (Option Nat)
  piles : List (List Nat)
  stands : List Bool
  lives : List Bool
  nx : List Nat
  done : List (Nat × Nat)
  now : Int
  most : Int
def nxAt (c : Crew) (w : Nat) : Nat := (c.nx[w]?).getD 0
def livesAt (c : Crew) (w : Nat) : Bool := (c.lives[w]?).getD false
def standsAt (c : Crew) (w : Nat) : Bool := (c.stands[w]?).getD false
def holdAt (c : Crew) (h : Nat) : Option Nat := (c.hold[h]?).getD none
def pileAt (c : Crew) (h : Nat) : List Nat := (c.piles[h]?).getD []
def hasKid (J : Job) (c : Crew) (w : Nat) : Bool := ((parL J).zip c.lives).any fun x => decide (x.1 = some w) && x.2
def noneLeft (J : Job) (c : Crew) (w : Nat) : Bool := decide (nxAt c w = (stsOf J w).length)
def waitsOr (J : Job) (c : Crew) (w : Nat) : Bool := noneLeft J c w || isWait (stepAt J w (nxAt c w))
def mustLeave (J : Job) (c : Crew) : Option Nat → Bool
  | none => false
  | some w => noneLeft J c w || (waitsOr J c w && hasKid J c w)
def mx2 (i j : Int) : Int := if j > i then j else i
def beginC (J : Job) (c : Crew) (w : Nat) : Crew := { c with lives := c.lives.set w true, now := c.now + roomAt J w, most := mx2 c.most (c.now + roomAt J w) }
def endC (J : Job) (c : Crew) (w : Nat) : Crew := { c with lives := c.lives.set w false, now := c.now - roomAt J w }
def retake (J : Job) (c : Crew) (h : Nat) : Option Nat → Crew
  | none => c
  | some e => if (standsAt c e && !hasKid J c e) = true then { c with stands := c.stands.set e false, hold := c.hold.set h (some e) } else c
def leaveW (J : Job) (c : Crew) (h w : Nat) : Crew :=
  if hasKid J c w = true then { c with hold := c.hold.set h none, stands := c.stands.set w true }
  else retake J (endC J { c with hold := c.hold.set h none } w) h (((parL J)[w]?).getD none)
def settleC (J : Job) : Nat → Crew → Nat → Crew
  | 0, c, _ => c
  | n + 1, c, h => match holdAt c h with
    | none => c
    | some w => if mustLeave J c (some w) = true then settleC J n (leaveW J c h w) h else c
def sendOff (J : Job) (c : Crew) (h w k : Nat) : Crew :=
  let c1 := if waitsOr J c w = true then { c with stands := c.stands.set w true } else { c with piles := c.piles.set h (pileAt c h ++ [w]) }
  { beginC J c1 k with hold := c.hold.set h (some k) }
def stepped (c : Crew) (w : Nat) : Crew := { c with done := c.done ++ [(w, nxAt c w)], nx := c.nx.set w (nxAt c w + 1) }
def sentC (J : Job) (c : Crew) (h w : Nat) : Option Nat → Crew
  | none => c
  | some k => sendOff J c h w k
def doStep (J : Job) (c : Crew) (h w : Nat) : Crew := settleC J (J.length + 1) (sentC J (stepped c w) h w ((stepAt J w (nxAt c w)).bind kid)) h
inductive Told where
  | step (w n : Nat)
  | own (w : Nat)
  | took (w o : Nat)
  | missed (o : Nat)
def foretold (c : Crew) (h o : Nat) : Told :=
  match holdAt c h with
  | some w => .step w (nxAt c w)
  | none => match (pileAt c h).getLast? with
    | some w => .own w
    | none => match (pileAt c o).head? with
      | some w => .took w o
      | none => .missed o
def turnC (J : Job) (c : Crew) (h : Nat) : Told → Crew
  | .step w _ => doStep J c h w
  | .own w => { c with hold := c.hold.set h (some w), piles := c.piles.set h (pileAt c h).dropLast }
  | .took w o => { c with hold := c.hold.set h (some w), piles := c.piles.set o (pileAt c o).tail }
  | .missed _ => c
theorem zip_any {par : List (Option Nat)} {lv : List Bool} {w : Nat} (hl : lv.length = par.length) : ((par.zip lv).any fun x => decide (x.1 = some w) && x.2) = true ↔ ∃ k : Nat, par[k]? = some (some w) ∧ (lv[k]?).getD false = true := by
  rw [List.any_eq_true]
  constructor
  · rintro ⟨⟨a, b⟩, hm, h⟩
    obtain ⟨k, hk⟩ := List.getElem?_of_mem hm
    rw [List.getElem?_zip_eq_some] at hk
    simp only [Bool.and_eq_true, decide_eq_true_eq] at h
    exact ⟨k, by rw [hk.1, h.1], by rw [hk.2, Option.getD_some]; exact h.2⟩
  · rintro ⟨k, h1, h2⟩
    have hk := (List.getElem?_eq_some_iff.mp h1).1
    have hk2 : k < lv.length := by omega
    rw [List.getElem?_eq_getElem hk2, Option.getD_some] at h2
    refine ⟨(some w, lv[k]), ?_, by simp [h2]⟩
    exact List.mem_of_getElem? (i := k) (List.getElem?_zip_eq_some.mpr ⟨h1, List.getElem?_eq_getElem hk2⟩)
theorem hasKid_iff {J : Job} {c : Crew} (hl : c.lives.length = J.length) {w : Nat} : hasKid J c w = true ↔ ∃ k, (parL J)[k]? = some (some w) ∧ livesAt c k = true :=
  zip_any (by rw [hl, parL_len])
def ovF (J : Job) (c : Crew) : Nat → Nat → Bool
  | 0, _ => false
  | d + 1, w => decide (nxAt c w = (stsOf J w).length) && (kids (stsOf J w)).all (ovF J c d)
def over (J : Job) (c : Crew) (w : Nat) : Bool := ovF J c J.length w
def Beg (J : Job) (c : Crew) (w : Nat) : Prop := w = 0 ∨ ∃ p m, (stsOf J p)[m]? = some (.snd w) ∧ m < nxAt c p
def occ (c : Crew) (w : Nat) : Nat := c.hold.count (some w) + c.piles.flatten.count w + (if standsAt c w = true then 1 else 0)
structure CInv (J : Job) (n : Nat) (X : Nat → Prop) (c : Crew) : Prop where
  hl : c.hold.length = n
  pl : c.piles.length = n
  sl : c.stands.length = J.length
  ll : c.lives.length = J.length
  al : c.nx.length = J.length
  nxle : ∀ w, nxAt c w ≤ (stsOf J w).length
  l1 : ∀ w, livesAt c w = true → Beg J c w
  l2 : ∀ w, w < J.length → Beg J c w → livesAt c w = false → nxAt c w = (stsOf J w).length ∧ hasKid J c w = false
  nb : ∀ w, ¬ Beg J c w → nxAt c w = 0
  oc : ∀ w, occ c w = if livesAt c w = true then 1 else 0
  pil : ∀ w, w ∈ c.piles.flatten → waitsOr J c w = false
  hel : ∀ w, some w ∈ c.hold → ¬ X w → mustLeave J c (some w) = false
  st1 : ∀ w, standsAt c w = true → waitsOr J c w = true
  st2 : ∀ w, standsAt c w = true → ¬ X w → hasKid J c w = true
  dnd : c.done.Nodup
  dm : ∀ t : Nat × Nat, t ∈ c.done ↔ t.2 < nxAt c t.1
theorem lives_lt {J : Job} {n : Nat} {X : Nat → Prop} {c : Crew} (I : CInv J n X c) {w : Nat} (h : livesAt c w = true) : w < J.length := by
  unfold livesAt at h
  cases e : c.lives[w]? with
  | none => rw [e] at h; cases h
  | some b =>
    have := (List.getElem?_eq_some_iff.mp e).1
    rwa [I.ll] at this
theorem occ_lives {J : Job} {n : Nat} {X : Nat → Prop} {c : Crew} (I : CInv J n X c) {w : Nat} (h : 0 < occ c w) : livesAt c w = true := by
  have := I.oc w
  cases e : livesAt c w with
  | true => rfl
  | false => rw [e, if_neg (by decide)] at this; omega
theorem hold_lives {J : Job} {n : Nat} {X : Nat → Prop} {c : Crew} (I : CInv J n X c) {w : Nat} (h : some w ∈ c.hold) : livesAt c w = true := by
  have : 0 < c.hold.count (some w) := List.count_pos_iff.mpr h
  exact occ_lives I (by unfold occ; omega)
theorem pile_lives {J : Job} {n : Nat} {X : Nat → Prop} {c : Crew} (I : CInv J n X c) {w : Nat} (h : w ∈ c.piles.flatten) : livesAt c w = true := by
  have : 0 < c.piles.flatten.count w := List.count_pos_iff.mpr h
  exact occ_lives I (by unfold occ; omega)
theorem stand_lives {J : Job} {n : Nat} {X : Nat → Prop} {c : Crew} (I : CInv J n X c) {w : Nat} (h : standsAt c w = true) : livesAt c w = true :=
  occ_lives I (by unfold occ; rw [if_pos h]; omega)
end Far
set_option Elab.async false
set_option linter.all false
set_option maxRecDepth 100000
set_option maxHeartbeats 4000000
namespace Far
open PySem L2
theorem cnt_set {α : Type} [BEq α] [LawfulBEq α] {a b x : α} : ∀ {l : List α} {i : Nat}, l[i]? = some a → (l.set i b).count x + (if (a == x) = true then 1 else 0) = l.count x + (if (b == x) = true then 1 else 0)
  | [], _, h => by simp at h
  | y :: r, 0, h => by
    have e : y = a := by simpa using h
    subst e
    rw [List.set_cons_zero, List.count_cons, List.count_cons]
    omega
  | y :: r, i + 1, h => by
    have ih := cnt_set (b := b) (x := x) (l := r) (i := i) (by simpa using h)
    rw [List.set_cons_succ, List.count_cons, List.count_cons]
    omega
theorem flat_cnt {x : Nat} {l l' : List Nat} : ∀ {ch : List (List Nat)} {j : Nat}, ch[j]? = some l → (ch.set j l').flatten.count x + l.count x = ch.flatten.count x + l'.count x
  | [], _, h => by simp at h
  | a :: r, 0, h => by
    have e : a = l := by simpa using h
    subst e
    rw [List.set_cons_zero, List.flatten_cons, List.flatten_cons, List.count_append, List.count_append]
    omega
  | a :: r, j + 1, h => by
    have ih := flat_cnt (x := x) (l := l) (l' := l') (ch := r) (j := j) (by simpa using h)
    rw [List.set_cons_succ, List.flatten_cons, List.flatten_cons, List.count_append, List.count_append]
    omega
theorem getD_set {α : Type} {l : List α} {i w : Nat} {b d : α} (hi : i < l.length) : ((l.set i b)[w]?).getD d = if w = i then b else (l[w]?).getD d := by
  by_cases e : w = i
  · subst e
    rw [if_pos rfl, List.getElem?_set_self hi, Option.getD_some]
  · rw [if_neg e, List.getElem?_set_ne (fun z => e z.symm)]
theorem holdAt_some {c : Crew} {h w : Nat} (e : holdAt c h = some w) : c.hold[h]? = some (some w) := by
  unfold holdAt at e
  cases q : c.hold[h]? with
  | none => rw [q] at e; cases e
  | some x => rw [q] at e; exact congrArg some e
theorem pileAt_some {c : Crew} {h : Nat} {l : List Nat} (hl : h < c.piles.length) (e : pileAt c h = l) : c.piles[h]? = some l := by
  unfold pileAt at e
  rw [List.getElem?_eq_getElem hl] at e ⊢
  exact congrArg some e
theorem holdAt_none {c : Crew} {h : Nat} (hl : h < c.hold.length) (e : holdAt c h = none) : c.hold[h]? = some none := by
  unfold holdAt at e
  rw [List.getElem?_eq_getElem hl] at e ⊢
  exact congrArg some e
section
variable {most : Nat} {J : Job} {n : Nat} {X Y : Nat → Prop} {c : Crew} {h w : Nat}
theorem CInv.mono (I : CInv J n X c) (m : ∀ u, X u → Y u) : CInv J n Y c :=
  ⟨I.hl, I.pl, I.sl, I.ll, I.al, I.nxle, I.l1, I.l2, I.nb, I.oc, I.pil, fun v h1 h2 => I.hel v h1 fun x => h2 (m v x), I.st1, fun v h1 h2 => I.st2 v h1 fun x => h2 (m v x), I.dnd, I.dm⟩
theorem CInv.only (I : CInv J n X c) (hh : c.hold[h]? = some (some w)) : livesAt c w = true ∧ w < J.length ∧ c.hold.count (some w) = 1 ∧ w ∉ c.piles.flatten ∧ standsAt c w = false := by
  have hm : some w ∈ c.hold := List.mem_of_getElem? hh
  have hl := hold_lives I hm
  have e := I.oc w
  rw [if_pos hl] at e
  have h1 : 0 < c.hold.count (some w) := List.count_pos_iff.mpr hm
  unfold occ at e
  refine ⟨hl, lives_lt I hl, by omega, fun hp => ?_, ?_⟩
  · have : 0 < c.piles.flatten.count w := List.count_pos_iff.mpr hp
    omega
  · cases q : standsAt c w with
    | false => rfl
    | true => rw [q, if_pos rfl] at e; omega
theorem waits_none {v : Nat} (h : waitsOr J c v = false) : mustLeave J c (some v) = false := by
  have h' := h
  simp only [waitsOr, Bool.or_eq_false_iff] at h'
  simp only [mustLeave, h, h'.1, Bool.false_and, Bool.or_false]
theorem CInv.move (I : CInv J n X c) {hd : List (Option Nat)} {ps : List (List Nat)} (h1 : hd.length = n) (h2 : ps.length = n) (hoc : ∀ v, hd.count (some v) + ps.flatten.count v = c.hold.count (some v) + c.piles.flatten.count v)
    (hp : ∀ v, v ∈ ps.flatten → v ∈ c.piles.flatten) (hh : ∀ v, some v ∈ hd → some v ∈ c.hold ∨ v ∈ c.piles.flatten) : CInv J n X { c with hold := hd, piles := ps } where
  hl := h1
  pl := h2
  sl := I.sl
  ll := I.ll
  al := I.al
  nxle := I.nxle
  l1 := I.l1
  l2 := I.l2
  nb := I.nb
  oc := fun v => by
    have e := I.oc v
    unfold occ at e ⊢
    show hd.count (some v) + ps.flatten.count v + (if standsAt c v = true then 1 else 0) = if livesAt c v = true then 1 else 0
    rw [hoc v]
    exact e
  pil := fun v hv => I.pil v (hp v hv)
  hel := fun v hv hx => by
    rcases hh v hv with q | q
    · exact I.hel v q hx
    · exact waits_none (I.pil v q)
  st1 := I.st1
  st2 := I.st2
  dnd := I.dnd
  dm := I.dm
theorem mem_set {α : Type} {l : List α} {i : Nat} {a b : α} (h : a ∈ l.set i b) : a ∈ l ∨ a = b := List.mem_or_eq_of_mem_set h
theorem CInv.own (I : CInv J n X c) (hn : h < n) (hh : holdAt c h = none) {l : List Nat} (hp : pileAt c h = l ++ [w]) : CInv J n X { c with hold := c.hold.set h (some w), piles := c.piles.set h l } := by
  have e1 := holdAt_none (by rw [I.hl]; exact hn) hh
  have e2 := pileAt_some (by rw [I.pl]; exact hn) hp
  have hwm : w ∈ c.piles.flatten := List.mem_flatten.mpr ⟨_, List.mem_of_getElem? e2, List.mem_append_right _ (List.mem_singleton.mpr rfl)⟩
  refine I.move (by rw [List.length_set]; exact I.hl) (by rw [List.length_set]; exact I.pl) (fun v => ?_) (fun v hv => ?_) (fun v hv => ?_)
  · have a := cnt_set (b := some w) (x := some v) e1
    have b := flat_cnt (x := v) (l' := l) e2
    rw [List.count_append, List.count_singleton] at b
    by_cases e : w = v
    · subst e
      simp at a b
      omega
    · simp [e] at a b
      omega
  · obtain ⟨m, hm, hv'⟩ := List.mem_flatten.mp hv
    rcases mem_set hm with q | q
    · exact List.mem_flatten.mpr ⟨m, q, hv'⟩
    · subst q
      exact List.mem_flatten.mpr ⟨_, List.mem_of_getElem? e2, List.mem_append_left _ hv'⟩
  · rcases mem_set hv with q | q
    · exact .inl q
    · cases q; exact .inr hwm
theorem CInv.took (I : CInv J n X c) {o : Nat} (hn : h < n) (ho : o < n) (hh : holdAt c h = none) {l : List Nat} (hp : pileAt c o = w :: l) : CInv J n X { c with hold := c.hold.set h (some w), piles := c.piles.set o l } := by
  have e1 := holdAt_none (by rw [I.hl]; exact hn) hh
  have e2 := pileAt_some (by rw [I.pl]; exact ho) hp
  have hwm : w ∈ c.piles.flatten := List.mem_flatten.mpr ⟨_, List.mem_of_getElem? e2, List.mem_cons_self⟩
  refine I.move (by rw [List.length_set]; exact I.hl) (by rw [List.length_set]; exact I.pl) (fun v => ?_) (fun v hv => ?_) (fun v hv => ?_)
  · have a := cnt_set (b := some w) (x := some v) e1
    have b := flat_cnt (x := v) (l' := l) e2
    rw [List.count_cons] at b
    by_cases e : w = v
    · subst e
      simp at a b
      omega
    · simp [e] at a b
      omega
  · obtain ⟨m, hm, hv'⟩ := List.mem_flatten.mp hv
    rcases mem_set hm with q | q
    · exact List.mem_flatten.mpr ⟨m, q, hv'⟩
    · subst q
      exact List.mem_flatten.mpr ⟨_, List.mem_of_getElem? e2, List.mem_cons_of_mem _ hv'⟩
  · rcases mem_set hv with q | q
    · exact .inl q
    · cases q; exact .inr hwm
theorem stepped_nx (I : CInv J n X c) (hw : w < J.length) (v : Nat) : nxAt (stepped c w) v = if v = w then nxAt c w + 1 else nxAt c v :=
  getD_set (by rw [I.al]; exact hw)
theorem waits_eq {d : Crew} {v : Nat} (e : nxAt d v = nxAt c v) : waitsOr J d v = waitsOr J c v := by
  unfold waitsOr noneLeft
  rw [e]
theorem none_eq {d : Crew} {v : Nat} (e : nxAt d v = nxAt c v) : noneLeft J d v = noneLeft J c v := by
  unfold noneLeft
  rw [e]
theorem stepped_done (I : CInv J n X c) (hw : w < J.length) : (stepped c w).done.Nodup ∧ ∀ t : Nat × Nat, t ∈ (stepped c w).done ↔ t.2 < nxAt (stepped c w) t.1 := by
  refine ⟨List.nodup_append.mpr ⟨I.dnd, by simp, ?_⟩, fun t => ?_⟩
  · rintro a ha b hb rfl
    rw [List.mem_singleton.mp hb] at ha
    have := (I.dm _).mp ha
    simp only at this
    omega
  · rw [stepped_nx I hw]
    show t ∈ c.done ++ [(w, nxAt c w)] ↔ _
    rw [List.mem_append, List.mem_singleton, I.dm t]
    by_cases e : t.1 = w
    · rw [if_pos e]
      constructor
      · rintro (q | q)
        · rw [e] at q; omega
        · rw [q]; show nxAt c w < nxAt c w + 1; omega
      · intro q
        by_cases e2 : t.2 = nxAt c w
        · exact .inr (Prod.ext e e2)
        · left; rw [e]; omega
    · rw [if_neg e]
      constructor
      · rintro (q | q)
        · exact q
        · rw [q] at e; exact absurd rfl e
      · exact .inl
theorem Beg.mono_ {d : Crew} (hm : ∀ p, nxAt c p ≤ nxAt d p) {v : Nat} (b : Beg J c v) : Beg J d v := by
  rcases b with e | ⟨p, m, h1, h2⟩
  · exact .inl e
  · exact .inr ⟨p, m, h1, Nat.lt_of_lt_of_le h2 (hm p)⟩
theorem stepped_beg (I : CInv J n X c) (hw : w < J.length) {s : Stp} (hs : (stsOf J w)[nxAt c w]? = some s) {v : Nat} : Beg J (stepped c w) v ↔ Beg J c v ∨ s = .snd v := by
  constructor
  · rintro (e | ⟨p, m, h1, h2⟩)
    · exact .inl (.inl e)
    · rw [stepped_nx I hw] at h2
      by_cases e : p = w
      · rw [if_pos e] at h2
        by_cases e2 : m = nxAt c w
        · subst e e2
          rw [h1] at hs
          cases hs
          exact .inr rfl
        · exact .inl (.inr ⟨p, m, h1, by rw [e]; omega⟩)
      · rw [if_neg e] at h2
        exact .inl (.inr ⟨p, m, h1, h2⟩)
  · rintro (b | e)
    · refine Beg.mono_ (fun p => ?_) b
      rw [stepped_nx I hw]
      by_cases e : p = w
      · rw [if_pos e, e]; omega
      · rw [if_neg e]; exact Nat.le_refl _
    · subst e
      refine .inr ⟨w, nxAt c w, hs, ?_⟩
      rw [stepped_nx I hw, if_pos rfl]
      omega
theorem CInv.stepDo (I : CInv J n (fun _ => False) c) (hh : c.hold[h]? = some (some w)) {s : Stp} (hs : (stsOf J w)[nxAt c w]? = some s) (hk : kid s = none) : CInv J n (fun u => u = w) (stepped c w) := by
  obtain ⟨lw, hw, cw, npw, nsw⟩ := I.only hh
  have nx := stepped_nx I hw
  have bg := fun v => stepped_beg (J := J) I hw hs (v := v)
  have ns : ∀ v, s ≠ .snd v := fun v e => by subst e; cases hk
  have same : ∀ v, v ≠ w → nxAt (stepped c w) v = nxAt c v := fun v e => by rw [nx, if_neg e]
  have bw : Beg J c w := I.l1 w lw
  have hlt := (List.getElem?_eq_some_iff.mp hs).1
  obtain ⟨d1, d2⟩ := stepped_done I hw
  refine ⟨I.hl, I.pl, I.sl, I.ll, by show (c.nx.set _ _).length = _; rw [List.length_set]; exact I.al, fun v => ?_, fun v hv => (bg v).mpr (.inl (I.l1 v hv)), fun v h1 h2 h3 => ?_, fun v hb => ?_, I.oc, fun v hv => ?_, fun v hv hx => ?_, fun v hv => ?_, fun v hv hx => I.st2 v hv (fun z => z), d1, d2⟩
  · by_cases e : v = w
    · subst e; rw [nx, if_pos rfl]; omega
    · rw [same v e]; exact I.nxle v
  · have e : v ≠ w := fun z => by subst z; rw [show livesAt (stepped c v) v = livesAt c v from rfl, lw] at h3; cases h3
    rcases (bg v).mp h2 with b | b
    · rw [same v e]; exact I.l2 v h1 b h3
    · exact absurd b (ns v)
  · have e : v ≠ w := fun z => by subst z; exact hb ((bg v).mpr (.inl bw))
    rw [same v e]
    exact I.nb v fun b => hb ((bg v).mpr (.inl b))
  · have e : v ≠ w := fun z => by subst z; exact npw hv
    rw [waits_eq (same v e)]
    exact I.pil v hv
  · have := I.hel v hv (fun z => z)
    simp only [mustLeave] at this ⊢
    rw [waits_eq (same v hx), none_eq (same v hx)]
    exact this
  · have e : v ≠ w := fun z => by subst z; rw [show standsAt (stepped c v) v = standsAt c v from rfl, nsw] at hv; cases hv
    rw [waits_eq (same v e)]
    exact I.st1 v hv
end
end Far
set_option Elab.async false
set_option linter.all false
set_option maxRecDepth 100000
set_option maxHeartbeats 4000000
namespace Far
open PySem L2
section
variable {most : Nat} {J : Job} {n : Nat} {X Y : Nat → Prop} {c : Crew} {h w : Nat}
theorem holdc {l : List (Option Nat)} {a b : Option Nat} {i : Nat} (e : l[i]? = some a) (v : Nat) : (l.set i b).count (some v) + (if a = some v then 1 else 0) = l.count (some v) + (if b = some v then 1 else 0) := by
  have := cnt_set (b := b) (x := some v) e
  simp only [beq_iff_eq] at this
  exact this
theorem CInv.stepSend (o : JobOk most J) (I : CInv J n (fun _ => False) c) (hn : h < n) (hh : c.hold[h]? = some (some w)) {k : Nat} (hs : (stsOf J w)[nxAt c w]? = some (.snd k)) : CInv J n (fun u => u = k) (sendOff J (stepped c w) h w k) := by
  obtain ⟨lw, hw, cw, npw, nsw⟩ := I.only hh
  have nx := stepped_nx I hw
  have bg := fun v => stepped_beg (J := J) I hw hs (v := v)
  have hsd := o.sends (send_of hs)
  simp only at hsd
  have same : ∀ v, v ≠ w → nxAt (stepped c w) v = nxAt c v := fun v e => by rw [nx, if_neg e]
  have bw : Beg J c w := I.l1 w lw
  have hlt := (List.getElem?_eq_some_iff.mp hs).1
  obtain ⟨d1, d2⟩ := stepped_done I hw
  have nbk : ¬ Beg J c k := by
    rintro (e | ⟨p, m, h1, h2⟩)
    · omega
    · have := o.oneSend (send_of h1) (send_of hs) rfl
      injection this with e1 e2
      injection e2 with e2 _
      subst e1
      omega
  have lk : livesAt c k = false := by
    cases q : livesAt c k with
    | false => rfl
    | true => exact absurd (I.l1 k q) nbk
  have ok0 : occ c k = 0 := by rw [I.oc k, lk, if_neg (by decide)]
  have hpk : (parL J)[k]? = some (some w) := o.parent (send_of hs)
  obtain ⟨d, hd⟩ : ∃ d, sendOff J (stepped c w) h w k = d := ⟨_, rfl⟩
  have ee : (waitsOr J (stepped c w) w = true ∧ d = { beginC J { stepped c w with stands := c.stands.set w true } k with hold := c.hold.set h (some k) }) ∨ (waitsOr J (stepped c w) w = false ∧ d = { beginC J { stepped c w with piles := c.piles.set h (pileAt c h ++ [w]) } k with hold := c.hold.set h (some k) }) := by
    subst hd
    unfold sendOff
    by_cases q : waitsOr J (stepped c w) w = true
    · left
      refine ⟨q, ?_⟩
      rw [if_pos q]
      rfl
    · right
      refine ⟨Bool.eq_false_iff.mpr q, ?_⟩
      rw [if_neg q]
      rfl
  have hdnx : d.nx = (stepped c w).nx := by rcases ee with ⟨_, e⟩ | ⟨_, e⟩ <;> (rw [e]; rfl)
  have hdl : d.lives = c.lives.set k true := by rcases ee with ⟨_, e⟩ | ⟨_, e⟩ <;> (rw [e]; rfl)
  have hdd : d.done = (stepped c w).done := by rcases ee with ⟨_, e⟩ | ⟨_, e⟩ <;> (rw [e]; rfl)
  have hdh : d.hold = c.hold.set h (some k) := by rcases ee with ⟨_, e⟩ | ⟨_, e⟩ <;> rw [e]
  have hdps : (waitsOr J (stepped c w) w = true ∧ d.stands = c.stands.set w true ∧ d.piles = c.piles) ∨ (waitsOr J (stepped c w) w = false ∧ d.stands = c.stands ∧ d.piles = c.piles.set h (pileAt c h ++ [w])) := by
    rcases ee with ⟨q, e⟩ | ⟨q, e⟩
    · exact .inl ⟨q, by rw [e]; rfl, by rw [e]; rfl⟩
    · exact .inr ⟨q, by rw [e]; rfl, by rw [e]; rfl⟩
  have dnx : ∀ v, nxAt d v = nxAt (stepped c w) v := fun v => by unfold nxAt; rw [hdnx]
  have dsame : ∀ v, v ≠ w → nxAt d v = nxAt c v := fun v e => by rw [dnx, same v e]
  have dbg : ∀ v, Beg J d v ↔ Beg J c v ∨ v = k := fun v => by
    have e : Beg J d v ↔ Beg J (stepped c w) v := by
      unfold Beg
      simp only [dnx]
    rw [e, bg v]
    constructor
    · rintro (q | q)
      · exact .inl q
      · injection q with q; exact .inr q.symm
    · rintro (q | q)
      · exact .inl q
      · exact .inr (by rw [q])
  have dl : ∀ v, livesAt d v = if v = k then true else livesAt c v := fun v => by
    unfold livesAt
    rw [hdl]
    exact getD_set (by rw [I.ll]; exact hsd.2)
  have dll : d.lives.length = J.length := by rw [hdl, List.length_set]; exact I.ll
  have dk : ∀ v, hasKid J d v = true ↔ hasKid J c v = true ∨ v = w := fun v => by
    rw [hasKid_iff dll, hasKid_iff I.ll]
    constructor
    · rintro ⟨x, h1, h2⟩
      rw [dl] at h2
      by_cases e : x = k
      · subst e
        rw [hpk] at h1
        cases h1
        exact .inr rfl
      · rw [if_neg e] at h2
        exact .inl ⟨x, h1, h2⟩
    · rintro (⟨x, h1, h2⟩ | e)
      · refine ⟨x, h1, ?_⟩
        rw [dl]
        by_cases e : x = k
        · rw [if_pos e]
        · rw [if_neg e]; exact h2
      · subst e
        exact ⟨k, hpk, by rw [dl, if_pos rfl]⟩
  have dkf : ∀ v, v ≠ w → hasKid J d v = hasKid J c v := fun v e => by
    cases q : hasKid J c v with
    | true => exact (dk v).mpr (.inl q)
    | false =>
      cases q2 : hasKid J d v with
      | false => rfl
      | true =>
        rcases (dk v).mp q2 with z | z
        · rw [q] at z; cases z
        · exact absurd z e
  have hc : ∀ v, d.hold.count (some v) + (if w = v then 1 else 0) = c.hold.count (some v) + (if k = v then 1 else 0) := fun v => by
    rw [hdh]
    have := holdc (b := some k) hh v
    simp only [Option.some.injEq] at this
    exact this
  have e2 := pileAt_some (h := h) (by rw [I.pl]; exact hn) (rfl : pileAt c h = pileAt c h)
  have hps : ∀ v, d.piles.flatten.count v + (if standsAt d v = true then 1 else 0) = c.piles.flatten.count v + (if standsAt c v = true then 1 else 0) + (if w = v then 1 else 0) := fun v => by
    rcases hdps with ⟨_, q2, q3⟩ | ⟨_, q2, q3⟩
    · have : standsAt d v = if v = w then true else standsAt c v := by
        unfold standsAt
        rw [q2]
        exact getD_set (by rw [I.sl]; exact hw)
      rw [this, q3]
      by_cases e : v = w
      · subst e
        rw [if_pos rfl, nsw]
        simp
      · have e' : ¬ w = v := fun z => e z.symm
        simp only [e, e', if_false]
        omega
    · have : standsAt d v = standsAt c v := by unfold standsAt; rw [q2]
      rw [this, q3]
      have f := flat_cnt (x := v) (l' := pileAt c h ++ [w]) e2
      rw [List.count_append, List.count_singleton] at f
      simp only [beq_iff_eq] at f
      omega
  have hst : ∀ v, standsAt d v = true → standsAt c v = true ∨ (v = w ∧ waitsOr J (stepped c w) w = true) := fun v hv => by
    rcases hdps with ⟨q1, q2, q3⟩ | ⟨q1, q2, q3⟩
    · have : standsAt d v = if v = w then true else standsAt c v := by
        unfold standsAt
        rw [q2]
        exact getD_set (by rw [I.sl]; exact hw)
      rw [this] at hv
      by_cases e : v = w
      · exact .inr ⟨e, q1⟩
      · rw [if_neg e] at hv; exact .inl hv
    · have : standsAt d v = standsAt c v := by unfold standsAt; rw [q2]
      rw [this] at hv
      exact .inl hv
  have snw : ∀ v, standsAt c v = true → v ≠ w := fun v hv z => by subst z; rw [nsw] at hv; cases hv
  rw [hd]
  refine ⟨by rw [hdh, List.length_set]; exact I.hl, ?_, ?_, dll, by rw [hdnx]; show (c.nx.set _ _).length = _; rw [List.length_set]; exact I.al, fun v => ?_, fun v hv => ?_, fun v h1 h2 h3 => ?_, fun v hb => ?_, fun v => ?_, fun v hv => ?_, fun v hv hx => ?_, fun v hv => ?_, fun v hv hx => ?_, by rw [hdd]; exact d1, fun t => by rw [hdd, dnx]; exact d2 t⟩
  · rcases hdps with ⟨_, _, q3⟩ | ⟨_, _, q3⟩
    · rw [q3]; exact I.pl
    · rw [q3, List.length_set]; exact I.pl
  · rcases hdps with ⟨_, q3, _⟩ | ⟨_, q3, _⟩
    · rw [q3, List.length_set]; exact I.sl
    · rw [q3]; exact I.sl
  · by_cases e : v = w
    · subst e; rw [dnx, nx, if_pos rfl]; omega
    · rw [dsame v e]; exact I.nxle v
  · rw [dl] at hv
    by_cases e : v = k
    · exact (dbg v).mpr (.inr e)
    · rw [if_neg e] at hv; exact (dbg v).mpr (.inl (I.l1 v hv))
  · rw [dl] at h3
    by_cases e : v = k
    · rw [if_pos e] at h3; cases h3
    · rw [if_neg e] at h3
      have ew : v ≠ w := fun z => by subst z; rw [lw] at h3; cases h3
      rcases (dbg v).mp h2 with b | b
      · rw [dsame v ew, dkf v ew]; exact I.l2 v h1 b h3
      · exact absurd b e
  · have ew : v ≠ w := fun z => by subst z; exact hb ((dbg v).mpr (.inl bw))
    rw [dsame v ew]
    exact I.nb v fun b => hb ((dbg v).mpr (.inl b))
  · have a1 := hc v
    have a2 := hps v
    have a3 := I.oc v
    rw [dl]
    unfold occ at a3 ⊢
    by_cases e : v = k
    · subst e
      have a4 := ok0
      unfold occ at a4
      rw [if_pos rfl]
      simp only [if_true] at a1 ⊢
      have : ¬ w = v := by omega
      simp only [this, if_false] at a1 a2
      omega
    · have : ¬ k = v := fun z => e z.symm
      simp only [this, e, if_false] at a1 ⊢
      omega
  · rcases hdps with ⟨_, q2, q3⟩ | ⟨q1, q2, q3⟩
    · rw [q3] at hv
      have e : v ≠ w := fun z => by subst z; exact npw hv
      rw [waits_eq (dsame v e)]
      exact I.pil v hv
    · by_cases e : v = w
      · subst e
        rw [waits_eq (dnx v)]
        exact q1
      · rw [waits_eq (dsame v e)]
        rw [q3] at hv
        obtain ⟨m, hm, hv'⟩ := List.mem_flatten.mp hv
        rcases mem_set hm with q | q
        · exact I.pil v (List.mem_flatten.mpr ⟨m, q, hv'⟩)
        · subst q
          rcases List.mem_append.mp hv' with z | z
          · exact I.pil v (List.mem_flatten.mpr ⟨_, List.mem_of_getElem? e2, z⟩)
          · exact absurd (List.mem_singleton.mp z) e
  · have hp : 0 < d.hold.count (some v) := List.count_pos_iff.mpr hv
    have a1 := hc v
    have ek : ¬ k = v := fun z => hx z.symm
    simp only [ek, if_false] at a1
    have ew : v ≠ w := fun z => by
      subst z
      simp only [if_true] at a1
      omega
    have hv2 : some v ∈ c.hold := List.count_pos_iff.mp (by omega)
    have := I.hel v hv2 (fun z => z)
    simp only [mustLeave] at this ⊢
    rw [waits_eq (dsame v ew), none_eq (dsame v ew), dkf v ew]
    exact this
  · rcases hst v hv with q | ⟨q, q2⟩
    · rw [waits_eq (dsame v (snw v q))]; exact I.st1 v q
    · subst q; rw [waits_eq (dnx v)]; exact q2
  · rcases hst v hv with q | ⟨q, q2⟩
    · exact (dk v).mpr (.inl (I.st2 v q (fun z => z)))
    · exact (dk v).mpr (.inr q)
theorem CInv.leaveA (I : CInv J n (fun u => u = w) c) (hh : c.hold[h]? = some (some w)) (hm : mustLeave J c (some w) = true) (hk : hasKid J c w = true) : CInv J n (fun _ => False) { c with hold := c.hold.set h none, stands := c.stands.set w true } := by
  obtain ⟨lw, hw, cw, npw, nsw⟩ := I.only hh
  have ww : waitsOr J c w = true := by
    simp only [mustLeave, Bool.or_eq_true, Bool.and_eq_true] at hm
    rcases hm with q | q
    · simp only [waitsOr, q, Bool.true_or]
    · exact q.1
  have ds : ∀ v, standsAt { c with hold := c.hold.set h none, stands := c.stands.set w true } v = if v = w then true else standsAt c v := fun v => getD_set (by rw [I.sl]; exact hw)
  refine ⟨by show (c.hold.set _ _).length = _; rw [List.length_set]; exact I.hl, I.pl, by show (c.stands.set _ _).length = _; rw [List.length_set]; exact I.sl, I.ll, I.al, I.nxle, I.l1, I.l2, I.nb, fun v => ?_, I.pil, fun v hv _ => ?_, fun v hv => ?_, fun v hv _ => ?_, I.dnd, I.dm⟩
  · have a := holdc (b := none) hh v
    have b := I.oc v
    unfold occ at b ⊢
    rw [ds]
    show (c.hold.set h none).count (some v) + c.piles.flatten.count v + _ = if livesAt c v = true then 1 else 0
    by_cases e : v = w
    · subst e
      rw [nsw] at b
      simp at a b ⊢
      omega
    · have e' : ¬ w = v := fun z => e z.symm
      simp [e, e'] at a b ⊢
      omega
  · have hp : 0 < (c.hold.set h none).count (some v) := List.count_pos_iff.mpr hv
    have a := holdc (b := none) hh v
    have ew : v ≠ w := fun z => by
      subst z
      simp at a
      omega
    have e' : ¬ w = v := fun z => ew z.symm
    simp [e'] at a
    exact I.hel v (List.count_pos_iff.mp (by omega)) ew
  · rw [ds] at hv
    by_cases e : v = w
    · rw [e]; exact ww
    · rw [if_neg e] at hv; exact I.st1 v hv
  · rw [ds] at hv
    by_cases e : v = w
    · rw [e]; exact hk
    · rw [if_neg e] at hv; exact I.st2 v hv e
theorem CInv.leaveB (o : JobOk most J) (I : CInv J n (fun u => u = w) c) (hh : c.hold[h]? = some (some w)) (hm : mustLeave J c (some w) = true) (hk : hasKid J c w = false) : CInv J n (fun u => (parL J)[w]? = some (some u)) (endC J { c with hold := c.hold.set h none } w) ∧ (∀ v, some v ∈ c.hold.set h none → mustLeave J (endC J { c with hold := c.hold.set h none } w) (some v) = false) := by
  obtain ⟨lw, hw, cw, npw, nsw⟩ := I.only hh
  have nw : noneLeft J c w = true := by
    simp only [mustLeave, hk, Bool.and_false, Bool.or_false] at hm
    exact hm
  obtain ⟨d, hd⟩ : ∃ d, endC J { c with hold := c.hold.set h none } w = d := ⟨_, rfl⟩
  rw [hd]
  have dl : ∀ v, livesAt d v = if v = w then false else livesAt c v := fun v => by
    subst hd
    exact getD_set (by rw [I.ll]; exact hw)
  have dll : d.lives.length = J.length := by subst hd; show (c.lives.set _ _).length = _; rw [List.length_set]; exact I.ll
  have dkm : ∀ v, hasKid J d v = true → hasKid J c v = true := fun v hv => by
    obtain ⟨x, h1, h2⟩ := (hasKid_iff dll).mp hv
    rw [dl] at h2
    by_cases e : x = w
    · rw [if_pos e] at h2; cases h2
    · rw [if_neg e] at h2; exact (hasKid_iff I.ll).mpr ⟨x, h1, h2⟩
  have dkf : ∀ v, hasKid J c v = false → hasKid J d v = false := fun v hv => by
    cases q : hasKid J d v with
    | false => rfl
    | true => rw [dkm v q] at hv; cases hv
  have dnx : ∀ v, nxAt d v = nxAt c v := fun v => by subst hd; rfl
  have dbg : ∀ v, Beg J d v ↔ Beg J c v := fun v => by subst hd; exact Iff.rfl
  have dst : ∀ v, standsAt d v = standsAt c v := fun v => by subst hd; rfl
  have dh : d.hold = c.hold.set h none := by subst hd; rfl
  have dp : d.piles = c.piles := by subst hd; rfl
  have hnew : ∀ v, some v ∈ c.hold.set h none → v ≠ w ∧ some v ∈ c.hold := fun v hv => by
    have hp : 0 < (c.hold.set h none).count (some v) := List.count_pos_iff.mpr hv
    have a := holdc (b := none) hh v
    have ew : v ≠ w := fun z => by
      subst z
      simp at a
      omega
    have e' : ¬ w = v := fun z => ew z.symm
    simp [e'] at a
    exact ⟨ew, List.count_pos_iff.mp (by omega)⟩
  have hel : ∀ v, some v ∈ c.hold.set h none → mustLeave J d (some v) = false := fun v hv => by
    obtain ⟨ew, hv2⟩ := hnew v hv
    have := I.hel v hv2 ew
    simp only [mustLeave, Bool.or_eq_false_iff] at this ⊢
    rw [waits_eq (dnx v), none_eq (dnx v)]
    refine ⟨this.1, ?_⟩
    have h2 := this.2
    cases q : waitsOr J c v with
    | false => rfl
    | true =>
      rw [q, Bool.true_and] at h2
      rw [dkf v h2]; rfl
  refine ⟨⟨by rw [dh, List.length_set]; exact I.hl, by rw [dp]; exact I.pl, by subst hd; exact I.sl, dll, by subst hd; exact I.al, fun v => by rw [dnx]; exact I.nxle v, fun v hv => ?_, fun v h1 h2 h3 => ?_, fun v hb => by rw [dnx]; exact I.nb v fun b => hb ((dbg v).mpr b), fun v => ?_, fun v hv => ?_, fun v hv _ => ?_, fun v hv => ?_, fun v hv hx => ?_, by subst hd; exact I.dnd, fun t => by subst hd; exact I.dm t⟩, hel⟩
  · rw [dl] at hv
    by_cases e : v = w
    · rw [if_pos e] at hv; cases hv
    · rw [if_neg e] at hv; exact (dbg v).mpr (I.l1 v hv)
  · rw [dl] at h3
    rw [dnx]
    by_cases e : v = w
    · subst e
      exact ⟨of_decide_eq_true nw, dkf _ hk⟩
    · rw [if_neg e] at h3
      obtain ⟨a, b⟩ := I.l2 v h1 ((dbg v).mp h2) h3
      exact ⟨a, dkf v b⟩
  · have a := holdc (b := none) hh v
    have b := I.oc v
    unfold occ at b ⊢
    rw [dst, dl, dh, dp]
    by_cases e : v = w
    · subst e
      rw [lw] at b
      simp at a b ⊢
      refine ⟨?_, ?_⟩
      · have hz : (c.hold.set h none).count (some v) = 0 := by omega
        first | exact ⟨hz, fun m hm' q => npw (List.mem_flatten.mpr ⟨m, hm', q⟩)⟩ | exact ⟨by omega, by omega⟩
      · exact nsw
    · have e' : ¬ w = v := fun z => e z.symm
      simp [e, e'] at a b ⊢
      omega
  · rw [dp] at hv
    rw [waits_eq (dnx v)]
    exact I.pil v hv
  · rw [dh] at hv
    exact hel v hv
  · rw [dst] at hv
    rw [waits_eq (dnx v)]
    exact I.st1 v hv
  · rw [dst] at hv
    have ew : v ≠ w := fun z => by subst z; rw [nsw] at hv; cases hv
    obtain ⟨x, h1, h2⟩ := (hasKid_iff I.ll).mp (I.st2 v hv ew)
    have ex : x ≠ w := fun z => by subst z; exact hx h1
    exact (hasKid_iff dll).mpr ⟨x, h1, by rw [dl, if_neg ex]; exact h2⟩
end
end Far
set_option Elab.async false
set_option linter.all false
set_option maxRecDepth 100000
set_option maxHeartbeats 4000000
namespace Far
open PySem L2
theorem stepAt_eq (J : Job) (w n : Nat) : stepAt J w n = (stsOf J w)[n]? := by
  unfold stepAt stsOf
  cases J[w]? with
  | none => rfl
  | some x => rfl
theorem holdAt_set {c : Crew} {l : List (Option Nat)} {h : Nat} {x : Option Nat} (e : c.hold = l.set h x) (hl : h < l.length) : holdAt c h = x := by
  unfold holdAt
  rw [e, List.getElem?_set_self hl, Option.getD_some]
section
variable {most : Nat} {J : Job} {n : Nat} {X Y : Nat → Prop} {c : Crew} {h w : Nat}
theorem leave_inv (o : JobOk most J) (I : CInv J n (fun u => u = w) c) (hn : h < n) (hh : c.hold[h]? = some (some w)) (hm : mustLeave J c (some w) = true) :
    CInv J n (fun u => holdAt (leaveW J c h w) h = some u) (leaveW J c h w) ∧ ∀ u, holdAt (leaveW J c h w) h = some u → (parL J)[w]? = some (some u) := by
  have hhl : h < c.hold.length := by rw [I.hl]; exact hn
  unfold leaveW
  by_cases k : hasKid J c w = true
  · rw [if_pos k]
    have e : holdAt { c with hold := c.hold.set h none, stands := c.stands.set w true } h = none := holdAt_set rfl hhl
    refine ⟨(I.leaveA hh hm k).mono fun u z => z.elim, fun u hu => ?_⟩
    rw [e] at hu
    cases hu
  · rw [if_neg k]
    obtain ⟨I1, hel⟩ := I.leaveB o hh hm (Bool.eq_false_iff.mpr k)
    obtain ⟨d, hd⟩ : ∃ d, endC J { c with hold := c.hold.set h none } w = d := ⟨_, rfl⟩
    rw [hd] at I1 hel ⊢
    have dh : d.hold = c.hold.set h none := by subst hd; rfl
    have e0 : holdAt d h = none := holdAt_set dh hhl
    cases ep : (parL J)[w]? with
    | none =>
      refine ⟨(I1.mono fun u z => by rw [ep] at z; cases z), fun u hu => ?_⟩
      rw [show retake J d h ((none : Option (Option Nat)).getD none) = d from rfl, e0] at hu
      cases hu
    | some op =>
      cases op with
      | none =>
        refine ⟨(I1.mono fun u z => by rw [ep] at z; cases z), fun u hu => ?_⟩
        rw [show retake J d h ((some (none : Option Nat)).getD none) = d from rfl, e0] at hu
        cases hu
      | some e =>
        show CInv J n (fun u => holdAt (retake J d h (some e)) h = some u) (retake J d h (some e)) ∧ ∀ u, holdAt (retake J d h (some e)) h = some u → _
        by_cases q : (standsAt d e && !hasKid J d e) = true
        · have er : retake J d h (some e) = { d with stands := d.stands.set e false, hold := d.hold.set h (some e) } := by show (if _ then _ else _) = _; rw [if_pos q]
          rw [er]
          have hdl : h < d.hold.length := by rw [dh, List.length_set]; exact hhl
          have e1 : holdAt { d with stands := d.stands.set e false, hold := d.hold.set h (some e) } h = some e := holdAt_set rfl hdl
          simp only [Bool.and_eq_true] at q
          have hse := q.1
          have hle := stand_lives I1 hse
          have hej := lives_lt I1 hle
          have ds : ∀ v, standsAt { d with stands := d.stands.set e false, hold := d.hold.set h (some e) } v = if v = e then false else standsAt d v := fun v => getD_set (by rw [I1.sl]; exact hej)
          have hdn : d.hold[h]? = some none := holdAt_none hdl e0
          refine ⟨?_, fun u hu => by rw [e1] at hu; cases hu; rfl⟩
          refine ⟨by show (d.hold.set _ _).length = _; rw [List.length_set]; exact I1.hl, I1.pl, by show (d.stands.set _ _).length = _; rw [List.length_set]; exact I1.sl, I1.ll, I1.al, I1.nxle, I1.l1, I1.l2, I1.nb, fun v => ?_, I1.pil, fun v hv hx => ?_, fun v hv => ?_, fun v hv hx => ?_, I1.dnd, I1.dm⟩
          · have a := holdc (b := some e) hdn v
            have b := I1.oc v
            unfold occ at b ⊢
            rw [ds]
            show (d.hold.set h (some e)).count (some v) + d.piles.flatten.count v + _ = if livesAt d v = true then 1 else 0
            by_cases ev : v = e
            · subst ev
              rw [hse] at b
              simp at a b ⊢
              omega
            · have e' : ¬ e = v := fun z => ev z.symm
              simp [ev, e'] at a b ⊢
              omega
          · rw [e1] at hx
            rcases mem_set hv with q2 | q2
            · rw [dh] at q2; exact hel v q2
            · exact absurd q2.symm hx
          · rw [ds] at hv
            by_cases ev : v = e
            · rw [if_pos ev] at hv; cases hv
            · rw [if_neg ev] at hv; exact I1.st1 v hv
          · rw [ds] at hv
            by_cases ev : v = e
            · rw [if_pos ev] at hv; cases hv
            · rw [if_neg ev] at hv
              exact I1.st2 v hv fun z => by rw [ep] at z; cases z; exact ev rfl
        · have er : retake J d h (some e) = d := by show (if _ then _ else _) = _; rw [if_neg q]
          rw [er]
          refine ⟨?_, fun u hu => by rw [e0] at hu; cases hu⟩
          refine { I1 with hel := fun v hv _ => by rw [dh] at hv; exact hel v hv, st2 := fun v hv _ => ?_ }
          by_cases ev : v = e
          · subst ev
            cases q2 : hasKid J d v with
            | true => rfl
            | false => rw [hv, q2] at q; exact absurd rfl q
          · exact I1.st2 v hv fun z => by rw [ep] at z; cases z; exact ev rfl
theorem settle_inv (o : JobOk most J) (hn : h < n) : ∀ (fuel : Nat) (c : Crew), CInv J n (fun u => holdAt c h = some u) c → (∀ w, holdAt c h = some w → w < fuel) → CInv J n (fun _ => False) (settleC J fuel c h)
  | 0, c, I, hf => I.mono fun u z => by have := hf u z; omega
  | f + 1, c, I, hf => by
    unfold settleC
    cases e : holdAt c h with
    | none => exact I.mono fun u z => by rw [e] at z; cases z
    | some w =>
      have I' : CInv J n (fun u => u = w) c := I.mono fun u z => by rw [e] at z; cases z; rfl
      have hh := holdAt_some e
      show CInv J n (fun _ => False) (if mustLeave J c (some w) = true then settleC J f (leaveW J c h w) h else c)
      by_cases m : mustLeave J c (some w) = true
      · rw [if_pos m]
        obtain ⟨I2, hu⟩ := leave_inv o I' hn hh m
        refine settle_inv o hn f _ I2 fun u q => ?_
        have := o.ups w u (hu u q)
        have := hf w e
        omega
      · rw [if_neg m]
        obtain ⟨_, _, _, _, nsw⟩ := I'.only hh
        refine { I' with hel := fun v hv _ => ?_, st2 := fun v hv _ => ?_ }
        · by_cases ev : v = w
          · subst ev; exact Bool.eq_false_iff.mpr m
          · exact I'.hel v hv ev
        · by_cases ev : v = w
          · subst ev; rw [nsw] at hv; cases hv
          · exact I'.st2 v hv ev
theorem held_step (I : CInv J n (fun _ => False) c) (hh : c.hold[h]? = some (some w)) : ∃ s, (stsOf J w)[nxAt c w]? = some s := by
  have := I.hel w (List.mem_of_getElem? hh) (fun z => z)
  simp only [mustLeave, Bool.or_eq_false_iff, noneLeft] at this
  have h1 := of_decide_eq_false this.1
  have h2 := I.nxle w
  exact ⟨_, List.getElem?_eq_getElem (by omega)⟩
theorem mid_inv (o : JobOk most J) (I : CInv J n (fun _ => False) c) (hn : h < n) (hh : c.hold[h]? = some (some w)) : CInv J n (fun u => holdAt (sentC J (stepped c w) h w ((stepAt J w (nxAt c w)).bind kid)) h = some u) (sentC J (stepped c w) h w ((stepAt J w (nxAt c w)).bind kid)) := by
  obtain ⟨s, hs⟩ := held_step I hh
  rw [stepAt_eq, hs]
  show CInv J n (fun u => holdAt (sentC J (stepped c w) h w (kid s)) h = some u) (sentC J (stepped c w) h w (kid s))
  cases ek : kid s with
  | none =>
    have e : holdAt (stepped c w) h = some w := by
      unfold holdAt
      show ((c.hold)[h]?).getD none = some w
      rw [hh]; rfl
    refine (I.stepDo hh hs ek).mono fun u z => ?_
    subst z
    exact e
  | some k =>
    have es : s = .snd k := by
      cases s with
      | doo => cases ek
      | wai => cases ek
      | snd j => cases ek; rfl
    subst es
    have e : holdAt (sendOff J (stepped c w) h w k) h = some k := holdAt_set (l := c.hold) rfl (by rw [I.hl]; exact hn)
    refine (I.stepSend o hn hh hs).mono fun u z => ?_
    subst z
    exact e
theorem doStep_inv (o : JobOk most J) (I : CInv J n (fun _ => False) c) (hn : h < n) (hh : c.hold[h]? = some (some w)) : CInv J n (fun _ => False) (doStep J c h w) := by
  have M := mid_inv o I hn hh
  refine settle_inv o hn _ _ M fun u hu => ?_
  have hm : some u ∈ (sentC J (stepped c w) h w ((stepAt J w (nxAt c w)).bind kid)).hold := List.mem_of_getElem? (holdAt_some hu)
  have := lives_lt M (hold_lives M hm)
  omega
theorem turn_inv (o : JobOk most J) (I : CInv J n (fun _ => False) c) {ot : Nat} (hn : h < n) (ho : ot < n) : CInv J n (fun _ => False) (turnC J c h (foretold c h ot)) := by
  unfold foretold
  cases e : holdAt c h with
  | some w => exact doStep_inv o I hn (holdAt_some e)
  | none =>
    show CInv J n _ (turnC J c h (match (pileAt c h).getLast? with | some w => .own w | none => match (pileAt c ot).head? with | some w => .took w ot | none => .missed ot))
    cases e2 : (pileAt c h).getLast? with
    | some w =>
      obtain ⟨l, hl⟩ : ∃ l, pileAt c h = l ++ [w] := by
        obtain ⟨ys, hy⟩ := List.getLast?_eq_some_iff.mp e2
        exact ⟨ys, hy⟩
      show CInv J n _ { c with hold := c.hold.set h (some w), piles := c.piles.set h (pileAt c h).dropLast }
      rw [hl, List.dropLast_concat]
      exact I.own hn e hl
    | none =>
      show CInv J n _ (turnC J c h (match (pileAt c ot).head? with | some w => .took w ot | none => .missed ot))
      cases e3 : (pileAt c ot).head? with
      | some w =>
        obtain ⟨l, hl⟩ : ∃ l, pileAt c ot = w :: l := by
          cases q : pileAt c ot with
          | nil => rw [q] at e3; cases e3
          | cons a b => rw [q] at e3; cases e3; exact ⟨b, rfl⟩
        show CInv J n _ { c with hold := c.hold.set h (some w), piles := c.piles.set ot (pileAt c ot).tail }
        rw [hl]
        exact I.took hn ho e hl
      | none => exact I
end
def crew00 (J : Job) (n : Nat) : Crew := ⟨some 0 :: List.replicate (n - 1) none, List.replicate n [], List.replicate J.length false, List.replicate J.length false, List.replicate J.length 0, [], 0, 0⟩
def crew0 (J : Job) (n : Nat) : Crew := beginC J (crew00 J n) 0
theorem getD_rep {α : Type} {m w : Nat} {d : α} : ((List.replicate m d)[w]?).getD d = d := by
  rw [List.getElem?_replicate]
  split <;> rfl
theorem crew0_inv {most : Nat} {J : Job} (o : JobOk most J) {n : Nat} (hn : 0 < n) : CInv J n (fun _ => False) (crew0 J n) := by
  have nx : ∀ v, nxAt (crew0 J n) v = 0 := fun v => getD_rep
  have st : ∀ v, standsAt (crew0 J n) v = false := fun v => getD_rep
  have lv : ∀ v, livesAt (crew0 J n) v = decide (v = 0) := fun v => by
    have : livesAt (crew0 J n) v = if v = 0 then true else ((List.replicate J.length false)[v]?).getD false := getD_set (by show 0 < (List.replicate J.length false).length; rw [List.length_replicate]; exact o.pos)
    rw [this, getD_rep]
    by_cases e : v = 0 <;> simp [e]
  have ll : (crew0 J n).lives.length = J.length := by show ((List.replicate J.length false).set 0 true).length = _; rw [List.length_set, List.length_replicate]
  have bg : ∀ v, Beg J (crew0 J n) v ↔ v = 0 := fun v => by
    constructor
    · rintro (e | ⟨p, m, _, h2⟩)
      · exact e
      · rw [nx] at h2; omega
    · exact .inl
  have hk : ∀ v, hasKid J (crew0 J n) v = false := fun v => by
    cases q : hasKid J (crew0 J n) v with
    | false => rfl
    | true =>
      obtain ⟨x, h1, h2⟩ := (hasKid_iff ll).mp q
      rw [lv] at h2
      have e := of_decide_eq_true h2
      subst e
      exact absurd (o.ups 0 v h1) (Nat.not_lt_zero _)
  have fl : (crew0 J n).piles.flatten = [] := by
    show (List.replicate n ([] : List Nat)).flatten = []
    induction n with
    | zero => rfl
    | succ m ih => simp
  have hc : ∀ v, (crew0 J n).hold.count (some v) = if v = 0 then 1 else 0 := fun v => by
    show (some 0 :: List.replicate (n - 1) none).count (some v) = _
    rw [List.count_cons, List.count_replicate]
    by_cases e : v = 0
    · subst e; simp
    · have e' : ¬ 0 = v := fun z => e z.symm
      simp [e, e']
  refine ⟨?_, List.length_replicate, List.length_replicate, ll, List.length_replicate, fun v => by rw [nx]; exact Nat.zero_le _, fun v hv => ?_, fun v h1 h2 h3 => ?_, fun v _ => nx v, fun v => ?_, fun v hv => ?_, fun v hv _ => ?_, fun v hv => ?_, fun v hv => ?_, List.nodup_nil, fun t => ?_⟩
  · show (some 0 :: List.replicate (n - 1) none).length = n
    rw [List.length_cons, List.length_replicate]; omega
  · rw [lv] at hv; exact (bg v).mpr (of_decide_eq_true hv)
  · rw [(bg v).mp h2, lv] at h3; cases h3
  · unfold occ
    rw [hc, fl, st, lv]
    by_cases e : v = 0
    · subst e; simp
    · simp [e]
  · rw [fl] at hv; cases hv
  · have hp : 0 < (crew0 J n).hold.count (some v) := List.count_pos_iff.mpr hv
    rw [hc] at hp
    have e : v = 0 := by
      by_cases e : v = 0
      · exact e
      · rw [if_neg e] at hp; omega
    subst e
    simp only [mustLeave, noneLeft, hk, Bool.and_false, Bool.or_false, nx]
    have := sts_len o o.pos
    exact decide_eq_false (by omega)
  · rw [st] at hv; cases hv
  · rw [st] at hv; cases hv
  · rw [nx]
    constructor
    · intro z; cases z
    · intro z; omega
end Far
set_option Elab.async false
set_option linter.all false
set_option maxRecDepth 100000
set_option maxHeartbeats 4000000
namespace Far
open PySem L2
def keptOff (J : Job) (c : Crew) (w : Nat) : Bool := waitsOr J c w && (kids ((stsOf J w).take (nxAt c w))).any fun k => !over J c k
def inLying (c : Crew) (e : Nat) : Bool := decide (some e ∈ c.hold) || decide (e ∈ c.piles.flatten)
def lawUp (J : Job) (c : Crew) (h : Nat) : Option Nat → Crew
  | none => c
  | some e => if (!inLying c e && !keptOff J c e) = true then { c with hold := c.hold.set h (some e) } else c
def lawSet (J : Job) : Nat → Crew → Nat → Crew
  | 0, c, _ => c
  | f + 1, c, h => match holdAt c h with
    | none => c
    | some w => if over J c w = true then lawSet J f (lawUp J { c with hold := c.hold.set h none } h (((parL J)[w]?).getD none)) h
      else if keptOff J c w = true then lawSet J f { c with hold := c.hold.set h none } h
      else c
def lawSent (J : Job) (c : Crew) (h w : Nat) : Option Nat → Crew
  | none => c
  | some k => { c with hold := c.hold.set h (some k), piles := if waitsOr J c w = true then c.piles else c.piles.set h (pileAt c h ++ [w]) }
def lawStep (J : Job) (c : Crew) (h w : Nat) : Crew := lawSet J (J.length + 1) (lawSent J { c with nx := c.nx.set w (nxAt c w + 1) } h w ((stepAt J w (nxAt c w)).bind kid)) h
def lawTurn (J : Job) (c : Crew) (h : Nat) : Told → Crew
  | .step w _ => lawStep J c h w
  | .own w => { c with hold := c.hold.set h (some w), piles := c.piles.set h (pileAt c h).dropLast }
  | .took w o => { c with hold := c.hold.set h (some w), piles := c.piles.set o (pileAt c o).tail }
  | .missed _ => c
structure Tri (c d : Crew) : Prop where
  nx : c.nx = d.nx
  hold : c.hold = d.hold
  piles : c.piles = d.piles
section
variable {most : Nat} {J : Job} {n : Nat} {X Y : Nat → Prop} {c d : Crew} {h w : Nat}
end
end Far
set_option Elab.async false
set_option linter.all false
set_option maxRecDepth 100000
set_option maxHeartbeats 4000000
namespace Far
open PySem L2
theorem lc_zip {K : PySem.W.Frag} {a b : Addr} {xs ys : List V} {g : TG} {tt : TT} {te : TE} {vs : List Nat} {σ : St} {H1 : Hp} {D : Addr} {Qd : Hp → Prop} (hxy : xs.length = ys.length) (Pv : Nat → Hp → Prop) (h0 : Pv 0 (upd H1 D (.lst []))) (hl : ∀ i H, i ≤ xs.length → Pv i H → SqL K H a xs ∧ SqL K H b ys)
    (hs : ∀ i x y T H, xs[i]? = some x → ys[i]? = some y → H T = none → Pv i H → g (.ref T) (wipe σ vs) (upd H T (.tup [x, y])) fun σ2 H2 => wipe σ2 vs = wipe σ vs ∧ tt σ2 H2 fun b H3 =>
      if b = true then te σ2 H3 fun y H4 => ∃ acc, H4 D = some (.lst acc) ∧ acc.length < sizeLine ∧ Pv (i + 1) (upd H4 D (.lst (acc ++ [y]))) else Pv (i + 1) H3) (hd : ∀ H, Pv xs.length H → Qd H) :
    ∃ W : Nat → Nat → Hp → Prop, (∃ m, W 0 m (upd H1 D (.lst []))) ∧ ∀ i m H, W i m H →
      ((Itz K a b).stop i H ∧ Qd H) ∨ ((Itz K a b).go i H ∧ ∃ Nx : Hp → Prop, (∀ H', Nx H' → ∃ m', m' < m ∧ W (i + 1) m' H') ∧ ∀ x H', (Itz K a b).yld i H x H' → g x (wipe σ vs) H' fun σ2 H2 => wipe σ2 vs = wipe σ vs ∧ tt σ2 H2 fun b H3 =>
        if b = true then te σ2 H3 fun y H4 => ∃ acc, H4 D = some (.lst acc) ∧ acc.length < sizeLine ∧ Nx (upd H4 D (.lst (acc ++ [y]))) else Nx H3) := by
  refine ⟨fun i m H => m = xs.length - i ∧ i ≤ xs.length ∧ Pv i H, ⟨xs.length, by simp, Nat.zero_le _, h0⟩, ?_⟩
  rintro i m H ⟨rfl, hi, p⟩
  obtain ⟨q1, q2⟩ := hl i H hi p
  by_cases hlt : i < xs.length
  · have hly : i < ys.length := by omega
    refine .inr ⟨⟨xs, ys, xs[i], ys[i], q1, q2, by simp [hlt], by simp [hly]⟩, Pv (i + 1), fun H' p' => ⟨xs.length - (i + 1), by omega, rfl, hlt, p'⟩, fun x H' y => ?_⟩
    obtain ⟨T, x, y, rfl, hT, rfl, y1, y2⟩ := y
    exact hs i x y T H (y1 xs q1) (y2 ys q2) hT p
  · have e : i = xs.length := by omega
    subst e
    exact .inl ⟨⟨xs, ys, q1, q2, .inl (Nat.le_refl _)⟩, hd H p⟩
structure CA where
  p : Addr
  dx : Addr
  jv : V
  E : Addr
  AW : Addr
  PL : Addr
  ST : Addr
  LV : Addr
  NX : Addr
  SD : Addr
  ps : List Addr
def cflds (x : CA) (now most : Int) : List (Str × V) :=
  [("job", x.jv), ("elders", .ref x.E), ("at_work", .ref x.AW), ("piles", .ref x.PL), ("stands", .ref x.ST), ("lives", .ref x.LV), ("next_steps", .ref x.NX), ("steps_done", .ref x.SD), ("room_now", .int now), ("room_most", .int most)]
theorem lk_ne {k k' : Str} {v : V} {l : List (Str × V)} {r : Option V} (h : (k == k') = false) (e : l.lookup k = r) : ((k', v) :: l).lookup k = r := by
  rw [List.lookup_cons, h]; exact e
theorem lk_eq {k : Str} {v : V} {l : List (Str × V)} : ((k, v) :: l).lookup k = some v := by
  rw [List.lookup_cons]; simp
theorem pf_ne {f k : Str} {v x : V} {l r : List (Str × V)} (h : ¬ k = f) (e : putF f v l = r) : putF f v ((k, x) :: l) = (k, x) :: r := by
  show (if k = f then _ else _) = _
  rw [if_neg h, e]
theorem pf_eq {f : Str} {v x : V} {l : List (Str × V)} : putF f v ((f, x) :: l) = (f, v) :: l := by
  show (if f = f then _ else _) = _
  rw [if_pos rfl]
section
variable (x : CA) (a b : Int)
theorem f_job : (cflds x a b).lookup ("job" : Str) = some x.jv := lk_eq
theorem f_elders : (cflds x a b).lookup ("elders" : Str) = some (V.ref x.E) := lk_ne (by decide +kernel) lk_eq
theorem f_at_work : (cflds x a b).lookup ("at_work" : Str) = some (V.ref x.AW) := lk_ne (by decide +kernel) (lk_ne (by decide +kernel) lk_eq)
theorem f_piles : (cflds x a b).lookup ("piles" : Str) = some (V.ref x.PL) := lk_ne (by decide +kernel) (lk_ne (by decide +kernel) (lk_ne (by decide +kernel) lk_eq))
theorem f_stands : (cflds x a b).lookup ("stands" : Str) = some (V.ref x.ST) := lk_ne (by decide +kernel) (lk_ne (by decide +kernel) (lk_ne (by decide +kernel) (lk_ne (by decide +kernel) lk_eq)))
theorem f_lives : (cflds x a b).lookup ("lives" : Str) = some (V.ref x.LV) := lk_ne (by decide +kernel) (lk_ne (by decide +kernel) (lk_ne (by decide +kernel) (lk_ne (by decide +kernel) (lk_ne (by decide +kernel) lk_eq))))
theorem f_next : (cflds x a b).lookup ("next_steps" : Str) = some (V.ref x.NX) := lk_ne (by decide +kernel) (lk_ne (by decide +kernel) (lk_ne (by decide +kernel) (lk_ne (by decide +kernel) (lk_ne (by decide +kernel) (lk_ne (by decide +kernel) lk_eq)))))
theorem f_done : (cflds x a b).lookup ("steps_done" : Str) = some (V.ref x.SD) := lk_ne (by decide +kernel) (lk_ne (by decide +kernel) (lk_ne (by decide +kernel) (lk_ne (by decide +kernel) (lk_ne (by decide +kernel) (lk_ne (by decide +kernel) (lk_ne (by decide +kernel) lk_eq))))))
theorem f_now : (cflds x a b).lookup ("room_now" : Str) = some (V.int a) := lk_ne (by decide +kernel) (lk_ne (by decide +kernel) (lk_ne (by decide +kernel) (lk_ne (by decide +kernel) (lk_ne (by decide +kernel) (lk_ne (by decide +kernel) (lk_ne (by decide +kernel) (lk_ne (by decide +kernel) lk_eq)))))))
theorem f_most : (cflds x a b).lookup ("room_most" : Str) = some (V.int b) := lk_ne (by decide +kernel) (lk_ne (by decide +kernel) (lk_ne (by decide +kernel) (lk_ne (by decide +kernel) (lk_ne (by decide +kernel) (lk_ne (by decide +kernel) (lk_ne (by decide +kernel) (lk_ne (by decide +kernel) (lk_ne (by decide +kernel) lk_eq))))))))
theorem f_no {m : Str} (h : (["job", "elders", "at_work", "piles", "stands", "lives", "next_steps", "steps_done", "room_now", "room_most"] : List Str).all (fun k => !(m == k)) = true) : (cflds x a b).lookup m = none := by
  simp only [List.all_cons, List.all_nil, Bool.and_true, Bool.and_eq_true, Bool.not_eq_true'] at h
  obtain ⟨h1, h2, h3, h4, h5, h6, h7, h8, h9, h10⟩ := h
  exact lk_ne h1 (lk_ne h2 (lk_ne h3 (lk_ne h4 (lk_ne h5 (lk_ne h6 (lk_ne h7 (lk_ne h8 (lk_ne h9 (lk_ne h10 rfl)))))))))
theorem p_now (y : Int) : putF "room_now" (.int y) (cflds x a b) = cflds x y b := pf_ne (by decide +kernel) (pf_ne (by decide +kernel) (pf_ne (by decide +kernel) (pf_ne (by decide +kernel) (pf_ne (by decide +kernel) (pf_ne (by decide +kernel) (pf_ne (by decide +kernel) (pf_ne (by decide +kernel) pf_eq)))))))
theorem p_most (y : Int) : putF "room_most" (.int y) (cflds x a b) = cflds x a y := pf_ne (by decide +kernel) (pf_ne (by decide +kernel) (pf_ne (by decide +kernel) (pf_ne (by decide +kernel) (pf_ne (by decide +kernel) (pf_ne (by decide +kernel) (pf_ne (by decide +kernel) (pf_ne (by decide +kernel) (pf_ne (by decide +kernel) pf_eq))))))))
end
def lsts (x : CA) : List Addr := [x.E, x.AW, x.PL, x.ST, x.LV, x.NX, x.SD] ++ x.ps
structure CrewAt (K : PySem.W.Frag) (C : Addr) (H : Hp) (x : CA) (J : Job) (c : Crew) : Prop where
  ob : H x.p = some (.ins C x.dx (cflds x c.now c.most))
  job : IsJob K H x.jv J
  el : H x.E = some (.lst ((parL J).map optV))
  aw : H x.AW = some (.lst (c.hold.map optV))
  pl : H x.PL = some (.lst (x.ps.map V.ref))
  pi : Paired (fun a l => H a = some (.lst (l.map natV))) x.ps c.piles
  st : H x.ST = some (.lst (c.stands.map V.bl))
  lv : H x.LV = some (.lst (c.lives.map V.bl))
  nx : H x.NX = some (.lst (c.nx.map natV))
  sd : ∃ ss, H x.SD = some (.lst ss) ∧ Paired (IsPr K H) ss c.done
  nd : (lsts x).Nodup
def KeepC (x : CA) (H H' : Hp) : Prop := ∀ b o, H b = some o → b ≠ x.p → b ∉ lsts x → H' b = some o
theorem KeepC.refl (x : CA) (H : Hp) : KeepC x H H := fun _ _ h _ _ => h
theorem KeepC.trans {x : CA} {H H1 H2 : Hp} (a : KeepC x H H1) (b : KeepC x H1 H2) : KeepC x H H2 := fun c o h n m => b c o (a c o h n m) n m
theorem KeepC.of {x : CA} {H H' : Hp} (s : Same H H') : KeepC x H H' := fun b o h _ _ => s b o h
theorem KeepC.put {x : CA} {a : Addr} (h : a ∈ lsts x) (H : Hp) (o : HO) : KeepC x H (upd H a o) := fun b u e _ m => by rw [upd_ne fun z => m (by rw [z]; exact h)]; exact e
theorem KeepC.putP (x : CA) (H : Hp) (o : HO) : KeepC x H (upd H x.p o) := fun b u e n _ => by rw [upd_ne n]; exact e
theorem plst_mem {H : Hp} {a : Addr} : ∀ {ps : List Addr} {ch : List (List Nat)}, a ∈ ps → Paired (fun a l => H a = some (.lst (l.map natV))) ps ch → ∃ l, H a = some (.lst l)
  | _, _, h, .nil => by cases h
  | _, _, h, .cons r t => by
    rcases List.mem_cons.mp h with e | e
    · subst e; exact ⟨_, r⟩
    · exact plst_mem e t
theorem nd_ne {l : List Addr} (nd : l.Nodup) {i j : Nat} {a b : Addr} (hi : l[i]? = some a) (hj : l[j]? = some b) (h : i ≠ j) : a ≠ b := by
  obtain ⟨h1, rfl⟩ := List.getElem?_eq_some_iff.mp hi
  obtain ⟨h2, rfl⟩ := List.getElem?_eq_some_iff.mp hj
  have pw := List.pairwise_iff_getElem.mp nd
  rcases Nat.lt_or_gt_of_ne h with q | q
  · exact pw i j h1 h2 q
  · exact (pw j i h2 h1 q).symm
section
variable {K : PySem.W.Frag} {C : Addr} {H H' : Hp} {x : CA} {J : Job} {c : Crew}
theorem CrewAt.lst_ (A : CrewAt K C H x J c) {a : Addr} (h : a ∈ lsts x) : ∃ l, H a = some (.lst l) := by
  unfold lsts at h
  rcases List.mem_append.mp h with q | q
  · simp only [List.mem_cons, List.not_mem_nil, or_false] at q
    rcases q with e | e | e | e | e | e | e
    · exact ⟨_, e ▸ A.el⟩
    · exact ⟨_, e ▸ A.aw⟩
    · exact ⟨_, e ▸ A.pl⟩
    · exact ⟨_, e ▸ A.st⟩
    · exact ⟨_, e ▸ A.lv⟩
    · exact ⟨_, e ▸ A.nx⟩
    · obtain ⟨ss, h1, _⟩ := A.sd
      exact ⟨_, e ▸ h1⟩
  · exact plst_mem q A.pi
theorem CrewAt.out (A : CrewAt K C H x J c) {b : Addr} {o : HO} (h : H b = some o) (h1 : ∀ l, o ≠ .lst l) (h2 : ∀ d fs, o ≠ .ins C d fs) : b ≠ x.p ∧ b ∉ lsts x := by
  refine ⟨fun e => ?_, fun m => ?_⟩
  · subst e
    rw [A.ob] at h
    exact h2 _ _ (Option.some.inj h).symm
  · obtain ⟨l, e⟩ := A.lst_ m
    rw [e] at h
    exact h1 l (Option.some.inj h).symm
theorem CrewAt.ku (A : CrewAt K C H x J c) (k : KeepC x H H') : KU H H' := fun b xs h => by
  obtain ⟨n1, n2⟩ := A.out h (fun _ z => nomatch z) (fun _ _ z => nomatch z)
  exact k b _ h n1 n2
theorem CrewAt.kt (A : CrewAt K C H x J c) (k : KeepC x H H') : KT K H H' := fun b xs h => by
  rcases h with (h | ⟨o, h⟩) | h
  · obtain ⟨n1, n2⟩ := A.out h (fun _ z => nomatch z) (fun _ _ z => nomatch z)
    exact .inl (.inl (k b _ h n1 n2))
  · obtain ⟨n1, n2⟩ := A.out h (fun _ z => nomatch z) (fun _ _ z => nomatch z)
    exact .inl (.inr ⟨o, k b _ h n1 n2⟩)
  · exact .inr h
theorem CrewAt.same (A : CrewAt K C H x J c) (s : Same H H') : CrewAt K C H' x J c :=
  ⟨s _ _ A.ob, A.job.kt (KT.same s), s _ _ A.el, s _ _ A.aw, s _ _ A.pl, Paired.mapP A.pi fun _ _ h => s _ _ h, s _ _ A.st, s _ _ A.lv, s _ _ A.nx, let ⟨ss, h1, h2⟩ := A.sd; ⟨ss, s _ _ h1, ppr (KU.same s) h2⟩, A.nd⟩
theorem CrewAt.pne (A : CrewAt K C H x J c) {a : Addr} (h : a ∈ lsts x) : x.p ≠ a := by
  obtain ⟨l, e⟩ := A.lst_ h
  exact ne_of A.ob e (fun z => nomatch z)
theorem lst_in {i : Nat} {a : Addr} (h : (lsts x)[i]? = some a) : a ∈ lsts x := List.mem_of_getElem? h
theorem pfar {a0 : Addr} {o : HO} : ∀ {ps : List Addr} {ch : List (List Nat)}, a0 ∉ ps → Paired (fun a l => H a = some (.lst (l.map natV))) ps ch → Paired (fun a l => (upd H a0 o) a = some (.lst (l.map natV))) ps ch
  | _, _, _, .nil => .nil
  | _, _, h, .cons r t => .cons (by rw [upd_ne fun e => h (by rw [e]; exact List.mem_cons_self)]; exact r) (pfar (fun m => h (List.mem_cons_of_mem _ m)) t)
theorem pput {a0 : Addr} {l' : List Nat} : ∀ {ps : List Addr} {ch : List (List Nat)} (j : Nat), ps.Nodup → ps[j]? = some a0 → Paired (fun a l => H a = some (.lst (l.map natV))) ps ch → Paired (fun a l => (upd H a0 (.lst (l'.map natV))) a = some (.lst (l.map natV))) ps (ch.set j l')
  | _, _, _, _, e, .nil => by simp at e
  | _, _, 0, nd, e, .cons r t => by
    have e' := Option.some.inj (show some _ = some a0 from e)
    subst e'
    exact .cons upd_same (pfar (List.nodup_cons.mp nd).1 t)
  | a :: _, _, j + 1, nd, e, .cons r t => by
    have hm : a0 ∈ _ := List.mem_of_getElem? (show _ = some a0 from (by simpa using e))
    have ne : a ≠ a0 := fun z => (List.nodup_cons.mp nd).1 (by rw [z]; exact hm)
    exact .cons (by rw [upd_ne ne]; exact r) (pput j (List.nodup_cons.mp nd).2 (by simpa using e) t)
theorem CrewAt.rest (A : CrewAt K C H x J c) {i : Nat} {a : Addr} (hi : (lsts x)[i]? = some a) (h7 : i < 7) (o : HO) :
    (upd H a o) x.p = some (.ins C x.dx (cflds x c.now c.most)) ∧ IsJob K (upd H a o) x.jv J ∧ (i ≠ 0 → (upd H a o) x.E = some (.lst ((parL J).map optV))) ∧ (i ≠ 1 → (upd H a o) x.AW = some (.lst (c.hold.map optV))) ∧
    (i ≠ 2 → (upd H a o) x.PL = some (.lst (x.ps.map V.ref))) ∧ Paired (fun b l => (upd H a o) b = some (.lst (l.map natV))) x.ps c.piles ∧ (i ≠ 3 → (upd H a o) x.ST = some (.lst (c.stands.map V.bl))) ∧ (i ≠ 4 → (upd H a o) x.LV = some (.lst (c.lives.map V.bl))) ∧
    (i ≠ 5 → (upd H a o) x.NX = some (.lst (c.nx.map natV))) ∧ (i ≠ 6 → ∃ ss, (upd H a o) x.SD = some (.lst ss) ∧ Paired (IsPr K (upd H a o)) ss c.done) := by
  have hm := lst_in hi
  obtain ⟨l0, hl0⟩ := A.lst_ hm
  have ne : ∀ (j : Nat) (b : Addr), (lsts x)[j]? = some b → i ≠ j → b ≠ a := fun j b hj hne => nd_ne A.nd hj hi (fun z => hne z.symm)
  refine ⟨by rw [upd_ne (A.pne hm)]; exact A.ob, A.job.kt (KT.but (But.put _ _ _) hl0), fun h => by rw [upd_ne (ne 0 _ rfl h)]; exact A.el, fun h => by rw [upd_ne (ne 1 _ rfl h)]; exact A.aw, fun h => by rw [upd_ne (ne 2 _ rfl h)]; exact A.pl, pfar (fun hmem => ?_) A.pi, fun h => by rw [upd_ne (ne 3 _ rfl h)]; exact A.st, fun h => by rw [upd_ne (ne 4 _ rfl h)]; exact A.lv, fun h => by rw [upd_ne (ne 5 _ rfl h)]; exact A.nx, fun h => ?_⟩
  · obtain ⟨k, hk⟩ := List.getElem?_of_mem hmem
    have : (lsts x)[k + 7]? = some a := hk
    exact nd_ne A.nd hi this (by omega) rfl
  · obtain ⟨ss, h1, h2⟩ := A.sd
    exact ⟨ss, by rw [upd_ne (ne 6 _ rfl h)]; exact h1, ppr (KU.updL hl0 _) h2⟩
theorem CrewAt.setAW (A : CrewAt K C H x J c) (l : List (Option Nat)) : CrewAt K C (upd H x.AW (.lst (l.map optV))) x J { c with hold := l } := by
  obtain ⟨h1, h2, h3, _, h5, h6, h7, h8, h9, h10⟩ := A.rest (i := 1) rfl (by decide) (.lst (l.map optV))
  exact ⟨h1, h2, h3 (by decide), upd_same, h5 (by decide), h6, h7 (by decide), h8 (by decide), h9 (by decide), h10 (by decide), A.nd⟩
theorem CrewAt.setST (A : CrewAt K C H x J c) (l : List Bool) : CrewAt K C (upd H x.ST (.lst (l.map V.bl))) x J { c with stands := l } := by
  obtain ⟨h1, h2, h3, h4, h5, h6, _, h8, h9, h10⟩ := A.rest (i := 3) rfl (by decide) (.lst (l.map V.bl))
  exact ⟨h1, h2, h3 (by decide), h4 (by decide), h5 (by decide), h6, upd_same, h8 (by decide), h9 (by decide), h10 (by decide), A.nd⟩
theorem CrewAt.setLV (A : CrewAt K C H x J c) (l : List Bool) : CrewAt K C (upd H x.LV (.lst (l.map V.bl))) x J { c with lives := l } := by
  obtain ⟨h1, h2, h3, h4, h5, h6, h7, _, h9, h10⟩ := A.rest (i := 4) rfl (by decide) (.lst (l.map V.bl))
  exact ⟨h1, h2, h3 (by decide), h4 (by decide), h5 (by decide), h6, h7 (by decide), upd_same, h9 (by decide), h10 (by decide), A.nd⟩
theorem CrewAt.setNX (A : CrewAt K C H x J c) (l : List Nat) : CrewAt K C (upd H x.NX (.lst (l.map natV))) x J { c with nx := l } := by
  obtain ⟨h1, h2, h3, h4, h5, h6, h7, h8, _, h10⟩ := A.rest (i := 5) rfl (by decide) (.lst (l.map natV))
  exact ⟨h1, h2, h3 (by decide), h4 (by decide), h5 (by decide), h6, h7 (by decide), h8 (by decide), upd_same, h10 (by decide), A.nd⟩
theorem CrewAt.addSD (A : CrewAt K C H x J c) {ss : List V} {T : Addr} {t : Nat × Nat} (hs : H x.SD = some (.lst ss)) (hT : H T = some (.tup [natV t.1, natV t.2])) : CrewAt K C (upd H x.SD (.lst (ss ++ [.ref T]))) x J { c with done := c.done ++ [t] } := by
  obtain ⟨h1, h2, h3, h4, h5, h6, h7, h8, h9, _⟩ := A.rest (i := 6) rfl (by decide) (.lst (ss ++ [.ref T]))
  refine ⟨h1, h2, h3 (by decide), h4 (by decide), h5 (by decide), h6, h7 (by decide), h8 (by decide), h9 (by decide), ⟨_, upd_same, ?_⟩, A.nd⟩
  obtain ⟨ss', e1, e2⟩ := A.sd
  rw [hs] at e1
  cases e1
  exact papp (ppr (KU.updL hs _) e2) (.cons ⟨T, rfl, KU.updL hs _ _ _ hT⟩ .nil)
theorem CrewAt.setPile (A : CrewAt K C H x J c) {j : Nat} {a : Addr} (hj : x.ps[j]? = some a) (l : List Nat) : CrewAt K C (upd H a (.lst (l.map natV))) x J { c with piles := c.piles.set j l } := by
  have hi : (lsts x)[j + 7]? = some a := hj
  have hm := lst_in hi
  obtain ⟨l0, hl0⟩ := A.lst_ hm
  have ne : ∀ (k : Nat) (b : Addr), (lsts x)[k]? = some b → k < 7 → b ≠ a := fun k b hk h7 => nd_ne A.nd hk hi (by omega)
  obtain ⟨ss, s1, s2⟩ := A.sd
  refine ⟨by rw [upd_ne (A.pne hm)]; exact A.ob, A.job.kt (KT.but (But.put _ _ _) hl0), by rw [upd_ne (ne 0 _ rfl (by decide))]; exact A.el, by rw [upd_ne (ne 1 _ rfl (by decide))]; exact A.aw, by rw [upd_ne (ne 2 _ rfl (by decide))]; exact A.pl, pput j ?_ hj A.pi, by rw [upd_ne (ne 3 _ rfl (by decide))]; exact A.st, by rw [upd_ne (ne 4 _ rfl (by decide))]; exact A.lv, by rw [upd_ne (ne 5 _ rfl (by decide))]; exact A.nx, ⟨ss, by rw [upd_ne (ne 6 _ rfl (by decide))]; exact s1, ppr (KU.updL hl0 _) s2⟩, A.nd⟩
  exact (List.nodup_append.mp A.nd).2.1
theorem CrewAt.setOb (A : CrewAt K C H x J c) (a b : Int) : CrewAt K C (upd H x.p (.ins C x.dx (cflds x a b))) x J { c with now := a, most := b } := by
  have ne : ∀ (k : Nat) (b : Addr), (lsts x)[k]? = some b → b ≠ x.p := fun k b hk => (A.pne (lst_in hk)).symm
  obtain ⟨ss, s1, s2⟩ := A.sd
  have ku : KU H (upd H x.p (.ins C x.dx (cflds x a b))) := A.ku (KeepC.putP x H _)
  exact ⟨upd_same, A.job.kt (A.kt (KeepC.putP x H _)), by rw [upd_ne (ne 0 _ rfl)]; exact A.el, by rw [upd_ne (ne 1 _ rfl)]; exact A.aw, by rw [upd_ne (ne 2 _ rfl)]; exact A.pl, pfar (fun hm => (A.pne (show x.p ∈ lsts x from List.mem_append_right _ hm)) rfl) A.pi, by rw [upd_ne (ne 3 _ rfl)]; exact A.st, by rw [upd_ne (ne 4 _ rfl)]; exact A.lv, by rw [upd_ne (ne 5 _ rfl)]; exact A.nx, ⟨ss, by rw [upd_ne (ne 6 _ rfl)]; exact s1, ppr ku s2⟩, A.nd⟩
theorem CrewAt.pile (A : CrewAt K C H x J c) {j : Nat} {l : List Nat} (h : c.piles[j]? = some l) : ∃ a, x.ps[j]? = some a ∧ H a = some (.lst (l.map natV)) ∧ (x.ps.map V.ref)[j]? = some (.ref a) := by
  obtain ⟨a, e, r⟩ := pget A.pi h
  exact ⟨a, e, r, by rw [List.getElem?_map, e]; rfl⟩
end
structure Lens (J : Job) (n : Nat) (c : Crew) : Prop where
  hl : c.hold.length = n
  pl : c.piles.length = n
  sl : c.stands.length = J.length
  ll : c.lives.length = J.length
  al : c.nx.length = J.length
  nxle : ∀ w, nxAt c w ≤ (stsOf J w).length
theorem CInv.lens {J : Job} {n : Nat} {X : Nat → Prop} {c : Crew} (I : CInv J n X c) : Lens J n c := ⟨I.hl, I.pl, I.sl, I.ll, I.al, I.nxle⟩
end Far
set_option Elab.async false
set_option linter.all false
set_option maxRecDepth 100000
set_option maxHeartbeats 4000000
namespace HT
open PySem PySem.Spec PyProof.Rows
section
variable {prog : Program} {w : World} {A : Around} {E : Value → Shared → Prop} {s : Shared}
end
end HT
namespace L2
open PySem PySem.Spec PyProof.Rows
section
variable {X : Cx}
def rSlW (K : PySem.W.Frag) : V → Option Int → Option Int → Hp → VK → Prop := fun x lo hi H Q => ∃ a xs, x = .ref a ∧ SqT K H a xs ∧ (cutV xs lo hi = xs → Q (.ref a) H) ∧ ∀ p, H p = none → Q (.ref p) (upd H p (.tup (cutV xs lo hi)))
def tOrT (K : PySem.W.Frag) (ta tb : TE) : TE := fun σ H Q => ta σ H fun x H1 => ∃ k, TruV K x H1 k ∧ if k = true then Q x H1 else tb σ H1 Q
theorem pe_orT {a b : Expr} {rest : List Expr} {pos : Pos} {ta tb : TE} (ha : PE X a ta) (hb : PE X (.BoolOp .Or (b :: rest) pos) tb) : PE X (.BoolOp .Or (a :: b :: rest) pos) (tOrT X.K ta tb) := by
  intro pins s σ H Q I h
  refine BoolOp_or (thn (ha pins s σ H _ I h) fun v s1 ⟨x, H1, I1, r1, q1⟩ => ?_)
  obtain ⟨k, tr, q1⟩ := q1
  refine thn (tru_ok pins s1 σ H1 x v (fun c H' => if c = true then Q x H' else tb σ H' Q) I1 r1 ⟨k, tr, q1⟩) fun c s2 ⟨H2, I2, q2⟩ => ?_
  cases c with
  | false => exact hb pins s2 σ H2 Q I2 q2
  | true => exact ⟨x, H2, I2, r1, q2⟩
def rInD (K : PySem.W.Frag) : R2 := fun x y H Q => ∃ d ds p, Dp K H x d ∧ y = .ref p ∧ Dp K H (.ref p) (.list ds) ∧ SeqAt.shaped d = true ∧ PyData.canLayAll0 ds = true ∧ Q (.bl (ds.any fun e => PyData.eqv e d)) H
def rIsE (K : PySem.W.Frag) (T : String) : List V → Hp → VK → Prop := fun vs H Q => ∃ x t b, vs = [x, .ty T] ∧ TyOf K H x t ∧ PySem.W.kitOne K t (.type T) = some b ∧ Q (.bl b) H
theorem cr_isE {T : String} : CallR X (.builtin "isinstance") (rIsE X.K T) := by
  intro pins s σ H vs us Q I r h
  obtain ⟨x, t, b, rfl, ty, e, q⟩ := h
  exact cr_isi (T := T) (b := b) pins s σ H _ us Q I r ⟨x, t, rfl, ty, e, q⟩
end
def tMid (t : TE) : TE := fun σ H Q => ∃ R : VK, t σ H R ∧ ∀ v H', R v H' → Q v H'
theorem pe_mid {X : Cx} {e : Expr} {t : TE} (h : PE X e t) : PE X e (tMid t) := by
  intro pins s σ H Q I hw
  obtain ⟨R, h1, h2⟩ := hw
  exact thn (h pins s σ H R I h1) fun v s1 ⟨x, H1, I1, r, q⟩ => ⟨x, H1, I1, r, h2 _ _ q⟩
theorem hu66 {A : Around} {k : Nat} (hr : Room k A) : A.units + 66 < cLine := by have := hr.un; omega
end L2
namespace Far
open PySem L2
def WholeIs (K : PySem.W.Frag) (H : Hp) (v : V) (b : Bool) : Prop := ∃ t bi bb, TyOf K H v t ∧ PySem.W.kitOne K t (.type "int") = some bi ∧ (bi = true → PySem.W.kitOne K t (.type "bool") = some bb) ∧ b = (bi && !bb) ∧ (b = true → ∃ i, v = .int i)
theorem kit_same {K : PySem.W.Frag} (x : String) : PySem.W.kitOne K (.type x) (.type x) = some true := by
  unfold PySem.W.kitOne
  rw [if_pos (by simp)]
theorem kit_int_bool {K : PySem.W.Frag} : PySem.W.kitOne K (.type "int") (.type "bool") = some false := by
  unfold PySem.W.kitOne
  rw [if_neg (by decide +kernel)]
  unfold PySem.W.kitCls
  rfl
theorem whole_int {K : PySem.W.Frag} {H : Hp} (i : Int) : WholeIs K H (.int i) true := ⟨.type "int", true, false, .int i, kit_same _, fun _ => kit_int_bool, rfl, fun _ => ⟨i, rfl⟩⟩
end Far
set_option Elab.async false
set_option linter.all false
set_option maxRecDepth 100000
set_option maxHeartbeats 4000000
namespace Far
open PySem L2
theorem few (x : CA) (a b : Int) : (cflds x a b).length < 1000 := by show 10 < 1000; decide
theorem mapAt {α β : Type} {f : α → β} {l : List α} {j : Nat} {y : α} (h : l[j]? = some y) : (l.map f)[j]? = some (f y) := by rw [List.getElem?_map, h]; rfl
theorem ixN_nat {n j : Nat} (h : j < n) : ixN n (j : Int) = some j := by
  unfold ixN
  rw [if_pos (by omega), if_pos (by omega)]
  rfl
theorem IsJob.wk {K : PySem.W.Frag} {H : Hp} {v : V} {J : Job} (hJ : IsJob K H v J) {w : Nat} {wk : Int × List Stp} (h : J[w]? = some wk) :
    ∃ (a : Addr) (ws : List V) (aw as : Addr) (sl : List V), v = .ref a ∧ SqT K H a ws ∧ ws[w]? = some (.ref aw) ∧ SqT K H aw [.int wk.1, .ref as] ∧ SqT K H as sl ∧ Paired (IsStp K H) sl wk.2 := by
  obtain ⟨a, ws, e, hq, hp⟩ := hJ
  obtain ⟨wv, hwv, aw, xw, rfl, hw1, as, sl, rfl, hs1, hps⟩ := pget hp h
  exact ⟨a, ws, aw, as, sl, e, hq, hwv, hw1, hs1, hps⟩
structure TxtC (K : PySem.W.Frag) (mg : Str → Option Value) (C : Addr) : Prop where
  cl : Cls K C
  n_jb : NoAttr K C "job"
  n_el : NoAttr K C "elders"
  n_aw : NoAttr K C "at_work"
  n_pl : NoAttr K C "piles"
  n_st : NoAttr K C "stands"
  n_lv : NoAttr K C "lives"
  n_nx : NoAttr K C "next_steps"
  n_sd : NoAttr K C "steps_done"
  n_now : NoAttr K C "room_now"
  n_most : NoAttr K C "room_most"
  mgCrew : mg "Crew" = some (.ref C)
  len : mg "len" = none
  max : mg "max" = none
  any : mg "any" = none
  zip : mg "zip" = none
  range : mg "range" = none
  min : mg "min" = none
  tuple : mg "tuple" = none
  isinstance : mg "isinstance" = none
  enumerate : mg "enumerate" = none
  repr : mg "repr" = none
  list : mg "list" = none
  int : mg "int" = none
  bool : mg "bool" = none
def toldV : Told → List V
  | .step w n => [.str "step", natV w, natV n]
  | .own w => [.str "own", natV w]
  | .took w o => [.str "took", natV w, natV o]
  | .missed o => [.str "missed", natV o]
section
variable (K : PySem.W.Frag) (C : Addr)
def spEnded : Sp := fun vs H Q _ => ∃ (x : CA) (J : Job) (c : Crew), vs = [.ref x.p] ∧ CrewAt K C H x J c ∧ 0 < c.lives.length ∧ Q (.bl (!livesAt c 0)) H
def spBegin : Sp := fun vs H Q _ => ∃ (x : CA) (J : Job) (c : Crew) (v : Nat), vs = [.ref x.p, natV v] ∧ CrewAt K C H x J c ∧ v < J.length ∧ c.lives.length = J.length ∧
  ∀ H', CrewAt K C H' x J (beginC J c v) → KeepC x H H' → Q .non H'
def spEnd : Sp := fun vs H Q _ => ∃ (x : CA) (J : Job) (c : Crew) (v : Nat), vs = [.ref x.p, natV v] ∧ CrewAt K C H x J c ∧ v < J.length ∧ c.lives.length = J.length ∧
  ∀ H', CrewAt K C H' x J (endC J c v) → KeepC x H H' → Q .non H'
def spHasKid : Sp := fun vs H Q _ => ∃ (x : CA) (J : Job) (c : Crew) (v : Nat), vs = [.ref x.p, natV v] ∧ CrewAt K C H x J c ∧ c.lives.length = J.length ∧ J.length ≤ 12 ∧
  ∀ H', Same H H' → Q (.bl (hasKid J c v)) H'
def spNoneLeft : Sp := fun vs H Q _ => ∃ (x : CA) (J : Job) (c : Crew) (v : Nat), vs = [.ref x.p, natV v] ∧ CrewAt K C H x J c ∧ c.nx.length = J.length ∧ v < J.length ∧
  Q (.bl (noneLeft J c v)) H
def spWaitsOr : Sp := fun vs H Q _ => ∃ (x : CA) (J : Job) (c : Crew) (v : Nat), vs = [.ref x.p, natV v] ∧ CrewAt K C H x J c ∧ c.nx.length = J.length ∧ v < J.length ∧ nxAt c v ≤ (stsOf J v).length ∧
  ∀ H', Same H H' → Q (.bl (waitsOr J c v)) H'
def spMust : Sp := fun vs H Q _ => ∃ (x : CA) (J : Job) (c : Crew) (o : Option Nat), vs = [.ref x.p, optV o] ∧ CrewAt K C H x J c ∧ c.lives.length = J.length ∧ J.length ≤ 12 ∧ c.nx.length = J.length ∧ (∀ v, o = some v → v < J.length ∧ nxAt c v ≤ (stsOf J v).length) ∧
  ∀ H', Same H H' → Q (.bl (mustLeave J c o)) H'
def spFore : Sp := fun vs H Q _ => ∃ (x : CA) (J : Job) (c : Crew) (n h o : Nat), vs = [.ref x.p, natV h, natV o] ∧ CrewAt K C H x J c ∧ c.hold.length = n ∧ c.piles.length = n ∧ h < n ∧ o < n ∧ (∀ v, holdAt c h = some v → v < c.nx.length) ∧
  ∀ T, H T = none → Q (.ref T) (upd H T (.tup (toldV (foretold c h o))))
def spSendOff : Sp := fun vs H Q _ => ∃ (x : CA) (J : Job) (c : Crew) (n h v k : Nat), vs = [.ref x.p, natV h, natV k] ∧ CrewAt K C H x J c ∧ Lens J n c ∧ h < n ∧ k < J.length ∧ v < J.length ∧ holdAt c h = some v ∧ (pileAt c h).length ≤ 100 ∧
  ∀ H', CrewAt K C H' x J (sendOff J c h v k) → KeepC x H H' → Q .non H'
def spLeave : Sp := fun vs H Q _ => ∃ (x : CA) (J : Job) (c : Crew) (n h v : Nat), vs = [.ref x.p, natV h] ∧ CrewAt K C H x J c ∧ Lens J n c ∧ JobOk 12 J ∧ h < n ∧ v < J.length ∧ holdAt c h = some v ∧
  ∀ H', CrewAt K C H' x J (leaveW J c h v) → KeepC x H H' → Q .non H'
def spSettle : Sp := fun vs H Q _ => ∃ (x : CA) (J : Job) (c : Crew) (n h : Nat), vs = [.ref x.p, natV h] ∧ CrewAt K C H x J c ∧ JobOk 12 J ∧ h < n ∧ CInv J n (fun u => holdAt c h = some u) c ∧
  ∀ H', CrewAt K C H' x J (settleC J (J.length + 1) c h) → KeepC x H H' → Q .non H'
def spDoStep : Sp := fun vs H Q _ => ∃ (x : CA) (J : Job) (c : Crew) (n h v : Nat), vs = [.ref x.p, natV h] ∧ CrewAt K C H x J c ∧ JobOk 12 J ∧ h < n ∧ CInv J n (fun _ => False) c ∧ holdAt c h = some v ∧
  ∀ H', CrewAt K C H' x J (doStep J c h v) → KeepC x H H' → Q .non H'
def spTakeT : Sp := fun vs H Q _ => ∃ (x : CA) (J : Job) (c : Crew) (n h o : Nat), vs = [.ref x.p, natV h, natV o] ∧ CrewAt K C H x J c ∧ JobOk 12 J ∧ h < n ∧ o < n ∧ CInv J n (fun _ => False) c ∧
  ∀ T H', H T = none → H' T = some (.tup (toldV (foretold c h o))) → CrewAt K C H' x J (turnC J c h (foretold c h o)) → KeepC x H H' → Q (.ref T) H'
def spInit : Sp := fun vs H Q _ => ∃ (p dx : Addr) (jv : V) (J : Job) (n : Nat), vs = [.ref p, jv, natV n] ∧ H p = some (.ins C dx []) ∧ IsJob K H jv J ∧ JobOk 12 J ∧ 0 < n ∧ n ≤ 100 ∧
  ∀ (x : CA) H', x.p = p → x.dx = dx → x.jv = jv → CrewAt K C H' x J (crew0 J n) → (∀ b o, H b = some o → b ≠ p → H' b = some o) → (∀ a ∈ lsts x, H a = none) → Q .non H'
end
def spIsWhole (K : PySem.W.Frag) : Sp := fun vs H Q _ => ∃ (v : V) (b : Bool), vs = [v] ∧ WholeIs K H v b ∧ Q (.bl b) H
def handB : V → Nat → Bool
  | .int i, n => decide (0 ≤ i) && decide (i < (n : Int))
  | _, _ => false
def spIsHand (K : PySem.W.Frag) : Sp := fun vs H Q _ => ∃ (v : V) (b : Bool) (n : Nat), vs = [v, natV n] ∧ WholeIs K H v b ∧ Q (.bl (b && handB v n)) H
def othersL (h n : Nat) : List Nat := (List.range n).filter fun o => !decide (o = h)
def looksL (h n : Nat) : List Nat := if (othersL h n).isEmpty = true then [0] else othersL h n
def inLooks : V → V → Nat → Bool
  | .int i, .int j, n => (looksL i.toNat n).contains j.toNat
  | _, _, _ => false
def turnB (bx bo : Bool) (x o : V) (n : Nat) : Bool := (bx && handB x n) && ((bo && handB o n) && inLooks x o n)
theorem hand_int {K : PySem.W.Frag} {H : Hp} {v : V} {b : Bool} {n : Nat} (h : WholeIs K H v b) (e : (b && handB v n) = true) : ∃ i, v = .int i ∧ 0 ≤ i ∧ i < (n : Int) := by
  obtain ⟨_, _, _, _, _, _, _, hi⟩ := h
  rw [Bool.and_eq_true] at e
  obtain ⟨i, rfl⟩ := hi e.1
  have e2 : (decide (0 ≤ i) && decide (i < (n : Int))) = true := e.2
  rw [Bool.and_eq_true, decide_eq_true_eq, decide_eq_true_eq] at e2
  exact ⟨i, rfl, e2.1, e2.2⟩
theorem isEmpty_map' {α β : Type} (f : α → β) (l : List α) : (l.map f).isEmpty = l.isEmpty := by cases l <;> rfl
def TurnIs (K : PySem.W.Frag) (H : Hp) (v : V) (n : Nat) (b : Bool) : Prop :=
  (∃ t, TyOf K H v t ∧ PySem.W.kitOne K t (.type "tuple") = some false ∧ b = false) ∨ (∃ a xs, v = .ref a ∧ H a = some (.tup xs) ∧ xs.length ≠ 2 ∧ xs.length < 1000 ∧ b = false) ∨
  ∃ a x o bx bo, v = .ref a ∧ H a = some (.tup [x, o]) ∧ WholeIs K H x bx ∧ WholeIs K H o bo ∧ b = turnB bx bo x o n
def spOther : Sp := fun vs H Q _ => ∃ (h n : Nat), vs = [natV h, natV n] ∧ n ≤ 100 ∧ ∀ p H', H p = none → Same H H' → H' p = some (.lst ((othersL h n).map natV)) → Q (.ref p) H'
def spLooks : Sp := fun vs H Q _ => ∃ (h n : Nat), vs = [natV h, natV n] ∧ n ≤ 100 ∧ ∀ p H', H p = none → Same H H' → H' p = some (.lst ((looksL h n).map natV)) → Q (.ref p) H'
def spIsTurn (K : PySem.W.Frag) : Sp := fun vs H Q _ => ∃ (v : V) (n : Nat) (b : Bool), vs = [v, natV n] ∧ n ≤ 100 ∧ TurnIs K H v n b ∧ ∀ H', Same H H' → Q (.bl b) H'
def stepT (J : Job) (c : Crew) (t : Nat × Nat) : Crew := turnC J c t.1 (foretold c t.1 t.2)
def endOf (J : Job) (c : Crew) (ts : List (Nat × Nat)) : Crew := ts.foldl (stepT J) c
def toldL (J : Job) : Crew → List (Nat × Nat) → List Told
  | _, [] => []
  | c, t :: r => foretold c t.1 t.2 :: toldL J (stepT J c t) r
structure GoodT (n : Nat) (t : Nat × Nat) : Prop where
  h : t.1 < n
  o : t.2 < n
  lk : (looksL t.1 n).contains t.2 = true
theorem GoodT.turn {n : Nat} {t : Nat × Nat} (g : GoodT n t) : turnB true true (natV t.1) (natV t.2) n = true := by
  have e1 : ∀ k : Nat, k < n → handB (natV k) n = true := fun k hk => by
    show (decide ((0 : Int) ≤ (k : Int)) && decide ((k : Int) < (n : Int))) = true
    rw [decide_eq_true (by omega), decide_eq_true (by omega)]; rfl
  unfold turnB
  rw [e1 _ g.h, e1 _ g.o]
  show (looksL ((t.1 : Nat) : Int).toNat n).contains ((t.2 : Nat) : Int).toNat = true
  rw [Int.toNat_natCast, Int.toNat_natCast]
  exact g.lk
def IsTold (H : Hp) (v : V) (t : Told) : Prop := ∃ a, v = .ref a ∧ H a = some (.tup (toldV t))
def spWoven (K : PySem.W.Frag) : Sp := fun vs H Q _ => ∃ (jv : V) (J : Job) (n : Nat) (Wa : Addr) (tvs : List V) (ts : List (Nat × Nat)), vs = [jv, natV n, .ref Wa] ∧ IsJob K H jv J ∧ JobOk 12 J ∧ 0 < n ∧ n ≤ 100 ∧ H Wa = some (.lst tvs) ∧ Paired (IsPr K H) tvs ts ∧ (∀ t ∈ ts, GoodT n t) ∧ ts.length ≤ 100000 ∧
  ∀ T L ls H', H T = none → H L = none → T ≠ L → Same H H' → H' T = some (.tup [.ref L, .bl (!livesAt (endOf J (crew0 J n) ts) 0)]) → H' L = some (.lst ls) → Paired (IsTold H') ls (toldL J (crew0 J n) ts) → Q (.ref T) H'
theorem nd_of_count : ∀ (l : List Nat), (∀ v, l.count v ≤ 1) → l.Nodup
  | [], _ => List.nodup_nil
  | a :: r, h => by
    refine List.nodup_cons.mpr ⟨fun hm => ?_, nd_of_count r fun v => ?_⟩
    · have h1 := h a
      rw [List.count_cons_self] at h1
      have : 0 < r.count a := List.count_pos_iff.mpr hm
      omega
    · have h1 := h v
      rw [List.count_cons] at h1
      omega
section
variable {J : Job} {n : Nat} {X : Nat → Prop} {c : Crew}
theorem CInv.flat_len (I : CInv J n X c) : c.piles.flatten.length ≤ J.length := by
  have nd : c.piles.flatten.Nodup := nd_of_count _ fun v => by
    have e := I.oc v
    have h2 : (if livesAt c v = true then 1 else 0) ≤ 1 := by split <;> decide
    unfold occ at e
    omega
  have := nodup_le c.piles.flatten (List.range J.length) nd fun v hv => List.mem_range.mpr (lives_lt I (pile_lives I hv))
  rwa [List.length_range] at this
theorem flat_part {l : List Nat} : ∀ {ch : List (List Nat)} {j : Nat}, ch[j]? = some l → l.length ≤ ch.flatten.length
  | [], _, h => by simp at h
  | a :: r, 0, h => by
    have e : a = l := by simpa using h
    subst e
    rw [List.flatten_cons, List.length_append]; omega
  | a :: r, j + 1, h => by
    have := flat_part (ch := r) (j := j) (by simpa using h)
    rw [List.flatten_cons, List.length_append]; omega
theorem CInv.pile_len (I : CInv J n X c) (h : Nat) : (pileAt c h).length ≤ J.length := by
  unfold pileAt
  cases e : c.piles[h]? with
  | none => exact Nat.zero_le _
  | some l => exact Nat.le_trans (flat_part e) I.flat_len
theorem CInv.done_len {most : Nat} (o : JobOk most J) (I : CInv J n X c) : c.done.length ≤ 8 * J.length := by
  refine Nat.le_trans (nodup_le c.done (allS 0 J) I.dnd fun t ht => ?_) (allS_len 0 J fun w hw => (o.sts w hw).2)
  have h1 := (I.dm t).mp ht
  have h2 := I.nxle t.1
  refine stp2_iff.mpr ?_
  unfold Stp2
  unfold stsOf at h2
  cases e : J[t.1]? with
  | none => rw [e] at h2; simp at h2; omega
  | some x => rw [e] at h2; simp at h2; exact ⟨x, rfl, by omega⟩
end
theorem stp_wait (s : Stp) : ∃ ds, (∀ (K : PySem.W.Frag) (H : Hp) (a : Addr), SqT K H a (stpV s) → Dp K H (.ref a) (.tuple ds)) ∧ SeqAt.shaped (.tuple ds) = true ∧ PyData.eqv (.tuple ds) (.tuple [.str "wait"]) = isWait (some s) := by
  cases s with
  | doo => exact ⟨[.str "do"], fun K H a h => .tup h (.cons (.str _) .nil), by decide +kernel, by decide +kernel⟩
  | wai => exact ⟨[.str "wait"], fun K H a h => .tup h (.cons (.str _) .nil), by decide +kernel, by decide +kernel⟩
  | snd k =>
    refine ⟨[.str "send", .int (k : Int)], fun K H a h => .tup h (.cons (.str _) (.cons (.int _) .nil)), ?_, ?_⟩
    · simp [SeqAt.shaped, PyData.canLay0, PyData.canLayAll0, PyData.depth, PyData.depthAll]
      decide +kernel
    · rfl
theorem map_take_succ {α β : Type} {f : α → β} {l : List α} {i : Nat} {y : α} (h : l[i]? = some y) : (l.take (i + 1)).map f = (l.take i).map f ++ [f y] := by
  rw [List.take_succ, h]
  simp
theorem zip_at {α β : Type} {l : List α} {m : List β} {i : Nat} {x : α} {y : β} (h1 : l[i]? = some x) (h2 : m[i]? = some y) : (l.zip m)[i]? = some (x, y) := List.getElem?_zip_eq_some.mpr ⟨h1, h2⟩
theorem mapAt' {α β : Type} {f : α → β} {l : List α} {j : Nat} {y : β} (h : (l.map f)[j]? = some y) : ∃ x, l[j]? = some x ∧ y = f x := by
  rw [List.getElem?_map] at h
  cases e : l[j]? with
  | none => rw [e] at h; cases h
  | some x => rw [e] at h; exact ⟨x, rfl, (Option.some.inj h).symm⟩
theorem holdAt_get {c : Crew} {h : Nat} (hl : h < c.hold.length) : c.hold[h]? = some (holdAt c h) := by
  unfold holdAt
  rw [List.getElem?_eq_getElem hl]
  rfl
theorem pileAt_get {c : Crew} {h : Nat} (hl : h < c.piles.length) : c.piles[h]? = some (pileAt c h) := by
  unfold pileAt
  rw [List.getElem?_eq_getElem hl]
  rfl
theorem nxAt_get {c : Crew} {h : Nat} (hl : h < c.nx.length) : c.nx[h]? = some (nxAt c h) := by
  unfold nxAt
  rw [List.getElem?_eq_getElem hl]
  rfl
theorem standsAt_get {c : Crew} {h : Nat} (hl : h < c.stands.length) : c.stands[h]? = some (standsAt c h) := by
  unfold standsAt
  rw [List.getElem?_eq_getElem hl]
  rfl
theorem ps_mid {X : Cx} {st : Stmt} {t : TS} (h : PS X st t) : PS X st (fun D σ H => ∃ R : St → Hp → Prop, t { D with nx := R } σ H ∧ ∀ σ' H', R σ' H' → D.nx σ' H') := by
  intro pins s σ H D I hh
  obtain ⟨R, h1, h2⟩ := hh
  refine thn (h pins s σ H { D with nx := R } I h1) fun f s' q => ?_
  cases f with
  | next =>
    obtain ⟨σ', H', I', r⟩ := q
    exact ⟨σ', H', I', h2 _ _ r⟩
  | brk => exact q
  | cont => exact q
  | ret u => exact q
theorem CrewAt.keepOut {K : PySem.W.Frag} {C : Addr} {H : Hp} {x : CA} {J : Job} {c : Crew} (A : CrewAt K C H x J c) {a : Addr} (h1 : a ≠ x.p) (h2 : a ∉ lsts x) {l l' : List V} (hl : H a = some (.lst l)) : CrewAt K C (upd H a (.lst l')) x J c := by
  have ne : ∀ (k : Nat) (b : Addr), (lsts x)[k]? = some b → b ≠ a := fun k b hk z => h2 (by rw [← z]; exact lst_in hk)
  obtain ⟨ss, s1, s2⟩ := A.sd
  exact ⟨by rw [upd_ne h1.symm]; exact A.ob, A.job.kt (KT.but (But.put _ _ _) hl), by rw [upd_ne (ne 0 _ rfl)]; exact A.el, by rw [upd_ne (ne 1 _ rfl)]; exact A.aw, by rw [upd_ne (ne 2 _ rfl)]; exact A.pl, pfar (fun hm => h2 (List.mem_append_right _ hm)) A.pi, by rw [upd_ne (ne 3 _ rfl)]; exact A.st, by rw [upd_ne (ne 4 _ rfl)]; exact A.lv, by rw [upd_ne (ne 5 _ rfl)]; exact A.nx, ⟨ss, by rw [upd_ne (ne 6 _ rfl)]; exact s1, ppr (KU.updL hl _) s2⟩, A.nd⟩
end Far
set_option Elab.async false
set_option linter.all false
set_option maxRecDepth 100000
set_option maxHeartbeats 4000000
namespace Far
open PySem L2
theorem tyof_same {K : PySem.W.Frag} {H H' : Hp} (s : Same H H') {v : V} {t : Value} (h : TyOf K H v t) : TyOf K H' v t := by
  cases h with
  | non => exact .non
  | bl x => exact .bl x
  | int i => exact .int i
  | str x => exact .str x
  | flt x => exact .flt x
  | lst e => exact .lst (s _ _ e)
  | frz e => exact .frz (s _ _ e)
  | tup e => exact .tup (s _ _ e)
  | dK e => exact .dK (s _ _ e)
  | dT e => exact .dT (s _ _ e)
  | ins e a b c d f => exact .ins (s _ _ e) a b c d f
theorem whole_same {K : PySem.W.Frag} {H H' : Hp} (s : Same H H') {v : V} {b : Bool} (h : WholeIs K H v b) : WholeIs K H' v b := by
  obtain ⟨t, bi, bb, ty, r⟩ := h
  exact ⟨t, bi, bb, tyof_same s ty, r⟩
def SameIs (K : PySem.W.Frag) (H : Hp) (v u : V) (b : Bool) : Prop := ∃ t bs bw, TyOf K H v t ∧ PySem.W.kitOne K t (.type "str") = some bs ∧ WholeIs K H v bw ∧ ((bs || bw) = true → scal v u = true) ∧ b = ((bs || bw) && decide (v = u))
theorem SameIs.same {K : PySem.W.Frag} {H H' : Hp} (s : Same H H') {v u : V} {b : Bool} (h : SameIs K H v u b) : SameIs K H' v u b := by
  obtain ⟨t, bs, bw, ty, k, wh, r⟩ := h
  exact ⟨t, bs, bw, tyof_same s ty, k, whole_same s wh, r⟩
def spIsSame (K : PySem.W.Frag) : Sp := fun vs H Q _ => ∃ (v u : V) (b : Bool), vs = [v, u] ∧ SameIs K H v u b ∧ Q (.bl b) H
def ToldIs (K : PySem.W.Frag) (H : Hp) (v : V) (t : Told) (b : Bool) : Prop :=
  (∃ ty, TyOf K H v ty ∧ PySem.W.kitOne K ty (.type "tuple") = some false ∧ b = false) ∨ (∃ a xs, v = .ref a ∧ H a = some (.tup xs) ∧ xs.length ≠ (toldV t).length ∧ xs.length < 1000 ∧ b = false) ∨
  ∃ (a : Addr) (xs : List V) (bs : List Bool), v = .ref a ∧ H a = some (.tup xs) ∧ xs.length = (toldV t).length ∧ (∀ (i : Nat) (x u : V), xs[i]? = some x → (toldV t)[i]? = some u → ∃ b', bs[i]? = some b' ∧ SameIs K H x u b') ∧ bs.length = xs.length ∧ b = bs.all id
theorem ToldIs.same {K : PySem.W.Frag} {H H' : Hp} (s : Same H H') {v : V} {t : Told} {b : Bool} (h : ToldIs K H v t b) : ToldIs K H' v t b := by
  rcases h with ⟨ty, h1, h2⟩ | ⟨a, xs, h1, h2, h3⟩ | ⟨a, xs, bs, h1, h2, h3, h4, h5⟩
  · exact .inl ⟨ty, tyof_same s h1, h2⟩
  · exact .inr (.inl ⟨a, xs, h1, s _ _ h2, h3⟩)
  · exact .inr (.inr ⟨a, xs, bs, h1, s _ _ h2, h3, fun i x u hx hu => let ⟨b', e1, e2⟩ := h4 i x u hx hu; ⟨b', e1, e2.same s⟩, h5⟩)
def spIsTold (K : PySem.W.Frag) : Sp := fun vs H Q _ => ∃ (v : V) (a : Addr) (t : Told) (b : Bool), vs = [v, .ref a] ∧ H a = some (.tup (toldV t)) ∧ ToldIs K H v t b ∧ ∀ H', Same H H' → Q (.bl b) H'
def RowIs (K : PySem.W.Frag) (H : Hp) (v : V) (n : Nat) (c : Crew) (r : Option (Nat × Nat)) : Prop :=
  (∃ ty, TyOf K H v ty ∧ PySem.W.kitOne K ty (.type "tuple") = some false ∧ r = none) ∨ (∃ a xs, v = .ref a ∧ H a = some (.tup xs) ∧ xs.length ≠ 2 ∧ xs.length < 1000 ∧ r = none) ∨
  ∃ a x u bx, v = .ref a ∧ H a = some (.tup [x, u]) ∧ WholeIs K H x bx ∧
    (((bx && handB x n) = false ∧ r = none) ∨ ∃ (h : Nat) (f : Nat → Bool), x = natV h ∧ bx = true ∧ h < n ∧ (∀ o, o < n → ToldIs K H u (foretold c h o) (f o)) ∧ r = ((looksL h n).find? f).map fun o => (h, o))
theorem RowIs.same {K : PySem.W.Frag} {H H' : Hp} (s : Same H H') {v : V} {n : Nat} {c : Crew} {r : Option (Nat × Nat)} (h : RowIs K H v n c r) : RowIs K H' v n c r := by
  rcases h with ⟨ty, h1, h2⟩ | ⟨a, xs, h1, h2, h3⟩ | ⟨a, x, u, bx, h1, h2, h3, h4⟩
  · exact .inl ⟨ty, tyof_same s h1, h2⟩
  · exact .inr (.inl ⟨a, xs, h1, s _ _ h2, h3⟩)
  · refine .inr (.inr ⟨a, x, u, bx, h1, s _ _ h2, whole_same s h3, ?_⟩)
    rcases h4 with h4 | ⟨hh, f, e1, e2, e3, e4, e5⟩
    · exact .inl h4
    · exact .inr ⟨hh, f, e1, e2, e3, fun o ho => (e4 o ho).same s, e5⟩
section
variable (K : PySem.W.Frag) (C : Addr)
def spLookT : Sp := fun vs H Q _ => ∃ (x : CA) (J : Job) (c : Crew) (n : Nat) (v : V) (r : Option (Nat × Nat)), vs = [.ref x.p, natV n, v] ∧ CrewAt K C H x J c ∧ CInv J n (fun _ => False) c ∧ 0 < n ∧ n ≤ 100 ∧ RowIs K H v n c r ∧
  ∀ H', Same H H' → Q (optV (r.map (·.2))) H'
end
def wrongF (J : Job) : Crew → List (Crew → Option (Nat × Nat)) → Nat → Option Nat
  | _, [], _ => none
  | c, f :: r, i => match f c with
    | none => some i
    | some t => wrongF J (stepT J c t) r (i + 1)
def spWrongAt (K : PySem.W.Frag) : Sp := fun vs H Q _ => ∃ (jv : V) (J : Job) (n : Nat) (Wa : Addr) (rvs : List V) (fs : List (Crew → Option (Nat × Nat))), vs = [jv, natV n, .ref Wa] ∧ IsJob K H jv J ∧ JobOk 12 J ∧ 0 < n ∧ n ≤ 100 ∧ H Wa = some (.lst rvs) ∧
  Paired (fun v f => ∀ c, CInv J n (fun _ => False) c → RowIs K H v n c (f c)) rvs fs ∧ ∀ H', Same H H' → Q (optV (wrongF J (crew0 J n) fs 0)) H'
def rowF (n : Nat) (h : Nat) (t : Told) : Crew → Option (Nat × Nat) := fun c => ((looksL h n).find? fun o => decide (toldV t = toldV (foretold c h o))).map fun o => (h, o)
def taleF (J : Job) (n : Nat) : Crew → List (Nat × Nat) → List (Crew → Option (Nat × Nat))
  | _, [] => []
  | c, t :: r => rowF n t.1 (foretold c t.1 t.2) :: taleF J n (stepT J c t) r
end Far
set_option Elab.async false
set_option linter.all false
set_option maxRecDepth 100000
set_option maxHeartbeats 4000000
namespace Far
open PySem L2
structure WA where
  d : Addr
  jv : V
  U : Addr
  NW : Addr
  HP : Addr
  AT : Addr
  SE : Addr
  SD : Addr
  hs : List Addr
def wlst (x : WA) : List Addr := [x.U, x.NW, x.HP, x.AT, x.SE, x.SD] ++ x.hs
def wkvs (x : WA) : List (Key × V) := [(.inr "job", x.jv), (.inr "up", .ref x.U), (.inr "now", .ref x.NW), (.inr "heaps", .ref x.HP), (.inr "at", .ref x.AT), (.inr "state", .ref x.SE), (.inr "stands", .ref x.SD)]
def StIs (ss : List Str) (c : Crew) : Prop := ss.length = c.lives.length ∧ ∀ (w : Nat) (s : Str), ss[w]? = some s → decide (s = "lives") = livesAt c w
structure WorldAt (K : PySem.W.Frag) (H : Hp) (x : WA) (J : Job) (c : Crew) : Prop where
  dic : H x.d = some (.dK (wkvs x))
  job : IsJob K H x.jv J
  up : H x.U = some (.lst ((parL J).map optV))
  nw : H x.NW = some (.lst (c.hold.map optV))
  hp : H x.HP = some (.lst (x.hs.map V.ref))
  pi : Paired (fun a l => H a = some (.lst (l.map natV))) x.hs c.piles
  at_ : H x.AT = some (.lst (c.nx.map natV))
  se : ∃ ss : List Str, H x.SE = some (.lst (ss.map V.str)) ∧ StIs ss c
  sd : H x.SD = some (.lst (c.stands.map V.bl))
  nd : (wlst x).Nodup
def KeepW (x : WA) (H H' : Hp) : Prop := ∀ b o, H b = some o → b ∉ wlst x → H' b = some o
theorem KeepW.refl (x : WA) (H : Hp) : KeepW x H H := fun _ _ h _ => h
theorem KeepW.trans {x : WA} {H H1 H2 : Hp} (a : KeepW x H H1) (b : KeepW x H1 H2) : KeepW x H H2 := fun c o h n => b c o (a c o h n) n
theorem KeepW.of {x : WA} {H H' : Hp} (s : Same H H') : KeepW x H H' := fun b o h _ => s b o h
theorem KeepW.put {x : WA} {a : Addr} (h : a ∈ wlst x) (H : Hp) (o : HO) : KeepW x H (upd H a o) := fun b u e m => by rw [upd_ne fun z => m (by rw [z]; exact h)]; exact e
section
variable {K : PySem.W.Frag} {H H' : Hp} {x : WA} {J : Job} {c : Crew}
theorem WorldAt.get (A : WorldAt K H x J c) {k : Str} {v : V} (e : valV (wkvs x) (.inr k) = some v) : DGet H x.d (.str k) (some v) := by
  rw [← e]
  exact DGet.k (k := .inr k) A.dic
theorem WorldAt.lst_ (A : WorldAt K H x J c) {a : Addr} (h : a ∈ wlst x) : ∃ l, H a = some (.lst l) := by
  unfold wlst at h
  rcases List.mem_append.mp h with q | q
  · simp only [List.mem_cons, List.not_mem_nil, or_false] at q
    rcases q with e | e | e | e | e | e
    · exact ⟨_, e ▸ A.up⟩
    · exact ⟨_, e ▸ A.nw⟩
    · exact ⟨_, e ▸ A.hp⟩
    · exact ⟨_, e ▸ A.at_⟩
    · obtain ⟨ss, h1, _⟩ := A.se; exact ⟨_, e ▸ h1⟩
    · exact ⟨_, e ▸ A.sd⟩
  · exact plst_mem q A.pi
theorem WorldAt.out (A : WorldAt K H x J c) {b : Addr} {o : HO} (h : H b = some o) (h1 : ∀ l, o ≠ .lst l) : b ∉ wlst x := fun m => by
  obtain ⟨l, e⟩ := A.lst_ m
  rw [e] at h
  exact h1 l (Option.some.inj h).symm
theorem WorldAt.ku (A : WorldAt K H x J c) (k : KeepW x H H') : KU H H' := fun b xs h => k b _ h (A.out h (fun _ z => nomatch z))
theorem WorldAt.kt (A : WorldAt K H x J c) (k : KeepW x H H') : KT K H H' := fun b xs h => by
  rcases h with (h | ⟨o, h⟩) | h
  · exact .inl (.inl (k b _ h (A.out h (fun _ z => nomatch z))))
  · exact .inl (.inr ⟨o, k b _ h (A.out h (fun _ z => nomatch z))⟩)
  · exact .inr h
theorem WorldAt.same (A : WorldAt K H x J c) (s : Same H H') : WorldAt K H' x J c :=
  ⟨s _ _ A.dic, A.job.kt (KT.same s), s _ _ A.up, s _ _ A.nw, s _ _ A.hp, Paired.mapP A.pi fun _ _ h => s _ _ h, s _ _ A.at_, let ⟨ss, h1, h2⟩ := A.se; ⟨ss, s _ _ h1, h2⟩, s _ _ A.sd, A.nd⟩
theorem WorldAt.dNe (A : WorldAt K H x J c) {a : Addr} (h : a ∈ wlst x) : x.d ≠ a := by
  obtain ⟨l, e⟩ := A.lst_ h
  exact ne_of A.dic e (fun z => nomatch z)
theorem wlst_in {i : Nat} {a : Addr} (h : (wlst x)[i]? = some a) : a ∈ wlst x := List.mem_of_getElem? h
theorem WorldAt.far (A : WorldAt K H x J c) {i : Nat} {a : Addr} (hi : (wlst x)[i]? = some a) (h6 : i < 6) (o : HO) :
    (upd H a o) x.d = some (.dK (wkvs x)) ∧ IsJob K (upd H a o) x.jv J ∧ (∀ k b, (wlst x)[k]? = some b → k ≠ i → (upd H a o) b = H b) ∧ Paired (fun a' l => (upd H a o) a' = some (.lst (l.map natV))) x.hs c.piles := by
  have ne : ∀ (k : Nat) (b : Addr), (wlst x)[k]? = some b → k ≠ i → b ≠ a := fun k b hk h0 => nd_ne A.nd hk hi h0
  have hm := wlst_in hi
  refine ⟨by rw [upd_ne (A.dNe hm)]; exact A.dic, A.job.kt (A.kt (KeepW.put hm H o)), fun k b hk h0 => upd_ne (ne k b hk h0), pfar (fun hmm => ?_) A.pi⟩
  obtain ⟨k, hk⟩ := List.getElem?_of_mem hmm
  exact ne (k + 6) a hk (by omega) rfl
theorem WorldAt.setPile (A : WorldAt K H x J c) {j : Nat} {a : Addr} (hj : x.hs[j]? = some a) (l : List Nat) : WorldAt K (upd H a (.lst (l.map natV))) x J { c with piles := c.piles.set j l } := by
  have hi : (wlst x)[j + 6]? = some a := hj
  have ne : ∀ (k : Nat) (b : Addr), (wlst x)[k]? = some b → k < 6 → b ≠ a := fun k b hk h7 => nd_ne A.nd hk hi (by omega)
  have hm := wlst_in hi
  refine ⟨by rw [upd_ne (A.dNe hm)]; exact A.dic, A.job.kt (A.kt (KeepW.put hm H _)), by rw [upd_ne (ne 0 _ rfl (by decide))]; exact A.up, by rw [upd_ne (ne 1 _ rfl (by decide))]; exact A.nw, by rw [upd_ne (ne 2 _ rfl (by decide))]; exact A.hp, pput j ?_ hj A.pi, by rw [upd_ne (ne 3 _ rfl (by decide))]; exact A.at_, by rw [upd_ne (ne 4 _ rfl (by decide))]; exact A.se, by rw [upd_ne (ne 5 _ rfl (by decide))]; exact A.sd, A.nd⟩
  exact (List.nodup_append.mp A.nd).2.1
theorem WorldAt.pile (A : WorldAt K H x J c) {j : Nat} {l : List Nat} (h : c.piles[j]? = some l) : ∃ a, x.hs[j]? = some a ∧ H a = some (.lst (l.map natV)) ∧ (x.hs.map V.ref)[j]? = some (.ref a) := by
  obtain ⟨a, e, r⟩ := pget A.pi h
  exact ⟨a, e, r, by rw [List.getElem?_map, e]; rfl⟩
theorem WorldAt.keepOut (A : WorldAt K H x J c) {L : Addr} {o : HO} (h2 : L ∉ wlst x) (hd : L ≠ x.d) (hu : KT K H (upd H L o)) : WorldAt K (upd H L o) x J c := by
  have ne : ∀ b ∈ wlst x, b ≠ L := fun b hb z => h2 (by rw [← z]; exact hb)
  refine ⟨by rw [upd_ne hd.symm]; exact A.dic, A.job.kt hu, by rw [upd_ne (ne _ (wlst_in (i := 0) rfl))]; exact A.up, by rw [upd_ne (ne _ (wlst_in (i := 1) rfl))]; exact A.nw, by rw [upd_ne (ne _ (wlst_in (i := 2) rfl))]; exact A.hp, pfar (fun hm => h2 (List.mem_append_right _ hm)) A.pi, by rw [upd_ne (ne _ (wlst_in (i := 3) rfl))]; exact A.at_, by rw [upd_ne (ne _ (wlst_in (i := 4) rfl))]; exact A.se, by rw [upd_ne (ne _ (wlst_in (i := 5) rfl))]; exact A.sd, A.nd⟩
end
theorem StIs.set {ss : List Str} {c : Crew} (h : StIs ss c) {w : Nat} (s : Str) (b : Bool) (hw : w < c.lives.length) (e : decide (s = "lives") = b) : StIs (ss.set w s) { c with lives := c.lives.set w b } := by
  refine ⟨by rw [List.length_set, h.1]; exact (List.length_set).symm, fun v t hv => ?_⟩
  unfold livesAt
  show _ = ((c.lives.set w b)[v]?).getD false
  by_cases cw : w = v
  · subst cw
    rw [List.getElem?_set_self (by rw [h.1]; exact hw)] at hv
    rw [List.getElem?_set_self hw, ← Option.some.inj hv]
    exact e
  · rw [List.getElem?_set_ne cw] at hv
    rw [List.getElem?_set_ne cw]
    exact h.2 v t hv
section
variable (K : PySem.W.Frag)
def spWorld : Sp := fun vs H Q _ => ∃ (jv : V) (J : Job) (n : Nat), vs = [jv, natV n] ∧ IsJob K H jv J ∧ JobOk 12 J ∧ 0 < n ∧ n ≤ 100 ∧
  ∀ (x : WA) H', H x.d = none → Same H H' → (∀ a ∈ wlst x, H a = none) → WorldAt K H' x J (crew0 J n) → Q (.ref x.d) H'
def spWHeld : Sp := fun vs H Q _ => ∃ (x : WA) (J : Job) (c : Crew) (v : Nat), vs = [.ref x.d, natV v] ∧ WorldAt K H x J c ∧ v < J.length ∧ c.nx.length = J.length ∧ nxAt c v ≤ (stsOf J v).length ∧ ∀ H', Same H H' → Q (.bl (waitsOr J c v)) H'
def spWKid : Sp := fun vs H Q _ => ∃ (x : WA) (J : Job) (c : Crew) (v : Nat), vs = [.ref x.d, natV v] ∧ WorldAt K H x J c ∧ J.length ≤ 12 ∧ c.lives.length = J.length ∧ ∀ H', Same H H' → Q (.bl (hasKid J c v)) H'
def spWSettle : Sp := fun vs H Q _ => ∃ (x : WA) (J : Job) (c : Crew) (n h : Nat), vs = [.ref x.d, natV h] ∧ WorldAt K H x J c ∧ JobOk 12 J ∧ h < n ∧ CInv J n (fun u => holdAt c h = some u) c ∧
  ∀ H', WorldAt K H' x J (settleC J (J.length + 1) c h) → KeepW x H H' → Q .non H'
def spWGo : Sp := fun vs H Q _ => ∃ (x : WA) (J : Job) (c : Crew) (n h o : Nat), vs = [.ref x.d, natV h, natV o] ∧ WorldAt K H x J c ∧ JobOk 12 J ∧ h < n ∧ o < n ∧ CInv J n (fun _ => False) c ∧
  ∀ T H', H T = none → H' T = some (.tup (toldV (foretold c h o))) → WorldAt K H' x J (turnC J c h (foretold c h o)) → KeepW x H H' → Q (.ref T) H'
end
end Far
set_option Elab.async false
set_option linter.all false
set_option maxRecDepth 100000
set_option maxHeartbeats 4000000
namespace Far
open PySem L2
structure Mkg (H0 Hk : Hp) (p : Addr) (o : HO) (al : List (Addr × HO)) : Prop where
  ob : Hk p = some o
  kp : ∀ b u, H0 b = some u → b ≠ p → Hk b = some u
  li : ∀ e ∈ al, Hk e.1 = some e.2
  fr : ∀ e ∈ al, H0 e.1 = none ∧ e.1 ≠ p
  nd : (al.map (·.1)).Nodup
section
variable {H0 Hk H2 : Hp} {p : Addr} {o o' : HO} {al : List (Addr × HO)}
theorem Mkg.start (h : H0 p = some o) : Mkg H0 H0 p o [] := ⟨h, fun _ _ h _ => h, fun _ z => (nomatch z), fun _ z => (nomatch z), List.nodup_nil⟩
theorem Mkg.same (m : Mkg H0 Hk p o al) (s : Same Hk H2) : Mkg H0 H2 p o al := ⟨s _ _ m.ob, fun b u h n => s _ _ (m.kp b u h n), fun e he => s _ _ (m.li e he), m.fr, m.nd⟩
theorem Mkg.free (m : Mkg H0 Hk p o al) {q : Addr} (h : Hk q = none) : H0 q = none ∧ q ≠ p := by
  have hp : q ≠ p := fun z => by rw [z, m.ob] at h; cases h
  refine ⟨?_, hp⟩
  cases e : H0 q with
  | none => rfl
  | some u => rw [m.kp q u e hp] at h; cases h
theorem Mkg.adds (m : Mkg H0 Hk p o al) (s : Same Hk H2) (nw : List (Addr × HO)) (nd : (nw.map (·.1)).Nodup) (h : ∀ e ∈ nw, H2 e.1 = some e.2 ∧ Hk e.1 = none) : Mkg H0 H2 p o (nw ++ al) := by
  refine ⟨s _ _ m.ob, fun b u h n => s _ _ (m.kp b u h n), fun e he => ?_, fun e he => ?_, ?_⟩
  · rcases List.mem_append.mp he with q | q
    · exact (h e q).1
    · exact s _ _ (m.li e q)
  · rcases List.mem_append.mp he with q | q
    · exact m.free (h e q).2
    · exact m.fr e q
  · rw [List.map_append]
    refine List.nodup_append.mpr ⟨nd, m.nd, ?_⟩
    rintro a ha b hb rfl
    obtain ⟨e, he, rfl⟩ := List.mem_map.mp ha
    obtain ⟨e2, he2, ee⟩ := List.mem_map.mp hb
    have h1 := (h e he).2
    have h2 := m.li e2 he2
    rw [ee, h1] at h2
    cases h2
theorem Mkg.new (m : Mkg H0 Hk p o al) {q : Addr} (h : Hk q = none) (u : HO) : Mkg H0 (upd Hk q u) p o ((q, u) :: al) :=
  m.adds (same_new h u) [(q, u)] (by simp) fun e he => by
    rw [List.mem_singleton.mp he]
    exact ⟨upd_same, h⟩
theorem Mkg.put (m : Mkg H0 Hk p o al) (o' : HO) : Mkg H0 (upd Hk p o') p o' al :=
  ⟨upd_same, fun b u h n => by rw [upd_ne n]; exact m.kp b u h n, fun e he => by rw [upd_ne (m.fr e he).2]; exact m.li e he, m.fr, m.nd⟩
theorem Mkg.kt {K : PySem.W.Frag} {C dx : Addr} {fs : List (Str × V)} (m : Mkg H0 Hk p o al) (h : H0 p = some (.ins C dx fs)) : KT K H0 Hk := fun b xs hb => by
  have ne : ∀ u, H0 b = some u → (∀ C d f, u ≠ .ins C d f) → b ≠ p := fun u e n z => by
    rw [z, h] at e
    exact n C dx fs (Option.some.inj e).symm
  rcases hb with (hb | ⟨ob, hb⟩) | hb
  · exact .inl (.inl (m.kp b _ hb (ne _ hb fun _ _ _ z => nomatch z)))
  · exact .inl (.inr ⟨ob, m.kp b _ hb (ne _ hb fun _ _ _ z => nomatch z)⟩)
  · exact .inr hb
end
theorem pf_app {f : Str} {v : V} : ∀ {l : List (Str × V)}, (l.all fun e => !decide (e.1 = f)) = true → putF f v l = l ++ [(f, v)]
  | [], _ => rfl
  | (k, y) :: r, h => by
    simp only [List.all_cons, Bool.and_eq_true, Bool.not_eq_true', decide_eq_false_iff_not] at h
    exact pf_ne h.1 (pf_app (by simpa using h.2))
theorem rep_flat {α : Type} (n : Nat) (a : α) : (List.replicate n [a]).flatten = List.replicate n a := by
  induction n with
  | zero => rfl
  | succ m ih => rw [List.replicate_succ, List.flatten_cons, ih]; rfl
theorem settle_stop {J : Job} {c : Crew} {h : Nat} (m : Nat) (e : mustLeave J c (holdAt c h) = false) : settleC J m c h = c := by
  cases m with
  | zero => rfl
  | succ k =>
    unfold settleC
    cases e0 : holdAt c h with
    | none => rfl
    | some w =>
      rw [e0] at e
      show (if mustLeave J c (some w) = true then _ else c) = c
      rw [e]
      rfl
theorem settle_go {J : Job} {c : Crew} {h w : Nat} (m : Nat) (e0 : holdAt c h = some w) (e : mustLeave J c (some w) = true) : settleC J (m + 1) c h = settleC J m (leaveW J c h w) h := by
  rw [settleC, e0]
  show (if mustLeave J c (some w) = true then _ else c) = _
  rw [if_pos e]
theorem fore_step {c : Crew} {h o w n : Nat} (e : foretold c h o = .step w n) : holdAt c h = some w := by
  unfold foretold at e
  cases q : holdAt c h with
  | some v => rw [q] at e; injection e with e1; rw [e1]
  | none =>
    rw [q] at e
    dsimp only at e
    cases q2 : (pileAt c h).getLast? with
    | some v => rw [q2] at e; cases e
    | none =>
      rw [q2] at e
      dsimp only at e
      cases q3 : (pileAt c o).head? with
      | some v => rw [q3] at e; cases e
      | none => rw [q3] at e; cases e
theorem fore_own {c : Crew} {h o w : Nat} (e : foretold c h o = .own w) : holdAt c h = none ∧ ∃ l, pileAt c h = l ++ [w] := by
  unfold foretold at e
  cases q : holdAt c h with
  | some v => rw [q] at e; cases e
  | none =>
    rw [q] at e
    dsimp only at e
    cases q2 : (pileAt c h).getLast? with
    | some v =>
      rw [q2] at e
      injection e with e1
      subst e1
      exact ⟨rfl, List.getLast?_eq_some_iff.mp q2⟩
    | none =>
      rw [q2] at e
      dsimp only at e
      cases q3 : (pileAt c o).head? with
      | some v => rw [q3] at e; cases e
      | none => rw [q3] at e; cases e
theorem fore_took {c : Crew} {h o w o' : Nat} (e : foretold c h o = .took w o') : o' = o ∧ holdAt c h = none ∧ pileAt c h = [] ∧ ∃ l, pileAt c o = w :: l := by
  unfold foretold at e
  cases q : holdAt c h with
  | some v => rw [q] at e; cases e
  | none =>
    rw [q] at e
    dsimp only at e
    cases q2 : (pileAt c h).getLast? with
    | some v => rw [q2] at e; cases e
    | none =>
      rw [q2] at e
      dsimp only at e
      cases q3 : (pileAt c o).head? with
      | some v =>
        rw [q3] at e
        injection e with e1 e2
        subst e1
        refine ⟨e2.symm, rfl, List.getLast?_eq_none_iff.mp q2, ?_⟩
        cases q4 : pileAt c o with
        | nil => rw [q4] at q3; cases q3
        | cons a b => rw [q4] at q3; cases q3; exact ⟨b, rfl⟩
      | none => rw [q3] at e; cases e
theorem mem_drop2 {α : Type} {a b e : α} {al : List α} (he : e ∈ a :: al) : e ∈ a :: b :: al := by
  rcases List.mem_cons.mp he with z | z
  · exact List.mem_cons.mpr (.inl z)
  · exact List.mem_cons_of_mem _ (List.mem_cons_of_mem _ z)
theorem Mkg.drop2 {H0 Hk : Hp} {p : Addr} {o : HO} {a b : Addr × HO} {al : List (Addr × HO)} (m : Mkg H0 Hk p o (a :: b :: al)) : Mkg H0 Hk p o (a :: al) :=
  ⟨m.ob, m.kp, fun e he => m.li e (mem_drop2 he), fun e he => m.fr e (mem_drop2 he), by
    have h := m.nd
    rw [List.map_cons, List.map_cons] at h
    rw [List.map_cons]
    have h1 := List.nodup_cons.mp h
    exact List.nodup_cons.mpr ⟨fun z => h1.1 (List.mem_cons_of_mem _ z), (List.nodup_cons.mp h1.2).2⟩⟩
theorem pf_keys {f : Str} {v : V} {l : List (Str × V)} (ks : List Str) (h : (ks.all fun k => !decide (k = f)) = true) (e : l.map (·.1) = ks) : putF f v l = l ++ [(f, v)] :=
  pf_app (by subst e; rw [List.all_map] at h; exact h)
end Far
set_option Elab.async false
set_option linter.all false
set_option maxRecDepth 100000
set_option maxHeartbeats 4000000
namespace Far
open PySem L2
section
variable (K : PySem.W.Frag)
def spOvers : Sp := fun vs H Q _ => ∃ (jv : V) (J : Job) (A : Addr) (c : Crew), vs = [jv, .ref A] ∧ IsJob K H jv J ∧ JobOk 12 J ∧ H A = some (.lst (c.nx.map natV)) ∧ c.nx.length = J.length ∧
  ∀ p H', H p = none → Same H H' → H' p = some (.lst (((List.range J.length).map (over J c)).map V.bl)) → Q (.ref p) H'
def spLSent : Sp := fun vs H Q _ => ∃ (jv : V) (J : Job) (A : Addr) (c : Crew) (v : Nat), vs = [jv, .ref A, natV v] ∧ IsJob K H jv J ∧ JobOk 12 J ∧ H A = some (.lst (c.nx.map natV)) ∧ c.nx.length = J.length ∧ v < J.length ∧ nxAt c v ≤ (stsOf J v).length ∧
  ∀ p H', H p = none → Same H H' → H' p = some (.lst ((kids ((stsOf J v).take (nxAt c v))).map natV)) → Q (.ref p) H'
def spHeld : Sp := fun vs H Q _ => ∃ (jv : V) (J : Job) (A : Addr) (c : Crew) (v : Nat), vs = [jv, .ref A, natV v] ∧ IsJob K H jv J ∧ JobOk 12 J ∧ H A = some (.lst (c.nx.map natV)) ∧ c.nx.length = J.length ∧ v < J.length ∧ nxAt c v ≤ (stsOf J v).length ∧
  ∀ H', Same H H' → Q (.bl (waitsOr J c v)) H'
def spKept : Sp := fun vs H Q _ => ∃ (jv : V) (J : Job) (A : Addr) (c : Crew) (v : Nat), vs = [jv, .ref A, natV v] ∧ IsJob K H jv J ∧ JobOk 12 J ∧ H A = some (.lst (c.nx.map natV)) ∧ c.nx.length = J.length ∧ v < J.length ∧ nxAt c v ≤ (stsOf J v).length ∧
  ∀ H', Same H H' → Q (.bl (keptOff J c v)) H'
end
end Far
set_option Elab.async false
set_option linter.all false
set_option maxRecDepth 100000
set_option maxHeartbeats 4000000
namespace Far
open PySem L2
structure LA where
  S : Addr
  A : Addr
  Hd : Addr
  Pl : Addr
  ps : List Addr
def llst (y : LA) : List Addr := [y.A, y.Hd, y.Pl] ++ y.ps
structure LawAt (H : Hp) (y : LA) (c : Crew) : Prop where
  st : H y.S = some (.tup [.ref y.A, .ref y.Hd, .ref y.Pl])
  nx : H y.A = some (.lst (c.nx.map natV))
  hd : H y.Hd = some (.lst (c.hold.map optV))
  pl : H y.Pl = some (.lst (y.ps.map V.ref))
  pi : Paired (fun a l => H a = some (.lst (l.map natV))) y.ps c.piles
  nd : (llst y).Nodup
def KeepL (y : LA) (H H' : Hp) : Prop := ∀ b o, H b = some o → b ∉ llst y → H' b = some o
theorem KeepL.refl (y : LA) (H : Hp) : KeepL y H H := fun _ _ h _ => h
theorem KeepL.trans {y : LA} {H H1 H2 : Hp} (a : KeepL y H H1) (b : KeepL y H1 H2) : KeepL y H H2 := fun c o h n => b c o (a c o h n) n
theorem KeepL.of {y : LA} {H H' : Hp} (s : Same H H') : KeepL y H H' := fun b o h _ => s b o h
theorem KeepL.put {y : LA} {a : Addr} (h : a ∈ llst y) (H : Hp) (o : HO) : KeepL y H (upd H a o) := fun b u e m => by rw [upd_ne fun z => m (by rw [z]; exact h)]; exact e
section
variable {K : PySem.W.Frag} {H H' : Hp} {y : LA} {c : Crew}
theorem LawAt.lst_ (A : LawAt H y c) {a : Addr} (h : a ∈ llst y) : ∃ l, H a = some (.lst l) := by
  unfold llst at h
  rcases List.mem_append.mp h with q | q
  · simp only [List.mem_cons, List.not_mem_nil, or_false] at q
    rcases q with e | e | e
    · exact ⟨_, e ▸ A.nx⟩
    · exact ⟨_, e ▸ A.hd⟩
    · exact ⟨_, e ▸ A.pl⟩
  · exact plst_mem q A.pi
theorem LawAt.out (A : LawAt H y c) {b : Addr} {o : HO} (h : H b = some o) (h1 : ∀ l, o ≠ .lst l) : b ∉ llst y := fun m => by
  obtain ⟨l, e⟩ := A.lst_ m
  rw [e] at h
  exact h1 l (Option.some.inj h).symm
theorem LawAt.ku (A : LawAt H y c) (k : KeepL y H H') : KU H H' := fun b xs h => k b _ h (A.out h (fun _ z => nomatch z))
theorem LawAt.kt (A : LawAt H y c) (k : KeepL y H H') : KT K H H' := fun b xs h => by
  rcases h with (h | ⟨o, h⟩) | h
  · exact .inl (.inl (k b _ h (A.out h (fun _ z => nomatch z))))
  · exact .inl (.inr ⟨o, k b _ h (A.out h (fun _ z => nomatch z))⟩)
  · exact .inr h
theorem LawAt.same (A : LawAt H y c) (s : Same H H') : LawAt H' y c := ⟨s _ _ A.st, s _ _ A.nx, s _ _ A.hd, s _ _ A.pl, Paired.mapP A.pi fun _ _ h => s _ _ h, A.nd⟩
theorem LawAt.stNe (A : LawAt H y c) {a : Addr} (h : a ∈ llst y) : y.S ≠ a := by
  obtain ⟨l, e⟩ := A.lst_ h
  exact ne_of A.st e (fun z => nomatch z)
theorem llst_in {i : Nat} {a : Addr} (h : (llst y)[i]? = some a) : a ∈ llst y := List.mem_of_getElem? h
theorem LawAt.setNX (A : LawAt H y c) (l : List Nat) : LawAt (upd H y.A (.lst (l.map natV))) y { c with nx := l } := by
  have ne : ∀ (k : Nat) (b : Addr), (llst y)[k]? = some b → k ≠ 0 → b ≠ y.A := fun k b hk h0 => nd_ne A.nd hk (j := 0) rfl h0
  refine ⟨by rw [upd_ne (A.stNe (llst_in (i := 0) rfl))]; exact A.st, upd_same, by rw [upd_ne (ne 1 _ rfl (by decide))]; exact A.hd, by rw [upd_ne (ne 2 _ rfl (by decide))]; exact A.pl, pfar (fun hm => ?_) A.pi, A.nd⟩
  obtain ⟨k, hk⟩ := List.getElem?_of_mem hm
  exact ne (k + 3) _ hk (by omega) rfl
theorem LawAt.setPile (A : LawAt H y c) {j : Nat} {a : Addr} (hj : y.ps[j]? = some a) (l : List Nat) : LawAt (upd H a (.lst (l.map natV))) y { c with piles := c.piles.set j l } := by
  have hi : (llst y)[j + 3]? = some a := hj
  have ne : ∀ (k : Nat) (b : Addr), (llst y)[k]? = some b → k < 3 → b ≠ a := fun k b hk h7 => nd_ne A.nd hk hi (by omega)
  refine ⟨by rw [upd_ne (A.stNe (llst_in hi))]; exact A.st, by rw [upd_ne (ne 0 _ rfl (by decide))]; exact A.nx, by rw [upd_ne (ne 1 _ rfl (by decide))]; exact A.hd, by rw [upd_ne (ne 2 _ rfl (by decide))]; exact A.pl, pput j ?_ hj A.pi, A.nd⟩
  exact (List.nodup_append.mp A.nd).2.1
theorem LawAt.pile (A : LawAt H y c) {j : Nat} {l : List Nat} (h : c.piles[j]? = some l) : ∃ a, y.ps[j]? = some a ∧ H a = some (.lst (l.map natV)) ∧ (y.ps.map V.ref)[j]? = some (.ref a) := by
  obtain ⟨a, e, r⟩ := pget A.pi h
  exact ⟨a, e, r, by rw [List.getElem?_map, e]; rfl⟩
end
def natD (k : Nat) : PyData := .int (k : Int)
theorem dp_nats {K : PySem.W.Frag} {H : Hp} : ∀ l : List Nat, DpAll K H (l.map natV) (l.map natD)
  | [] => .nil
  | _ :: r => .cons (.int _) (dp_nats r)
theorem nats_lay : ∀ l : List Nat, PyData.canLayAll0 (l.map natD) = true
  | [] => by simp only [List.map_nil, PyData.canLayAll0]
  | _ :: r => by simp only [List.map_cons, PyData.canLayAll0, natD, PyData.canLay0, nats_lay r, Bool.and_self]
theorem nats_depth : ∀ l : List Nat, PyData.depthAll (l.map natD) ≤ 1
  | [] => by simp [PyData.depthAll]
  | _ :: r => by
    have := nats_depth r
    simp only [List.map_cons, PyData.depthAll, natD, PyData.depth]
    omega
theorem nats_shaped (l : List Nat) : SeqAt.shaped (.list (l.map natD)) = true := by
  unfold SeqAt.shaped
  have := nats_depth l
  have h : (PyData.list (l.map natD)).depth ≤ 64 := by simp only [PyData.depth]; omega
  simp only [PyData.canLay0, nats_lay, Bool.true_and, decide_eq_true_eq]
  exact h
section
variable (K : PySem.W.Frag)
def spLSettle : Sp := fun vs H Q _ => ∃ (jv : V) (J : Job) (U : Addr) (y : LA) (c : Crew) (n h : Nat), vs = [jv, .ref U, .ref y.S, natV h] ∧ IsJob K H jv J ∧ JobOk 12 J ∧ H U = some (.lst ((parL J).map optV)) ∧ LawAt H y c ∧ U ∉ llst y ∧
  c.hold.length = n ∧ n ≤ 100 ∧ h < n ∧ c.nx.length = J.length ∧ (∀ v, nxAt c v ≤ (stsOf J v).length) ∧ (∀ u, holdAt c h = some u → u < J.length) ∧ c.piles.flatten.length ≤ 100 ∧
  ∀ H', LawAt H' y (lawSet J (J.length + 1) c h) → KeepL y H H' → Q .non H'
def spGo : Sp := fun vs H Q _ => ∃ (jv : V) (J : Job) (U : Addr) (y : LA) (c : Crew) (n h o : Nat), vs = [jv, .ref U, .ref y.S, natV h, natV o] ∧ IsJob K H jv J ∧ JobOk 12 J ∧ H U = some (.lst ((parL J).map optV)) ∧ LawAt H y c ∧ U ∉ llst y ∧
  n ≤ 100 ∧ h < n ∧ o < n ∧ c.hold.length = n ∧ c.piles.length = n ∧ c.nx.length = J.length ∧ (∀ v, nxAt c v ≤ (stsOf J v).length) ∧ (∀ u, holdAt c h = some u → u < J.length ∧ nxAt c u < (stsOf J u).length) ∧ c.piles.flatten.length ≤ 50 ∧
  ∀ T H', H T = none → H' T = some (.tup (toldV (foretold c h o))) → LawAt H' y (lawTurn J c h (foretold c h o)) → KeepL y H H' → Q (.ref T) H'
def spFloor : Sp := fun vs H Q _ => ∃ (jv : V) (J : Job) (n : Nat), vs = [jv, natV n] ∧ IsJob K H jv J ∧ JobOk 12 J ∧ 0 < n ∧ n ≤ 100 ∧
  ∀ (y : LA) H', H y.S = none → (∀ a ∈ llst y, H a = none) → Same H H' → LawAt H' y (crew0 J n) → Q (.ref y.S) H'
end
theorem KeepL.free {y : LA} {H H' : Hp} {c : Crew} (k : KeepL y H H') (A : LawAt H' y c) {T : Addr} (e : H' T = none) : H T = none := by
  cases q : H T with
  | none => rfl
  | some o =>
    by_cases m : T ∈ llst y
    · obtain ⟨l, z⟩ := A.lst_ m
      rw [z] at e
      cases e
    · rw [k T o q m] at e
      cases e
end Far
set_option Elab.async false
set_option linter.all false
set_option maxRecDepth 100000
set_option maxHeartbeats 4000000
namespace Far
open PySem L2
def toldD : Told → PyData
  | .step w n => .tuple [.str "step", .int (w : Int), .int (n : Int)]
  | .own w => .tuple [.str "own", .int (w : Int)]
  | .took w o => .tuple [.str "took", .int (w : Int), .int (o : Int)]
  | .missed o => .tuple [.str "missed", .int (o : Int)]
def SmT : Told → Prop
  | .step w n => w < 1000000 ∧ n < 1000000
  | .own w => w < 1000000
  | .took w o => w < 1000000 ∧ o < 1000000
  | .missed o => o < 1000000
def woD (l : List Told) (b : Bool) : PyData := .tuple [.list (l.map toldD), .bool b]
def lawT (J : Job) (d : Crew) (t : Nat × Nat) : Crew := lawTurn J d t.1 (foretold d t.1 t.2)
def lawEnd (J : Job) (d : Crew) (ts : List (Nat × Nat)) : Crew := ts.foldl (lawT J) d
theorem looks_mem {h n o : Nat} (h1 : o < n) (h2 : o ≠ h) : (looksL h n).contains o = true := by
  have hm : o ∈ othersL h n := by
    unfold othersL
    rw [List.mem_filter, List.mem_range]
    exact ⟨h1, by simp [h2]⟩
  unfold looksL
  have hne : (othersL h n).isEmpty = false := by
    cases e : othersL h n with
    | nil => rw [e] at hm; cases hm
    | cons _ _ => rfl
  rw [hne, if_neg (by decide)]
  exact List.contains_iff_mem.mpr hm
theorem next_good {n h v : Nat} (hh : h < n) (hv : v < n - 1) : GoodT n (h, (h + 1 + v) % n) := by
  have hlt : (h + 1 + v) % n < n := Nat.mod_lt _ (by omega)
  refine ⟨hh, hlt, looks_mem hlt ?_⟩
  by_cases e : h + 1 + v < n
  · rw [Nat.mod_eq_of_lt e]; omega
  · rw [Nat.mod_eq_sub_mod (by omega), Nat.mod_eq_of_lt (by omega)]; omega
theorem one_good : GoodT 1 (0, 0) := ⟨by decide, by decide, by decide⟩
def spTurn : Sp := fun vs H Q _ => ∃ (f : Addr) (n : Nat), vs = [.ref f, natV n] ∧ Two H f ∧ 0 < n ∧ n ≤ 100 ∧ ∀ T h o H', H T = none → GoodT n (h, o) → Two H' f → But f H H' → H' T = some (.tup [natV h, natV o]) → Q (.ref T) H'
def spWeaving (K : PySem.W.Frag) : Sp := fun vs H Q _ => ∃ (f : Addr) (n m : Nat), vs = [.ref f, natV n, natV m] ∧ Two H f ∧ 0 < n ∧ n ≤ 100 ∧ m ≤ 900 ∧ ∀ W xs ts H', H W = none → Two H' f → But f H H' → H' W = some (.lst xs) → Paired (IsPr K H') xs ts → (∀ t ∈ ts, GoodT n t) → ts.length = m → Q (.ref W) H'
end Far
set_option Elab.async false
set_option linter.all false
set_option maxRecDepth 100000
set_option maxHeartbeats 4000000
namespace Far
open PySem L2
def rowL (J : Job) : Crew → List (Nat × Nat) → List (Nat × Told)
  | _, [] => []
  | c, t :: r => (t.1, foretold c t.1 t.2) :: rowL J (stepT J c t) r
def IsRow (H : Hp) (v : V) (r : Nat × Told) : Prop := ∃ a wa, v = .ref a ∧ H a = some (.tup [natV r.1, .ref wa]) ∧ H wa = some (.tup (toldV r.2))
def rowD (r : Nat × Told) : PyData := .tuple [.int (r.1 : Int), toldD r.2]
def spTurnsD (K : PySem.W.Frag) : Sp := fun vs H Q _ => ∃ (s : Addr) (ns : List Int) (n m : Nat), vs = [.ref s, natV n, natV m] ∧ SqL K H s (ns.map V.int) ∧ 0 < n ∧ n ≤ 6 ∧ m ≤ 100 ∧
  ∀ (p : Addr) (xs : List V) (ts : List (Nat × Nat)) (H' : Hp), H p = none → Same H H' → H' p = some (.lst xs) → Paired (IsPr K H') xs ts → (∀ t ∈ ts, GoodT n t) → ts.length ≤ 1600 → Q (.ref p) H'
def spTale (K : PySem.W.Frag) : Sp := fun vs H Q _ => ∃ (jv : V) (J : Job) (n : Nat) (ta : Addr) (xs : List V) (ts : List (Nat × Nat)), vs = [jv, natV n, .ref ta] ∧ IsJob K H jv J ∧ JobOk 12 J ∧ 0 < n ∧ n ≤ 100 ∧ H ta = some (.lst xs) ∧ Paired (IsPr K H) xs ts ∧ (∀ t ∈ ts, GoodT n t) ∧ ts.length ≤ 100000 ∧
  ∀ (p : Addr) (rs : List V) (H' : Hp), H p = none → Same H H' → H' p = some (.lst rs) → Paired (IsRow H') rs (rowL J (crew0 J n) ts) → Q (.ref p) H'
end Far
set_option Elab.async false
set_option linter.all false
set_option maxRecDepth 100000
set_option maxHeartbeats 4000000
namespace Far
open PySem L2
def ext (c : Crew) : Crew := { c with hold := c.hold ++ [none], piles := c.piles ++ [[]] }
def otherT : Told → Option Nat
  | .took _ o => some o
  | .missed o => some o
  | _ => none
def rowG (n : Nat) (r : Nat × Told) : Crew → Option (Nat × Nat) := fun c => if r.1 < n then rowF n r.1 r.2 c else none
def namesB (n : Nat) (r : Nat × Told) : Bool := decide (r.1 = n) || decide (otherT r.2 = some n)
end Far
set_option Elab.async false
set_option linter.all false
set_option maxRecDepth 100000
set_option maxHeartbeats 4000000
namespace Far
open PySem L2
section
variable {J : Job} {most n : Nat} {c : Crew}
def InOrder (J : Job) (l : List (Nat × Nat)) : Prop := ∀ (i : Nat) (t : Nat × Nat), l[i]? = some t → ∀ u ∈ hangsU J t, u ∈ l.take i
theorem InOrder.snoc {l : List (Nat × Nat)} {t : Nat × Nat} (h : InOrder J l) (ht : ∀ u ∈ hangsU J t, u ∈ l) : InOrder J (l ++ [t]) := by
  intro i s hs u hu
  by_cases hi : i < l.length
  · rw [List.getElem?_append_left hi] at hs
    have := h i s hs u hu
    rw [List.take_append_of_le_length (by omega)]
    exact this
  · have hil := (List.getElem?_eq_some_iff.mp hs).1
    rw [List.length_append, List.length_singleton] at hil
    have e : i = l.length := by omega
    subst e
    rw [List.getElem?_append_right (Nat.le_refl _), Nat.sub_self] at hs
    have e2 : t = s := by simpa using hs
    subst e2
    rw [List.take_left]
    exact ht u hu
end
end Far
set_option Elab.async false
set_option linter.all false
set_option maxRecDepth 100000
set_option maxHeartbeats 4000000
namespace Far
open PySem L2
def top (i : Nat) : Stmt := PySem.Challenge.pw_farend_k13_turns_that_are_none.main.body.getD i (.Pass ⟨0, 0, 0, 0⟩)
abbrev sIsWhole : Stmt := top 2
abbrev sSends : Stmt := top 3
abbrev sSenders : Stmt := top 4
abbrev sParents : Stmt := top 5
abbrev sCrew : Stmt := top 7
abbrev sFarError : Stmt := top 9
abbrev sNoTurn : Stmt := top 10
abbrev sNoBack : Stmt := top 14
abbrev sOther : Stmt := top 19
abbrev sLooks : Stmt := top 20
abbrev sIsHand : Stmt := top 21
abbrev sIsTurn : Stmt := top 22
abbrev sWoven : Stmt := top 23
abbrev sFeed : Stmt := top 25
abbrev sTake : Stmt := top 26
abbrev sPick : Stmt := top 27
abbrev sLWhole : Stmt := top 28
abbrev sSteps : Stmt := top 29
abbrev sJob : Stmt := top 30
abbrev sTurn : Stmt := top 31
abbrev sWord : Stmt := top 32
abbrev sLIsTurn : Stmt := top 33
abbrev sOdd : Stmt := top 34
abbrev sLaw : Stmt := top 35
abbrev sNTInit : Stmt := inClass sNoTurn 0
def spTake : Sp := fun vs H Q _ => ∃ (f : Addr) (many : Int), vs = [.ref f, .int many] ∧ Two H f ∧ 0 < many ∧ many < 1000 ∧
  ∀ (v : Int) (H' : Hp), 0 ≤ v → v < many → Two H' f → But f H H' → Q (.int v) H'
section
variable {P : Program} {w : World} {K : PySem.W.Frag} {mg : Str → Option Value} {base : Heap}
theorem scTake : FnScope ["feed", "many", "found"] ["feed", "many"] (defScope sTake) := ⟨rfl, rfl, rfl, by decide +kernel, rfl, by decide +kernel, by decide +kernel⟩
theorem ok_take {f : Addr} {fd : FuncData} (F : Fun K "_law_take" "_law_take" sTake f fd) : FnOk P w K mg base CX0 1 f fd ["feed", "many"] spTake := by
  refine F.ok scTake (fun vs H Q E h => ?_) (fun cdv A outer s H vs Q E hr h => ?_)
  · obtain ⟨f, many, rfl, _⟩ := h
    rfl
  · obtain ⟨f, many, rfl, ⟨a, b, hf⟩, hm, hm2, k⟩ := h
    refine ⟨_, pss_cons (ps_if (pt_cmpR op_gt (pe_ix ix_list (pv 0) pe_int (fun _ _ => rfl)) pe_int (nomark _))
        (pss_cons (ps_set (i := 2) scTake.nd rfl (Or.inl rfl) (pe_op op_mod (pe_ix ix_list (pv 0) pe_int (fun _ _ => rfl)) (pv 1)))
        (pss_cons (ps_asg (pe_op op_fdiv (pe_ix ix_list (pv 0) pe_int (fun _ _ => rfl)) (pv 1)) (pg_sub (pv 0) pe_int set_list))
        (pss_one (ps_ret (pv 2))))) pss_nil)
      (pss_cons (ps_asg (pe_op op_mod (pe_op op_add (pe_op op_mul (pe_ix ix_list (pv 0) pe_int (fun _ _ => rfl)) pe_int) pe_int) pe_int) (pg_sub (pv 0) pe_int set_list))
      (pss_one (ps_ret (pe_op op_mod (pe_op op_fdiv (pe_ix ix_list (pv 0) pe_int (fun _ _ => rfl)) pe_int) (pv 1))))), ?_⟩
    refine ⟨_, rfl, f, _, _, _, rfl, rfl, SqL.of hf, rfl, _, _, rfl, rfl, _, rfl, ?_⟩
    refine ite2 (fun _ => ?_) (fun _ => ?_)
    · refine ⟨_, rfl, f, _, _, _, rfl, rfl, SqL.of hf, rfl, _, rfl, _, _, rfl, rfl, hm, ?_⟩
      refine ⟨_, rfl, f, _, _, _, rfl, rfl, SqL.of hf, rfl, _, rfl, _, _, rfl, rfl, ⟨hm, by omega⟩, ?_⟩
      refine ⟨_, rfl, f, _, _, 0, rfl, rfl, hf, rfl, _, rfl, ?_⟩
      exact k _ _ (Int.emod_nonneg _ (by omega)) (Int.emod_lt_of_pos _ hm) ⟨_, _, upd_same⟩ (But.put _ _ _)
    · refine ⟨_, rfl, f, _, _, _, rfl, rfl, SqL.of hf, rfl, _, _, rfl, rfl, .inr ⟨by decide, by decide⟩, _, _, rfl, rfl, _, _, rfl, rfl, (by show (0 : Int) < 2147483647; decide), ?_⟩
      refine ⟨_, rfl, f, _, _, 1, rfl, rfl, hf, rfl, ?_⟩
      refine ⟨_, rfl, f, _, _, _, rfl, rfl, SqL.of upd_same, rfl, _, _, rfl, rfl, ⟨by decide, by decide⟩, _, rfl, _, _, rfl, rfl, hm, ?_⟩
      exact k _ _ (Int.emod_nonneg _ (by omega)) (Int.emod_lt_of_pos _ hm) ⟨_, _, upd_same⟩ (But.put _ _ _)
end
end Far
set_option Elab.async false
set_option linter.all false
set_option maxRecDepth 100000
set_option maxHeartbeats 4000000
namespace Far
open PySem L2
def spFeed (K : PySem.W.Frag) : Sp := fun vs H Q _ => ∃ (a : Addr) (ns : List Int) (k : Int), vs = [.ref a, .int k] ∧ SqL K H a (ns.map V.int) ∧ 0 ≤ k ∧ k < 1000 ∧
  ∀ (p : Addr) (x y : Int), H p = none → Q (.ref p) (upd H p (.lst [.int x, .int y]))
def spPick : Sp := fun vs H Q _ => ∃ (f l : Addr) (xs : List V), vs = [.ref f, .ref l] ∧ Two H f ∧ H l = some (.lst xs) ∧ l ≠ f ∧ 0 < xs.length ∧ xs.length < 1000 ∧
  ∀ (v : V) (j : Nat) (H' : Hp), xs[j]? = some v → Two H' f → But f H H' → Q v H'
section
variable {P : Program} {w : World} {K : PySem.W.Frag} {mg : Str → Option Value} {base : Heap}
theorem scFeed : FnScope ["script", "k", "cell", "digits", "start"] ["script", "k"] (defScope sFeed) := ⟨rfl, rfl, rfl, by decide +kernel, rfl, by decide +kernel, by decide +kernel⟩
theorem start_small (c : Int) : ((c % 2147483629).natAbs) < 2 ^ 64 := by
  have h1 := Int.emod_nonneg c (show (2147483629 : Int) ≠ 0 by decide)
  have h2 := Int.emod_lt_of_pos c (show (0 : Int) < 2147483629 by decide)
  omega
theorem ok_feed {f : Addr} {fd : FuncData} (F : Fun K "_law_feed" "_law_feed" sFeed f fd) (ml : mg "len" = none) : FnOk P w K mg base CX0 1 f fd ["script", "k"] (spFeed K) := by
  refine F.ok scFeed (fun vs H Q E h => ?_) (fun cdv A outer s H vs Q E hr h => ?_)
  · obtain ⟨a, ns, k, rfl, _⟩ := h
    rfl
  · obtain ⟨a, ns, k, rfl, hS, h0, h1, q⟩ := h
    refine ⟨_, pss_cons (ps_set (i := 2) scFeed.nd rfl (Or.inl rfl) pe_int)
      (pss_cons (ps_if (pt_cmpR op_lt (pv 1) (pe_callB call_len_seq rfl ml PySem.boot_len (pa_cons (pv 0) pa_nil)) (nomark _)) (pss_one (ps_set (i := 2) scFeed.nd rfl (Or.inl rfl) (pe_ix ix_list (pv 0) (pv 1) (fun _ _ => rfl)))) pss_nil)
      (pss_cons (ps_set (i := 3) scFeed.nd rfl (Or.inl rfl) pe_int)
      (pss_cons (ps_if (pt_cmpR op_ge (pv 2) (pe_op op_pow pe_int pe_int) (nomark _)) (pss_one (ps_set (i := 3) scFeed.nd rfl (Or.inl rfl) (pe_op op_sub (pv 2) (pe_op op_pow pe_int pe_int)))) pss_nil)
      (pss_cons (ps_set (i := 4) scFeed.nd rfl (Or.inl rfl) (pe_op op_mod (pe_op op_add (pe_op op_add (pe_op op_mul (pe_op op_mod (pv 2) pe_int) pe_int) (pe_op op_mul pe_int (pv 1))) pe_int) pe_int))
      (pss_one (ps_ret (pe_lst (pa_cons (pv 3) (pa_cons (pe_op op_add (pe_op op_mod (pe_op op_pow (pv 4) pe_int) pe_int) pe_int) pa_nil))))))))), ?_⟩
    refine ⟨_, rfl, _, rfl, a, _, rfl, .inl hS, _, _, rfl, rfl, _, rfl, ?_⟩
    refine ite2 (fun c => ?_) (fun c => ?_)
    · have c' : k < (((ns.map V.int).length : Nat) : Int) := of_decide_eq_true c
      obtain ⟨v, hv, hv'⟩ := at_int h0 c'
      obtain ⟨z, rfl⟩ : ∃ z, v = V.int z := by
        rw [List.getElem?_map] at hv
        cases e : ns[k.toNat]? with
        | none => rw [e] at hv; cases hv
        | some z => rw [e] at hv; exact ⟨z, (Option.some.inj hv).symm⟩
      refine ⟨_, rfl, _, rfl, a, _, _, _, rfl, rfl, hS, hv', ?_⟩
      refine ⟨_, rfl, _, _, rfl, rfl, ⟨by decide, by decide, by decide⟩, _, _, rfl, rfl, _, rfl, ?_⟩
      refine ite2 (fun _ => ?_) (fun _ => ?_)
      · refine ⟨_, rfl, _, _, rfl, rfl, ⟨by decide, by decide, by decide⟩, _, _, rfl, rfl, ?_⟩
        refine ⟨_, rfl, _, _, rfl, rfl, (by show (0 : Int) < 2147483647; decide), _, _, rfl, rfl, .inr ⟨by decide, by decide⟩, _, rfl, _, _, rfl, rfl, .inl ⟨by decide, by decide⟩, _, _, rfl, rfl, _, _, rfl, rfl, _, _, rfl, rfl, (by show (0 : Int) < 2147483629; decide), ?_⟩
        refine ⟨_, rfl, _, rfl, _, _, rfl, rfl, ⟨by decide, by decide, start_small _⟩, _, _, rfl, rfl, (by show (0 : Int) < 2147483587; decide), _, _, rfl, rfl, (by show 2 ≤ sizeLine; decide), fun p hp => ?_⟩
        exact q p _ _ hp
      · refine ⟨_, rfl, _, _, rfl, rfl, (by show (0 : Int) < 2147483647; decide), _, _, rfl, rfl, .inr ⟨by decide, by decide⟩, _, rfl, _, _, rfl, rfl, .inl ⟨by decide, by decide⟩, _, _, rfl, rfl, _, _, rfl, rfl, _, _, rfl, rfl, (by show (0 : Int) < 2147483629; decide), ?_⟩
        refine ⟨_, rfl, _, rfl, _, _, rfl, rfl, ⟨by decide, by decide, start_small _⟩, _, _, rfl, rfl, (by show (0 : Int) < 2147483587; decide), _, _, rfl, rfl, (by show 2 ≤ sizeLine; decide), fun p hp => ?_⟩
        exact q p _ _ hp
    · refine ⟨_, rfl, _, _, rfl, rfl, ⟨by decide, by decide, by decide⟩, _, _, rfl, rfl, _, rfl, ?_⟩
      refine ite2 (fun _ => ?_) (fun _ => ?_)
      · refine ⟨_, rfl, _, _, rfl, rfl, ⟨by decide, by decide, by decide⟩, _, _, rfl, rfl, ?_⟩
        refine ⟨_, rfl, _, _, rfl, rfl, (by show (0 : Int) < 2147483647; decide), _, _, rfl, rfl, .inr ⟨by decide, by decide⟩, _, rfl, _, _, rfl, rfl, .inl ⟨by decide, by decide⟩, _, _, rfl, rfl, _, _, rfl, rfl, _, _, rfl, rfl, (by show (0 : Int) < 2147483629; decide), ?_⟩
        refine ⟨_, rfl, _, rfl, _, _, rfl, rfl, ⟨by decide, by decide, start_small _⟩, _, _, rfl, rfl, (by show (0 : Int) < 2147483587; decide), _, _, rfl, rfl, (by show 2 ≤ sizeLine; decide), fun p hp => ?_⟩
        exact q p _ _ hp
      · refine ⟨_, rfl, _, _, rfl, rfl, (by show (0 : Int) < 2147483647; decide), _, _, rfl, rfl, .inr ⟨by decide, by decide⟩, _, rfl, _, _, rfl, rfl, .inl ⟨by decide, by decide⟩, _, _, rfl, rfl, _, _, rfl, rfl, _, _, rfl, rfl, (by show (0 : Int) < 2147483629; decide), ?_⟩
        refine ⟨_, rfl, _, rfl, _, _, rfl, rfl, ⟨by decide, by decide, start_small _⟩, _, _, rfl, rfl, (by show (0 : Int) < 2147483587; decide), _, _, rfl, rfl, (by show 2 ≤ sizeLine; decide), fun p hp => ?_⟩
        exact q p _ _ hp
theorem scPick : FnScope ["feed", "some"] ["feed", "some"] (defScope sPick) := ⟨rfl, rfl, rfl, by decide +kernel, rfl, by decide +kernel, by decide +kernel⟩
theorem ok_pick {f g : Addr} {fd gd : FuncData} (F : Fun K "_law_pick" "_law_pick" sPick f fd) (G : FnOk P w K mg base CX0 1 g gd ["feed", "many"] spTake) (bG : Binds K gd ["feed", "many"] []) (kG : PySem.W.keepIn K (.ref g) = true) (mG : mg "_law_take" = some (.ref g)) (ml : mg "len" = none) :
    FnOk P w K mg base CX0 2 f fd ["feed", "some"] spPick := by
  refine F.ok scPick (fun vs H Q E h => ?_) (fun cdv A outer s H vs Q E hr h => ?_)
  · obtain ⟨f, l, xs, rfl, _⟩ := h
    rfl
  · obtain ⟨f, l, xs, rfl, hf, hl, hn, h0, h1, q⟩ := h
    refine ⟨_, pss_one (ps_ret (pe_ix ix_list (pv 1) (pe_call G hr rfl mG kG bG .nil pass0 (pa_cons (pv 0) (pa_cons (pe_callB call_len_seq rfl ml PySem.boot_len (pa_cons (pv 1) pa_nil)) pa_nil))) (fun _ _ => rfl))), ?_⟩
    refine ⟨_, rfl, _, rfl, _, rfl, l, _, rfl, .inl (SqL.of hl), f, _, rfl, hf, by omega, by omega, fun v H' v0 v1 hf' hb => ?_⟩
    obtain ⟨y, hy, hy'⟩ := at_int v0 v1
    exact ⟨l, _, _, _, rfl, rfl, SqL.of (hb _ _ hl hn), hy', q _ _ _ hy hf' hb⟩
end
end Far
set_option Elab.async false
set_option linter.all false
set_option maxRecDepth 100000
set_option maxHeartbeats 4000000
namespace Far
open PySem L2
structure Glb (mg : Str → Option Value) : Prop where
  len : mg "len" = none
  range : mg "range" = none
  min : mg "min" = none
  max : mg "max" = none
  tuple : mg "tuple" = none
theorem But.updNew {f D : Addr} {H H2 : Hp} (b : But f H H2) (h : H D = none) (o : HO) : But f H (upd H2 D o) := fun c u q n => by rw [upd_ne (ne_of_none q h)]; exact b c u q n
theorem KT.updL {K : PySem.W.Frag} {D : Addr} {H : Hp} {xs : List V} (h : H D = some (.lst xs)) (o : HO) : KT K H (upd H D o) := KT.but (But.put D H o) h
theorem KT.new {K : PySem.W.Frag} {D : Addr} {H : Hp} (h : H D = none) (o : HO) : KT K H (upd H D o) := KT.same (same_new h o)
theorem yes_ {σ : St} {H : Hp} {Q : Bool → Hp → Prop} (h : Q true H) : tYes σ H Q := h
theorem kids_perm {a b : List Stp} (h : a.Perm b) : (kids a).Perm (kids b) := h.filterMap kid
theorem Two.put {H : Hp} {f D : Addr} (t : Two H f) (n : f ≠ D) (o : HO) : Two (upd H D o) f := let ⟨a, b, e⟩ := t; ⟨a, b, by rw [upd_ne n]; exact e⟩
def spSteps (K : PySem.W.Frag) : Sp := fun vs H Q _ => ∃ (f c : Addr) (ch : List Nat), vs = [.ref f, .ref c] ∧ Two H f ∧ H c = some (.lst (ch.map fun k : Nat => V.int (k : Int))) ∧ c ≠ f ∧ ch.length ≤ 8 ∧
  ∀ (v : V) (sts : List Stp) (H' : Hp), IsSts K H' v sts → 1 ≤ sts.length → sts.length ≤ 8 → (kids sts).Perm ch → Two H' f → But f H H' → Q v H'
section
variable {P : Program} {w : World} {K : PySem.W.Frag} {mg : Str → Option Value} {base : Heap}
theorem scSteps : FnScope ["feed", "children", "found", "k", "at", "size", "turn", "step", "child"] ["feed", "children"] (defScope sSteps) := ⟨rfl, rfl, rfl, by decide +kernel, rfl, by decide +kernel, by decide +kernel⟩
theorem cut8 {xs : List V} (h : xs.length ≤ 8) : cutV xs none (some 8) = xs := by
  unfold cutV
  have e1 : HT.sIx xs.length 0 none = 0 := rfl
  have e2 : HT.sIx xs.length xs.length (some 8) = xs.length := by
    have e := HT.sIx_nat xs.length xs.length 8
    have e3 : ((8 : Nat) : Int) = (8 : Int) := rfl
    rw [e3] at e
    rw [e]
    omega
  rw [e1, e2, List.drop_zero, Nat.sub_zero, List.take_length]
theorem ok_steps {f g h : Addr} {fd gd hd : FuncData} (F : Fun K "_law_steps" "_law_steps" sSteps f fd) (T : Glb mg) (G : FnOk P w K mg base CX0 1 g gd ["feed", "many"] spTake) (bG : Binds K gd ["feed", "many"] []) (kG : PySem.W.keepIn K (.ref g) = true) (mG : mg "_law_take" = some (.ref g))
    (M : FnOk P w K mg base CX0 2 h hd ["feed", "some"] spPick) (bM : Binds K hd ["feed", "some"] []) (kM : PySem.W.keepIn K (.ref h) = true) (mM : mg "_law_pick" = some (.ref h)) :
    FnOk P w K mg base CX0 3 f fd ["feed", "children"] (spSteps K) := by
  refine F.ok scSteps (fun vs H Q E h => ?_) (fun cdv A outer s H vs Q E hr h => ?_)
  · obtain ⟨f, c, ch, rfl, _⟩ := h
    rfl
  · obtain ⟨f, c, ch, rfl, hf, hc, hn, h8, q⟩ := h
    have hr1 : Room 1 _ := hr.mono (by decide)
    refine ⟨_, pss_cons (ps_setLc (i := 2) (own := [("child", 8)]) (g := gName 8) (by rfl) scSteps.nd rfl rfl (sw_true rfl rfl rfl (by decide +kernel)) (pi_list (pv 1))
        (blkOk_by (own := [("child", 8)]) (N := ["feed", "children", "found", "k", "at", "size", "turn", "step", "child"]) (sc := defScope sSteps) (by decide +kernel))
        (fun _ _ _ _ _ => pg_name (i := 8) scSteps.nd rfl (Or.inl rfl)) (fun _ _ _ _ _ => pts_nil) (fun _ _ _ _ _ => pe_tup (pa_cons pe_str (pa_cons (pv 8) pa_nil))))
      (pss_cons (ps_for PassesOwn.never rfl (pi_range1 rfl T.range (pa_cons (pe_callB call_len_seq rfl T.len PySem.boot_len (pa_cons (pv 2) pa_nil)) pa_nil)) (pg_name (i := 3) scSteps.nd rfl (Or.inl rfl))
        (pss_cons (ps_set (i := 4) scSteps.nd rfl (Or.inl rfl) (pe_call G hr1 rfl mG kG bG .nil pass0 (pa_cons (pv 0) (pa_cons (pe_callB call_len_seq rfl T.len PySem.boot_len (pa_cons (pv 2) pa_nil)) pa_nil))))
        (pss_one (ps_asg (pe_tup (pa_cons (pe_ix ix_list (pv 2) (pv 4) (fun _ _ => rfl)) (pa_cons (pe_ix ix_list (pv 2) (pv 3) (fun _ _ => rfl)) pa_nil)))
          (pg_tup rfl (pgs_cons (pg_sub (pv 2) (pv 3) set_list) (pgs_cons (pg_sub (pv 2) (pv 4) set_list) pgs_nil)))))))
      (pss_cons (ps_set (i := 5) scSteps.nd rfl (Or.inl rfl) (pe_call M hr rfl mM kM bM .nil pass0 (pa_cons (pv 0) (pa_cons (pe_lst (pa_cons (pe_callB call_len_seq rfl T.len PySem.boot_len (pa_cons (pv 2) pa_nil))
          (pa_cons (pe_op op_add (pe_callB call_len_seq rfl T.len PySem.boot_len (pa_cons (pv 2) pa_nil)) pe_int) (pa_cons (pe_op op_add (pe_callB call_len_seq rfl T.len PySem.boot_len (pa_cons (pv 2) pa_nil)) pe_int)
          (pa_cons (pe_op op_add pe_int (pe_call G hr1 rfl mG kG bG .nil pass0 (pa_cons (pv 0) (pa_cons pe_int pa_nil)))) pa_nil))))) pa_nil))))
      (pss_cons (ps_for PassesOwn.never rfl (pi_range1 rfl T.range (pa_cons (pe_op op_sub (pe_callB (call_min2 rfl) rfl T.min (by decide +kernel) (pa_cons pe_int (pa_cons (pe_callB (call_max2 rfl) rfl T.max (by decide +kernel) (pa_cons pe_int (pa_cons (pv 5) pa_nil))) pa_nil)))
            (pe_callB call_len_seq rfl T.len PySem.boot_len (pa_cons (pv 2) pa_nil))) pa_nil)) (pg_name (i := 6) scSteps.nd rfl (Or.inl rfl))
        (pss_cons (ps_set (i := 7) scSteps.nd rfl (Or.inl rfl) (pe_call M hr rfl mM kM bM .nil pass0 (pa_cons (pv 0) (pa_cons (pe_lst (pa_cons (pe_tup (pa_cons pe_str pa_nil)) (pa_cons (pe_tup (pa_cons pe_str pa_nil)) (pa_cons (pe_tup (pa_cons pe_str pa_nil)) pa_nil)))) pa_nil))))
        (pss_one (ps_expr (pe_bm PySem.F.plainAttrs_list PySem.F.slot_list_insert PySem.F.type_list_insert mt_insert (pv 2) (pa_cons (pe_call G hr1 rfl mG kG bG .nil pass0 (pa_cons (pv 0) (pa_cons (pe_op op_add (pe_callB call_len_seq rfl T.len PySem.boot_len (pa_cons (pv 2) pa_nil)) pe_int) pa_nil))) (pa_cons (pv 7) pa_nil)))))))
      (pss_one (ps_ret (pe_callTy call_tuple_of (by rfl) T.tuple (by decide +kernel) (pa_cons (pe_slice sl_list (pv 2) po_none (po_some pe_int)) pa_nil))))))), ?_⟩
    refine ⟨_, rfl, c, rfl, ⟨_, SqL.of hc⟩, fun D hD => ?_⟩
    have hfD : f ≠ D := hf.ne hD
    have hcD : c ≠ D := ne_of_none hc hD
    refine lc_list (K := K) (a := c) (xs := ch.map fun k : Nat => V.int (k : Int)) (fun i H2 => Same H H2 ∧ ∃ xs, H2 D = some (.lst xs) ∧ Paired (IsStp K H2) xs ((ch.take i).map Stp.snd))
      ⟨same_new hD _, [], upd_same, .nil⟩ (fun i H2 _ ⟨s2, _⟩ => SqL.of (s2 _ _ hc)) ?_ ?_
    · rintro i x H2 hi ⟨s2, xs, hx, hp⟩
      rw [List.getElem?_map] at hi
      obtain ⟨k, hk, rfl⟩ : ∃ k, ch[i]? = some k ∧ x = V.int (k : Int) := by
        cases e : ch[i]? with
        | none => rw [e] at hi; cases hi
        | some z => rw [e] at hi; exact ⟨z, rfl, (Option.some.inj hi).symm⟩
      refine ⟨rfl, yes_ ?_⟩
      refine iteT ?_
      refine ⟨_, rfl, (by show 2 ≤ sizeLine; decide), fun p hp' => ?_⟩
      have hDp : D ≠ p := ne_of_none hx hp'
      refine ⟨xs, (by rw [upd_ne hDp]; exact hx), ?_, ?_⟩
      · have := plen hp
        rw [List.length_map, List.length_take] at this
        exact small1000 (by omega)
      · have k1 : KT K H2 (upd H2 p (.tup [.str "send", .int (k : Int)])) := KT.new hp' _
        have k2 : KT K (upd H2 p (.tup [.str "send", .int (k : Int)])) (upd (upd H2 p (.tup [.str "send", .int (k : Int)])) D (.lst (xs ++ [.ref p]))) := KT.updL (xs := xs) (by rw [upd_ne hDp]; exact hx) _
        refine ⟨fun b o e => ?_, xs ++ [.ref p], upd_same, ?_⟩
        · rw [upd_ne (ne_of_none e hD), upd_ne (ne_of_none (s2 b o e) hp')]
          exact s2 b o e
        · rw [List.take_add_one, hk, List.map_append]
          exact papp (pstp (k1.trans k2) hp) (.cons ⟨p, rfl, k2 _ _ (SqT.of upd_same)⟩ .nil)
    rintro H1 ⟨s1, xs0, hx0, hp0⟩
    rw [List.length_map, List.take_length] at hp0
    have hl0 := plen hp0
    rw [List.length_map] at hl0
    refine ⟨_, rfl, D, _, rfl, .inl (SqL.of hx0), _, rfl, by omega, by omega, ?_⟩
    refine for_range (lo := 0) (n := ((xs0.length : Nat) : Int).toNat) (fun i σ H2 => ∃ (xs : List V) (sts : List Stp) (v3 v4 : Option V), σ = [some (.ref f), some (.ref c), some (.ref D), v3, v4, none, none, none, none] ∧ Two H2 f ∧ H2 D = some (.lst xs) ∧ Paired (IsStp K H2) xs sts ∧ (kids sts).Perm ch ∧ sts.length = ch.length ∧ But f H H2)
      ⟨xs0, ch.map Stp.snd, none, none, rfl, hf.same s1, hx0, hp0, ?_, List.length_map _, But.of s1⟩ ?_ ?_
    · have e : kids (ch.map Stp.snd) = ch := by
        unfold kids
        rw [List.filterMap_map]
        exact List.filterMap_some
      rw [e]
    · rintro i σ H2 hi ⟨xs, sts, v3, v4, rfl, hf2, hx, hp, hk, hl, b2⟩
      have hlx := plen hp
      refine ⟨_, rfl, _, rfl, D, _, rfl, .inl (SqL.of hx), f, _, rfl, hf2, by omega, by omega, fun v H3 v0 v1 hf3 b3 => ?_⟩
      have hx3 : H3 D = some (.lst xs) := b3 _ _ hx hfD.symm
      have k3 : KT K H2 H3 := KT.two b3 hf2
      obtain ⟨y, hy, hy'⟩ := at_int v0 v1
      have i0 : (0 : Int) ≤ 0 + (i : Int) := by omega
      have i1 : (0 : Int) + (i : Int) < (xs.length : Int) := by omega
      obtain ⟨x, hxx, hxx'⟩ := at_int i0 i1
      refine ⟨_, rfl, _, rfl, D, _, _, _, rfl, rfl, SqL.of hx3, hy', _, rfl, _, rfl, D, _, _, _, rfl, rfl, SqL.of hx3, hxx', (by show 2 ≤ sizeLine; decide), fun p hp' => ?_⟩
      have hDp : D ≠ p := ne_of_none hx3 hp'
      have hfp : f ≠ p := hf3.ne hp'
      have hx4 : (upd H3 p (.tup [y, x])) D = some (.lst xs) := by rw [upd_ne hDp]; exact hx3
      refine ⟨p, _, rfl, SqT.of upd_same, rfl, _, _, rfl, _, rfl, _, rfl, D, _, _, _, rfl, rfl, hx4, ix_int i0 i1, _, _, rfl, _, rfl, _, rfl, D, _, _, _, rfl, rfl, upd_same, ix_int v0 (by rw [List.length_set]; exact v1), rfl, ?_⟩
      rw [upd_upd]
      obtain ⟨sx, hsx, rx⟩ := pgetL hp hxx
      obtain ⟨sy, hsy, ry⟩ := pgetL hp hy
      have k4 : KT K H3 (upd H3 p (.tup [y, x])) := KT.new hp' _
      have k5 := (k3.trans k4).trans (KT.updL (K := K) hx4 (.lst ((xs.set ((0 : Int) + (i : Int)).toNat y).set v.toNat x)))
      refine ⟨_, (sts.set ((0 : Int) + (i : Int)).toNat sy).set v.toNat sx, _, _, rfl, (hf3.put hfp _).put hfD _, upd_same, ?_, ?_, ?_, ?_⟩
      · exact pset (IsStp.kt k5 rx) _ (pset (IsStp.kt k5 ry) _ (pstp k5 hp))
      · exact (kids_perm (swap_perm hsx hsy)).trans hk
      · rw [List.length_set, List.length_set]; exact hl
      · exact ((b2.trans b3).trans (But.of (same_new hp' _))).updNew hD _
    rintro σ H2 ⟨xs, sts, v3, v4, rfl, hf2, hx, hp, hk, hl, b2⟩
    have hlx := plen hp
    refine ⟨_, rfl, _, rfl, D, _, rfl, .inl (SqL.of hx), _, rfl, D, _, rfl, .inl (SqL.of hx), _, _, rfl, rfl, _, rfl, D, _, rfl, .inl (SqL.of hx), _, _, rfl, rfl, _, rfl, f, _, rfl, hf2, by omega, by omega, fun v H3 v0 v1 hf3 b3 => ?_⟩
    refine ⟨_, _, rfl, rfl, (by show 4 ≤ sizeLine; decide), fun l hl3 => ?_⟩
    have hfl : f ≠ l := hf3.ne hl3
    have hx3 : H3 D = some (.lst xs) := b3 _ _ hx hfD.symm
    have hDl : D ≠ l := ne_of_none hx3 hl3
    refine ⟨f, l, _, rfl, hf3.put hfl _, upd_same, hfl.symm, by show 0 < 4; decide, by show 4 < 1000; decide, fun z j H4 hz hf4 b4 => ?_⟩
    have b14 : But f H H4 := ((b2.trans b3).trans (But.of (same_new hl3 _))).trans b4
    have k4 : KT K H2 H4 := ((KT.two b3 hf2).trans (KT.new hl3 _)).trans (KT.two b4 (hf3.put hfl _))
    have hx4 : H4 D = some (.lst xs) := b4 _ _ (by rw [upd_ne hDl]; exact hx3) hfD.symm
    obtain ⟨n, rfl, hnb⟩ : ∃ n : Int, z = .int n ∧ n ≤ 1000 := by
      match j, hz with
      | 0, hz => exact ⟨_, (Option.some.inj hz).symm, by omega⟩
      | 1, hz => exact ⟨_, (Option.some.inj hz).symm, by omega⟩
      | 2, hz => exact ⟨_, (Option.some.inj hz).symm, by omega⟩
      | 3, hz => exact ⟨_, (Option.some.inj hz).symm, by omega⟩
      | _ + 4, hz => cases hz
    obtain ⟨m, hm, hm1, hm8⟩ : ∃ m : Int, (if (if n > 1 then n else 1) < 8 then (if n > 1 then n else 1) else 8) = m ∧ 1 ≤ m ∧ m ≤ 8 := by
      refine ⟨_, rfl, ?_, ?_⟩
      · by_cases h1 : n > 1
        · rw [if_pos h1]; by_cases h2 : n < 8
          · rw [if_pos h2]; omega
          · rw [if_neg h2]; omega
        · rw [if_neg h1]; decide
      · by_cases h1 : n > 1
        · rw [if_pos h1]; by_cases h2 : n < 8
          · rw [if_pos h2]; omega
          · rw [if_neg h2]; omega
        · rw [if_neg h1]; decide
    refine ⟨_, rfl, _, _, rfl, _, _, rfl, _, rfl, D, _, rfl, .inl (SqL.of hx4), _, _, rfl, rfl, _, rfl, ?_⟩
    rw [hm]
    refine ⟨by omega, by omega, ?_⟩
    refine for_range (lo := 0) (n := (m - ((xs.length : Nat) : Int)).toNat) (fun i σ H5 => ∃ (xs5 : List V) (sts5 : List Stp) (v6 v7 : Option V), σ = [some (.ref f), some (.ref c), some (.ref D), v3, v4, some (.int n), v6, v7, none] ∧ Two H5 f ∧ H5 D = some (.lst xs5) ∧ Paired (IsStp K H5) xs5 sts5 ∧ (kids sts5).Perm ch ∧ sts5.length = ch.length + i ∧ But f H H5)
      ⟨xs, sts, none, none, rfl, hf4, hx4, pstp k4 hp, hk, by omega, b14⟩ ?_ ?_
    · rintro i σ H5 hi ⟨xs5, sts5, v6, v7, rfl, hf5, hx5, hp5, hk5, hl5, b5⟩
      have hlx5 := plen hp5
      have hfD5 : D ≠ f := hfD.symm
      refine ⟨_, rfl, (by show 1 ≤ sizeLine; decide), fun p1 e1 => ?_⟩
      refine ⟨(by show 1 ≤ sizeLine; decide), fun p2 e2 => ?_⟩
      refine ⟨(by show 1 ≤ sizeLine; decide), fun p3 e3 => ?_⟩
      refine ⟨(by show 3 ≤ sizeLine; decide), fun l e4 => ?_⟩
      have s5 := (((same_new e1 (.tup [.str "do"])).trans (same_new e2 (.tup [.str "do"]))).trans (same_new e3 (.tup [.str "wait"]))).trans (same_new e4 (.lst [.ref p1, .ref p2, .ref p3]))
      have hf6 := hf5.same s5
      have n12 : p1 ≠ p2 := ne_of_none upd_same e2
      have n23 : p2 ≠ p3 := ne_of_none upd_same e3
      have n3l : p3 ≠ l := ne_of_none upd_same e4
      have hlf : f ≠ l := (((hf5.put (hf5.ne e1) _).put ((hf5.put (hf5.ne e1) _).ne e2) _).put (((hf5.put (hf5.ne e1) _).put ((hf5.put (hf5.ne e1) _).ne e2) _).ne e3) _).ne e4
      refine ⟨f, l, _, rfl, hf6, upd_same, hlf.symm, by show 0 < 3; decide, by show 3 < 1000; decide, fun z j H7 hz hf7 b7 => ?_⟩
      have k7 := KT.two (K := K) b7 hf6
      have kt5 : KT K H5 H7 := (KT.same s5).trans k7
      have t1 : SqT K H7 p1 [.str "do"] := k7 _ _ (KT.same (same_new e4 _) _ _ (KT.same (same_new e3 _) _ _ (KT.same (same_new e2 _) _ _ (SqT.of upd_same))))
      have t2 : SqT K H7 p2 [.str "do"] := k7 _ _ (KT.same (same_new e4 _) _ _ (KT.same (same_new e3 _) _ _ (SqT.of upd_same)))
      have t3 : SqT K H7 p3 [.str "wait"] := k7 _ _ (KT.same (same_new e4 _) _ _ (SqT.of upd_same))
      obtain ⟨sz, hsz, hkz⟩ : ∃ sz : Stp, IsStp K H7 z sz ∧ kid sz = none := by
        match j, hz with
        | 0, hz => exact ⟨.doo, ⟨p1, (Option.some.inj hz).symm, t1⟩, rfl⟩
        | 1, hz => exact ⟨.doo, ⟨p2, (Option.some.inj hz).symm, t2⟩, rfl⟩
        | 2, hz => exact ⟨.wai, ⟨p3, (Option.some.inj hz).symm, t3⟩, rfl⟩
        | _ + 3, hz => cases hz
      have hx7 : H7 D = some (.lst xs5) := b7 _ _ (s5 _ _ hx5) hfD5
      refine ⟨_, rfl, .inl ⟨rfl, _, SqL.of hx7⟩, _, rfl, _, rfl, D, _, rfl, .inl (SqL.of hx7), _, _, rfl, rfl, f, _, rfl, hf7, by omega, by omega, fun u H8 u0 u1 hf8 b8 => ?_⟩
      have hx8 : H8 D = some (.lst xs5) := b8 _ _ hx7 hfD5
      refine ⟨_, rfl, D, _, _, _, rfl, rfl, hx8, u0, by omega, by omega, ?_⟩
      have k8 := (kt5.trans (KT.two (K := K) b8 hf7)).trans (KT.updL (K := K) hx8 (.lst (xs5.take u.toNat ++ z :: xs5.drop u.toNat)))
      have k8' := (KT.two (K := K) b8 hf7).trans (KT.updL (K := K) hx8 (.lst (xs5.take u.toNat ++ z :: xs5.drop u.toNat)))
      refine ⟨_, sts5.take u.toNat ++ sz :: sts5.drop u.toNat, _, _, rfl, hf8.put hfD _, upd_same, ?_, ?_, ?_, ?_⟩
      · exact papp (ptake _ (pstp k8 hp5)) (.cons (IsStp.kt k8' hsz) (pdrop _ (pstp k8 hp5)))
      · refine (kids_perm (ins_perm sts5 sz u.toNat)).trans ?_
        have e : kids (sz :: sts5) = kids sts5 := by
          unfold kids
          rw [List.filterMap_cons, hkz]
        rw [e]
        exact hk5
      · rw [ins_len sts5 sz u.toNat (by omega)]
        omega
      · exact (((b5.trans (But.of s5)).trans b7).trans b8).updNew hD _
    rintro σ H5 ⟨xs5, sts5, v6, v7, rfl, hf5, hx5, hp5, hk5, hl5, b5⟩
    have hlx5 := plen hp5
    have l8 : xs5.length ≤ 8 := by omega
    have l1 : 1 ≤ sts5.length := by omega
    refine ⟨_, rfl, _, rfl, D, _, rfl, SqL.of hx5, fun p hp' => ?_⟩
    refine ⟨p, _, rfl, .inl ⟨SqL.of upd_same, fun t ht => ?_⟩⟩
    have e8 : cutV xs5 none (some 8) = xs5 := cut8 l8
    rw [e8] at ht ⊢
    have s6 := (same_new hp' (.lst xs5)).trans (same_new ht (.tup xs5))
    exact q _ sts5 _ ⟨t, xs5, rfl, SqT.of upd_same, pstp (KT.same s6) hp5⟩ l1 (by omega) hk5 (hf5.same s6) (b5.trans (But.of s6))
end
end Far
set_option Elab.async false
set_option linter.all false
set_option maxRecDepth 100000
set_option maxHeartbeats 4000000
namespace Far
open PySem L2
def spJob (K : PySem.W.Frag) : Sp := fun vs H Q _ => ∃ (f : Addr) (most : Int), vs = [.ref f, .int most] ∧ Two H f ∧ 1 ≤ most ∧ most ≤ 12 ∧
  ∀ (v : V) (J : Job) (H' : Hp), IsJob K H' v J → JobOk most.toNat J → Two H' f → But f H H' → Q v H'
abbrev nJob : List Str := ["feed", "most", "many", "way", "children", "work", "some", "near", "rooms", "one"]
def rLen (K : PySem.W.Frag) : List V → Hp → VK → Prop := fun xs H Q => ∃ p ys, xs = [.ref p] ∧ (SqL K H p ys ∨ SqT K H p ys) ∧ Q (.int ys.length) H
section
variable {P : Program} {w : World} {K : PySem.W.Frag} {mg : Str → Option Value} {base : Heap}
theorem scJob : FnScope nJob ["feed", "most"] (defScope sJob) := ⟨rfl, rfl, rfl, by decide +kernel, rfl, by decide +kernel, by decide +kernel⟩
theorem ok_job {f g h i : Addr} {fd gd hd jd : FuncData} (F : Fun K "_law_job" "_law_job" sJob f fd) (T : Glb mg) (G : FnOk P w K mg base CX0 1 g gd ["feed", "many"] spTake) (bG : Binds K gd ["feed", "many"] []) (kG : PySem.W.keepIn K (.ref g) = true) (mG : mg "_law_take" = some (.ref g))
    (M : FnOk P w K mg base CX0 2 h hd ["feed", "some"] spPick) (bM : Binds K hd ["feed", "some"] []) (kM : PySem.W.keepIn K (.ref h) = true) (mM : mg "_law_pick" = some (.ref h))
    (N : FnOk P w K mg base CX0 3 i jd ["feed", "children"] (spSteps K)) (bN : Binds K jd ["feed", "children"] []) (kN : PySem.W.keepIn K (.ref i) = true) (mN : mg "_law_steps" = some (.ref i)) :
    FnOk P w K mg base CX0 4 f fd ["feed", "most"] (spJob K) := by
  refine F.ok scJob (fun vs H Q E h => ?_) (fun cdv A outer s H vs Q E hr h => ?_)
  · obtain ⟨f, m, rfl, _⟩ := h
    rfl
  · obtain ⟨f, most, rfl, hf, hm1, hm2, q⟩ := h
    have hr1 : Room 1 _ := hr.mono (by decide)
    have hr2 : Room 2 _ := hr.mono (by decide)
    refine ⟨_, pss_cons (ps_set (i := 2) scJob.nd rfl (Or.inl rfl) (pe_call M hr2 rfl mM kM bM .nil pass0 (pa_cons (pv 0) (pa_cons (pe_lst (pa_cons (pv 1) (pa_cons (pv 1) (pa_cons (pe_op op_sub (pv 1) pe_int)
          (pa_cons (pe_op op_add pe_int (pe_call G hr1 rfl mG kG bG .nil pass0 (pa_cons (pv 0) (pa_cons (pv 1) pa_nil)))) pa_nil))))) pa_nil))))
      (pss_cons (ps_set (i := 2) scJob.nd rfl (Or.inl rfl) (pe_callB (call_max2 rfl) rfl T.max (by decide +kernel) (pa_cons pe_int (pa_cons (pv 2) pa_nil))))
      (pss_cons (ps_set (i := 3) scJob.nd rfl (Or.inl rfl) (pe_call G hr1 rfl mG kG bG .nil pass0 (pa_cons (pv 0) (pa_cons pe_int pa_nil))))
      (pss_cons (ps_set (i := 4) scJob.nd rfl (Or.inr rfl) (pe_lc (own := [("work", 5)]) (g := gName 5) (by rfl) scJob.nd (pi_range1 rfl T.range (pa_cons (pv 2) pa_nil))
          (blkOk_by (own := [("work", 5)]) (N := nJob) (sc := defScope sJob) (by decide +kernel)) (fun _ _ _ _ _ => pg_name (i := 5) scJob.nd rfl (Or.inl rfl)) (fun _ _ _ _ _ => pts_nil) (fun _ _ _ _ _ => pe_lst pa_nil)))
      (pss_cons (ps_for PassesOwn.never rfl (pi_range2 rfl T.range (pa_cons pe_int (pa_cons (pv 2) pa_nil))) (pg_name (i := 5) scJob.nd rfl (Or.inl rfl))
        (pss_cons (ps_set (i := 6) scJob.nd rfl (Or.inl rfl) (pe_lst (pa_cons (pe_call G hr1 rfl mG kG bG .nil pass0 (pa_cons (pv 0) (pa_cons (pv 5) pa_nil))) (pa_cons (pe_op op_sub (pv 5) pe_int)
          (pa_cons (pe_call G hr1 rfl mG kG bG .nil pass0 (pa_cons (pv 0) (pa_cons (pv 5) pa_nil))) (pa_cons (pe_callB (call_max2 rfl) rfl T.max (by decide +kernel) (pa_cons pe_int (pa_cons (pe_op op_sub (pe_op op_sub (pv 5) pe_int)
            (pe_call G hr1 rfl mG kG bG .nil pass0 (pa_cons (pv 0) (pa_cons pe_int pa_nil)))) pa_nil))) pa_nil))))))
        (pss_cons (ps_set (i := 7) scJob.nd rfl (Or.inl rfl) (pe_ix ix_list (pe_op op_cat (pv 6) (pe_lst (pa_cons pe_int pa_nil))) (pv 3) (fun _ _ => rfl)))
        (pss_cons (ps_if (pt_cmpR op_eq (pe_callB call_len_seq rfl T.len PySem.boot_len (pa_cons (pe_ix ix_list (pv 4) (pv 7) (fun _ _ => rfl)) pa_nil)) pe_int (nomark _))
          (pss_one (ps_set (i := 7) scJob.nd rfl (Or.inl rfl) (pe_ix ix_list (pe_lc (own := [("one", 9)]) (g := gName 9) (by rfl) scJob.nd (pi_range1 rfl T.range (pa_cons (pv 5) pa_nil))
            (blkOk_by (own := [("one", 9)]) (N := nJob) (sc := defScope sJob) (by decide +kernel)) (fun _ _ _ _ _ => pg_name (i := 9) scJob.nd rfl (Or.inl rfl))
            (fun _ _ _ _ _ => pts_one (pt_cmpR op_lt (pe_callB (r := rLen K) call_len_seq rfl T.len PySem.boot_len (pa_cons (pe_ix (r := rIxL K) ix_list (pv 4) (pv 9) (fun _ _ => rfl)) pa_nil)) pe_int (nomark _))) (fun _ _ _ _ _ => pv 9)) pe_int (fun _ _ => rfl)))) pss_nil)
        (pss_one (ps_expr (pe_bm PySem.F.plainAttrs_list PySem.F.slot_list_append PySem.F.type_list_append mt_append (pe_ix ix_list (pv 4) (pv 7) (fun _ _ => rfl)) (pa_cons (pv 5) pa_nil))))))))
      (pss_cons (ps_set (i := 8) scJob.nd rfl (Or.inr rfl) (pe_lc (own := [("work", 5)]) (g := gName 5) (by rfl) scJob.nd (pi_range1 rfl T.range (pa_cons (pv 2) pa_nil))
          (blkOk_by (own := [("work", 5)]) (N := nJob) (sc := defScope sJob) (by decide +kernel)) (fun _ _ _ _ _ => pg_name (i := 5) scJob.nd rfl (Or.inl rfl)) (fun _ _ _ _ _ => pts_nil)
          (fun _ _ _ _ _ => pe_call M hr2 rfl mM kM bM .nil pass0 (pa_cons (pv 0) (pa_cons (pe_lst (pa_cons pe_int (pa_cons pe_int (pa_cons (pe_op op_add pe_int (pe_call G hr1 rfl mG kG bG .nil pass0 (pa_cons (pv 0) (pa_cons pe_int pa_nil)))) pa_nil)))) pa_nil)))))
      (pss_one (ps_ret (pe_callTy call_tuple_of (by rfl) T.tuple (by decide +kernel) (pa_cons (pe_lc (own := [("work", 5)]) (g := gName 5) (by rfl) scJob.nd (pi_range1 rfl T.range (pa_cons (pv 2) pa_nil))
          (blkOk_by (own := [("work", 5)]) (N := nJob) (sc := defScope sJob) (by decide +kernel)) (fun _ _ _ _ _ => pg_name (i := 5) scJob.nd rfl (Or.inl rfl)) (fun _ _ _ _ _ => pts_nil)
          (fun _ _ _ _ _ => pe_tup (pa_cons (pe_ix (r := rIxL K) ix_list (pv 8) (pv 5) (fun _ _ => rfl)) (pa_cons (pe_call N hr rfl mN kN bN .nil pass0 (pa_cons (pv 0) (pa_cons (pe_ix (r := rIxL K) ix_list (pv 4) (pv 5) (fun _ _ => rfl)) pa_nil))) pa_nil)))) pa_nil))))))))), ?_⟩
    refine ⟨_, rfl, _, rfl, _, rfl, _, rfl, _, _, rfl, rfl, _, rfl, _, rfl, f, _, rfl, hf, by omega, by omega, fun v H1 v0 v1 hf1 b1 => ?_⟩
    refine ⟨_, _, rfl, rfl, (by show 4 ≤ sizeLine; decide), fun l el => ?_⟩
    have hfl : f ≠ l := hf1.ne el
    refine ⟨f, l, _, rfl, hf1.put hfl _, upd_same, hfl.symm, by show 0 < 4; decide, by show 4 < 1000; decide, fun z j H2 hz hf2 b2 => ?_⟩
    obtain ⟨n, rfl, hnb⟩ : ∃ n : Int, z = .int n ∧ n ≤ most := by
      match j, hz with
      | 0, hz => exact ⟨_, (Option.some.inj hz).symm, by omega⟩
      | 1, hz => exact ⟨_, (Option.some.inj hz).symm, by omega⟩
      | 2, hz => exact ⟨_, (Option.some.inj hz).symm, by omega⟩
      | 3, hz => exact ⟨_, (Option.some.inj hz).symm, by omega⟩
      | _ + 4, hz => cases hz
    have b02 : But f H H2 := (b1.trans (But.of (same_new el _))).trans b2
    obtain ⟨mn, hmn, hn1, hn2⟩ : ∃ mn : Nat, (if n > 1 then n else 1) = (mn : Int) ∧ 1 ≤ mn ∧ (mn : Int) ≤ most := by
      by_cases h1 : n > 1
      · exact ⟨n.toNat, by rw [if_pos h1]; omega, by omega, by omega⟩
      · exact ⟨1, by rw [if_neg h1]; rfl, by omega, by omega⟩
    refine ⟨_, rfl, _, _, rfl, ?_⟩
    rw [hmn]
    refine ⟨_, rfl, f, _, rfl, hf2, by decide, by decide, fun way H3 w0 w1 hf3 b3 => ?_⟩
    have b03 : But f H H3 := b02.trans b3
    refine ⟨_, rfl, _, rfl, by omega, by omega, fun C hC => ?_⟩
    refine lc_range (lo := 0) (n := ((mn : Nat) : Int).toNat) (fun i H4 => But f H H4 ∧ Two H4 f ∧ ∃ cs : List Addr, cs.length = i ∧ Kids H H4 f C cs (List.replicate i []))
      ⟨(b03.trans (But.of (same_new hC _))), hf3.put (hf3.ne hC) _, [], rfl, upd_same, .nil, List.nodup_nil, by simp, (hf3.ne hC).symm, b03.free (hf3.ne hC).symm hC⟩ ?_ ?_
    · rintro i H4 hi ⟨b4, hf4, cs, hcl, k4⟩
      refine ⟨rfl, yes_ ?_⟩
      refine iteT ?_
      refine ⟨by show 0 ≤ sizeLine; decide, fun p ep => ?_⟩
      have hCp : C ≠ p := ne_of_none k4.top ep
      have hfp : f ≠ p := hf4.ne ep
      refine ⟨_, (by rw [upd_ne hCp]; exact k4.top), ?_, ?_⟩
      · rw [List.length_map, hcl]; exact small1000 (by omega)
      · have s5 : But f H4 (upd H4 p (.lst [])) := But.of (same_new ep _)
        have hpc : p ∉ cs := fun hm => by
          obtain ⟨y, r⟩ := mem_pair k4.kid hm
          have r1 := r.1
          rw [ep] at r1; cases r1
        have k5 := k4.but s5
        refine ⟨(b4.trans s5).updNew k4.nw _, ((hf4.put hfp _).put k4.fC.symm _), cs ++ [p], by rw [List.length_append, hcl]; rfl, ?_⟩
        rw [List.replicate_succ']
        refine ⟨by rw [upd_same, List.map_append]; rfl, papp (kfar k4.nC k5.kid) (.cons ⟨by rw [upd_ne hCp.symm, upd_same]; rfl, hfp.symm, b4.free hfp.symm ep⟩ .nil), ?_, ?_, k4.fC, k4.nw⟩
        · exact nd_snoc k4.nd hpc
        · intro hm
          rcases List.mem_append.mp hm with z | z
          · exact k4.nC z
          · exact hCp (List.mem_singleton.mp z)
    rintro H4 ⟨b4, hf4, cs, hcl, k4⟩
    have hcl' : cs.length = mn := by rw [hcl]; omega
    have en : ((mn : Nat) : Int).toNat = mn := by omega
    rw [en] at k4
    refine ⟨_, rfl, _, _, rfl, ⟨by decide, by decide, by omega, by omega⟩, ?_⟩
    refine for_range (lo := 1) (n := (((mn : Nat) : Int) - 1).toNat) (fun i σ H5 => ∃ (ch : List (List Nat)) (v5 v6 v7 : Option V), σ = [some (.ref f), some (.int most), some (.int (mn : Int)), some (.int way), some (.ref C), v5, v6, v7, none, none] ∧ Two H5 f ∧ But f H H5 ∧ Kids H H5 f C cs ch ∧ MI mn i ch)
      ⟨_, none, none, none, rfl, hf4, b4, k4, MI.start mn⟩ ?_ ?_
    · rintro i σ H5 hi ⟨ch, v5, v6, v7, rfl, hf5, b5, k5, m5⟩
      have hin : i < mn := by omega
      have hw1 : (0 : Int) < 1 + (i : Int) := by omega
      have hw2 : 1 + (i : Int) < 1000 := by omega
      refine ⟨_, rfl, _, rfl, f, _, rfl, hf5, hw1, hw2, fun a1 H6 a10 a11 hf6 b6 => ?_⟩
      refine ⟨_, rfl, _, _, rfl, rfl, _, rfl, _, rfl, f, _, rfl, hf6, hw1, hw2, fun a2 H7 a20 a21 hf7 b7 => ?_⟩
      refine ⟨_, rfl, _, _, rfl, rfl, _, rfl, f, _, rfl, hf7, by decide, by decide, fun a3 H8 a30 a31 hf8 b8 => ?_⟩
      refine ⟨_, _, rfl, rfl, _, _, rfl, (by show 4 ≤ sizeLine; decide), fun l5 e5 => ?_⟩
      refine ⟨_, rfl, (by show 1 ≤ sizeLine; decide), fun l6 e6 => ?_⟩
      have n56 : l5 ≠ l6 := ne_of_none upd_same e6
      refine ⟨l5, l6, _, _, rfl, rfl, (by rw [upd_ne n56]; exact upd_same), upd_same, (by show 5 ≤ sizeLine; decide), fun l7 e7 => ?_⟩
      have s8 := ((same_new e5 _).trans (same_new e6 _)).trans (same_new e7 (.lst ([V.int a1, V.int (1 + (i : Int) - 1), V.int a2, V.int (if 1 + (i : Int) - 1 - a3 > 0 then 1 + (i : Int) - 1 - a3 else 0)] ++ [V.int 0])))
      have b58 := ((b6.trans b7).trans b8).trans (But.of s8)
      have k9 := k5.but b58
      have hf9 := hf8.same s8
      have b9 := b5.trans b58
      refine ⟨_, rfl, ?_⟩
      obtain ⟨y, hy, hy'⟩ := at_int (xs := [V.int a1, V.int (1 + (i : Int) - 1), V.int a2, V.int (if 1 + (i : Int) - 1 - a3 > 0 then 1 + (i : Int) - 1 - a3 else 0)] ++ [V.int 0]) w0 (by show way < 5; exact w1)
      obtain ⟨z, rfl, z0, z1⟩ : ∃ z : Int, y = .int z ∧ 0 ≤ z ∧ z < 1 + (i : Int) := by
        match way.toNat, hy with
        | 0, hy => exact ⟨_, (Option.some.inj hy).symm, a10, a11⟩
        | 1, hy => exact ⟨_, (Option.some.inj hy).symm, by omega, by omega⟩
        | 2, hy => exact ⟨_, (Option.some.inj hy).symm, a20, a21⟩
        | 3, hy =>
          refine ⟨_, (Option.some.inj hy).symm, ?_, ?_⟩
          · by_cases c : 1 + (i : Int) - 1 - a3 > 0
            · rw [if_pos c]; omega
            · rw [if_neg c]; omega
          · by_cases c : 1 + (i : Int) - 1 - a3 > 0
            · rw [if_pos c]; omega
            · rw [if_neg c]; omega
        | 4, hy => exact ⟨_, (Option.some.inj hy).symm, by omega, by omega⟩
        | _ + 5, hy => cases hy
      refine ⟨l7, _, _, _, rfl, rfl, SqL.of upd_same, hy', ?_⟩
      have place : ∀ (z : Int), 0 ≤ z → z < 1 + (i : Int) → ∃ (lz : List Nat) (a0 : Addr), ch[z.toNat]? = some lz ∧ cs[z.toNat]? = some a0 ∧ atI (cs.map V.ref) z = some (.ref a0) := fun z z0 z1 => by
        have hzl : z.toNat < ch.length := by rw [m5.len]; omega
        obtain ⟨a0, h1, _, h3⟩ := k5.get (List.getElem?_eq_getElem hzl)
        exact ⟨_, a0, List.getElem?_eq_getElem hzl, h1, at_of (j := z.toNat) (by omega) h3⟩
      have fin : ∀ (z : Int) (lz : List Nat) (a0 : Addr) (H9 : Hp), 0 ≤ z → z < 1 + (i : Int) → ch[z.toNat]? = some lz → cs[z.toNat]? = some a0 → lz.length < 8 → Two H9 f → But f H H9 → Kids H H9 f C cs ch →
          ∃ (ch' : List (List Nat)) (v5 v6 v7 : Option V), [some (V.ref f), some (.int most), some (.int (mn : Int)), some (.int way), some (.ref C), some (.int (1 + (i : Int))), some (.ref l5), some (.int z), none, none] = [some (V.ref f), some (.int most), some (.int (mn : Int)), some (.int way), some (.ref C), v5, v6, v7, none, none] ∧
            Two (upd H9 a0 (.lst (lz.map natV ++ [.int (1 + (i : Int))]))) f ∧ But f H (upd H9 a0 (.lst (lz.map natV ++ [.int (1 + (i : Int))]))) ∧ Kids H (upd H9 a0 (.lst (lz.map natV ++ [.int (1 + (i : Int))]))) f C cs ch' ∧ MI mn (i + 1) ch' := fun z lz a0 H9 z0 z1 hlz ha h8 hf9 b9 k9 => by
        obtain ⟨a, ha', r, _⟩ := k9.get hlz
        rw [ha] at ha'; cases ha'
        have el : lz.map natV ++ [V.int (1 + (i : Int))] = (lz ++ [i + 1]).map natV := by
          rw [List.map_append]
          have e1 : (1 + (i : Int)) = ((i + 1 : Nat) : Int) := by omega
          rw [e1]
          rfl
        rw [el]
        exact ⟨_, _, _, _, rfl, hf9.put r.2.1.symm _, b9.updNew r.2.2 _, k9.put ha, m5.put hlz h8 (by omega)⟩
      obtain ⟨lz, a0, hlz, ha0, hat⟩ := place z z0 z1
      obtain ⟨a, ha', r, _⟩ := k9.get hlz
      rw [ha0] at ha'; cases ha'
      refine ⟨_, rfl, _, rfl, C, _, _, _, rfl, rfl, SqL.of k9.top, hat, a0, _, rfl, .inl (SqL.of r.1), rfl, _, rfl, ?_⟩
      refine ite2 (fun c => ?_) (fun c => ?_)
      · -- near = [one for one in range(work) if len(children[one]) < 8][0]
        refine ⟨_, rfl, _, rfl, by omega, by omega, fun D hD => ?_⟩
        have hfD : f ≠ D := hf9.ne hD
        refine lc_range (lo := 0) (n := (1 + (i : Int)).toNat) (fun j H10 => Two H10 f ∧ But f H H10 ∧ Kids H H10 f C cs ch ∧ ∃ acc : List Nat, H10 D = some (.lst (acc.map natV)) ∧ acc.length ≤ j ∧ (∀ o ∈ acc, o < i + 1 ∧ ∃ l, ch[o]? = some l ∧ l.length < 8) ∧ ∀ (o : Nat) (l : List Nat), o < j → ch[o]? = some l → l.length < 8 → acc ≠ [])
          ⟨hf9.put hfD _, b9.trans (But.of (same_new hD _)), k9.but (But.of (same_new hD _)), [], upd_same, Nat.le_refl _, (fun o ho => nomatch ho), fun o l ho => absurd ho (Nat.not_lt_zero _)⟩ ?_ ?_
        · rintro j H10 hj ⟨hf10, b10, k10, acc, hacc, hle, hall, hne⟩
          obtain ⟨lo, ao, hlo, hao, hato⟩ := place (0 + (j : Int)) (by omega) (by omega)
          obtain ⟨a', ha', r', _⟩ := k10.get hlo
          rw [hao] at ha'; cases ha'
          have ej : ((0 : Int) + (j : Int)).toNat = j := by omega
          rw [ej] at hlo
          refine ⟨rfl, ?_⟩
          refine ⟨_, rfl, _, rfl, C, _, _, _, rfl, rfl, SqL.of k10.top, hato, ao, _, rfl, .inl (SqL.of r'.1), _, _, rfl, rfl, _, rfl, ?_⟩
          have hl8 : (((lo.map natV).length : Nat) : Int) < 8 ↔ lo.length < 8 := by rw [List.length_map]; omega
          have hDC : D ≠ C := by
            rintro rfl
            have := k9.top
            rw [hD] at this; cases this
          refine ite2 (fun c2 => ?_) (fun c2 => ?_)
          · have c3 := hl8.mp (of_decide_eq_true c2)
            refine ⟨_, rfl, _, hacc, ?_, ?_⟩
            · rw [List.length_map]; exact small1000 (by omega)
            · have el : acc.map natV ++ [V.int (0 + (j : Int))] = (acc ++ [j]).map natV := by
                rw [List.map_append, Int.zero_add]
                rfl
              rw [el]
              have hn : H D = none := b9.free hfD.symm hD
              have hDcs : D ∉ cs := fun hm => by
                obtain ⟨y, rr⟩ := mem_pair k9.kid hm
                have r1 := rr.1
                rw [hD] at r1; cases r1
              refine ⟨hf10.put hfD _, b10.updNew hn _, ⟨by rw [upd_ne hDC.symm]; exact k10.top, kfar hDcs k10.kid, k10.nd, k10.nC, k10.fC, k10.nw⟩, acc ++ [j], upd_same, ?_, ?_, ?_⟩
              · rw [List.length_append, List.length_singleton]; omega
              · intro o ho
                rcases List.mem_append.mp ho with z | z
                · exact hall o z
                · rw [List.mem_singleton.mp z]
                  exact ⟨by omega, lo, hlo, c3⟩
              · intro o l _ _ _ e
                have := congrArg List.length e
                rw [List.length_append, List.length_singleton] at this
                simp at this
          · have c3 : ¬ lo.length < 8 := fun h => (of_decide_eq_false (Bool.eq_false_iff.mpr c2)) (hl8.mpr h)
            refine ⟨hf10, b10, k10, acc, hacc, by omega, hall, fun o l ho hl hl8' => ?_⟩
            by_cases e : o = j
            · subst e
              rw [hlo] at hl; cases hl
              exact absurd hl8' c3
            · exact hne o l (by omega) hl hl8'
        rintro H10 ⟨hf10, b10, k10, acc, hacc, hle, hall, hne⟩
        obtain ⟨o, l, ho, hol, hol8⟩ := m5.some8 hin
        have hane := hne o l (by omega) hol hol8
        obtain ⟨p, ps, rfl⟩ : ∃ p ps, acc = p :: ps := by
          cases acc with
          | nil => exact absurd rfl hane
          | cons p ps => exact ⟨p, ps, rfl⟩
        obtain ⟨hp1, lp, hlp, hlp8⟩ := hall p List.mem_cons_self
        refine ⟨D, _, _, _, rfl, rfl, SqL.of hacc, at_of (j := 0) (v := V.int (p : Int)) rfl rfl, ?_⟩
        have ep : ((p : Nat) : Int).toNat = p := by omega
        obtain ⟨lz', a0', hlz', ha0', hat'⟩ := place (p : Int) (by omega) (by omega)
        have hlz2 := hlz'
        rw [ep, hlp] at hlz2; cases hlz2
        obtain ⟨a', ha', r', _⟩ := k10.get hlz'
        rw [ha0'] at ha'; cases ha'
        refine ⟨_, rfl, _, rfl, C, _, _, _, rfl, rfl, SqL.of k10.top, hat', .inl ⟨rfl, _, SqL.of r'.1⟩, _, rfl, a0', _, _, rfl, rfl, r'.1, ?_, ?_⟩
        · rw [List.length_map]; exact small1000 (by omega)
        · exact fin (p : Int) lp a0' H10 (by omega) (by omega) hlz' ha0' hlp8 hf10 b10 k10
      · have h8 : lz.length < 8 := by
          have h1 := m5.le8 _ _ hlz
          have h2 : lz.length ≠ 8 := fun e => c (by
            apply decide_eq_true
            rw [List.length_map, e]
            rfl)
          omega
        refine ⟨_, rfl, _, rfl, C, _, _, _, rfl, rfl, SqL.of k9.top, hat, .inl ⟨rfl, _, SqL.of r.1⟩, _, rfl, a0, _, _, rfl, rfl, r.1, ?_, ?_⟩
        · rw [List.length_map]; exact small1000 (by omega)
        · exact fin z lz a0 _ z0 z1 hlz ha0 h8 hf9 b9 k9
    rintro σ H5 ⟨ch, v5, v6, v7, rfl, hf5, b5, k5, m5⟩
    have ei : (((mn : Nat) : Int) - 1).toNat = mn - 1 := by omega
    rw [ei] at m5
    refine ⟨_, rfl, _, rfl, by omega, by omega, fun R hR => ?_⟩
    have hfR : f ≠ R := hf5.ne hR
    have nR : H R = none := b5.free hfR.symm hR
    refine lc_range (lo := 0) (n := ((mn : Nat) : Int).toNat) (fun i H6 => Two H6 f ∧ But f H H6 ∧ Kids H H6 f C cs ch ∧ ∃ rs : List Int, H6 R = some (.lst (rs.map V.int)) ∧ rs.length = i ∧ ∀ r ∈ rs, 1 ≤ r ∧ r ≤ 9)
      ⟨hf5.put hfR _, b5.trans (But.of (same_new hR _)), k5.but (But.of (same_new hR _)), [], upd_same, rfl, fun r hr => nomatch hr⟩ ?_ ?_
    · rintro i H6 hi ⟨hf6, b6, k6, rs, hrs, hrl, hrb⟩
      refine ⟨rfl, yes_ ?_⟩
      refine iteT ?_
      refine ⟨_, rfl, _, rfl, f, _, rfl, hf6, by decide, by decide, fun u H7 u0 u1 hf7 b7 => ?_⟩
      refine ⟨_, _, rfl, rfl, (by show 3 ≤ sizeLine; decide), fun l el => ?_⟩
      have hfl : f ≠ l := hf7.ne el
      refine ⟨f, l, _, rfl, hf7.put hfl _, upd_same, hfl.symm, by show 0 < 3; decide, by show 3 < 1000; decide, fun z j H8 hz hf8 b8 => ?_⟩
      obtain ⟨n, rfl, hnb⟩ : ∃ n : Int, z = .int n ∧ 1 ≤ n ∧ n ≤ 9 := by
        match j, hz with
        | 0, hz => exact ⟨_, (Option.some.inj hz).symm, by omega⟩
        | 1, hz => exact ⟨_, (Option.some.inj hz).symm, by omega⟩
        | 2, hz => exact ⟨_, (Option.some.inj hz).symm, by omega⟩
        | _ + 3, hz => cases hz
      have b68 : But f H6 H8 := (b7.trans (But.of (same_new el _))).trans b8
      have hRC : R ≠ C := by
        rintro rfl
        have := k5.top
        rw [hR] at this; cases this
      have hRcs : R ∉ cs := fun hm => by
        obtain ⟨y, rr⟩ := mem_pair k5.kid hm
        have r1 := rr.1
        rw [hR] at r1; cases r1
      have k8 := k6.but b68
      refine ⟨_, b68 _ _ hrs hfR.symm, ?_, ?_⟩
      · rw [List.length_map]; exact small1000 (by omega)
      · refine ⟨hf8.put hfR _, (b6.trans b68).updNew nR _, ⟨by rw [upd_ne hRC.symm]; exact k8.top, kfar hRcs k8.kid, k8.nd, k8.nC, k8.fC, k8.nw⟩, rs ++ [n], by rw [upd_same, List.map_append]; rfl, by rw [List.length_append, hrl]; rfl, fun r hr => ?_⟩
        rcases List.mem_append.mp hr with z | z
        · exact hrb r z
        · rw [List.mem_singleton.mp z]; exact hnb
    rintro H6 ⟨hf6, b6, k6, rs, hrs, hrl, hrb⟩
    refine ⟨_, rfl, _, rfl, by omega, by omega, fun D hD => ?_⟩
    have hfD : f ≠ D := hf6.ne hD
    have nD : H D = none := b6.free hfD.symm hD
    have hDR : D ≠ R := (ne_of_none hrs hD).symm
    have hDC : D ≠ C := (ne_of_none k6.top hD).symm
    have hDcs : D ∉ cs := fun hm => by
      obtain ⟨y, rr⟩ := mem_pair k6.kid hm
      have r1 := rr.1
      rw [hD] at r1; cases r1
    refine lc_range (lo := 0) (n := ((mn : Nat) : Int).toNat) (fun i H7 => Two H7 f ∧ But f H H7 ∧ Kids H H7 f C cs ch ∧ H7 R = some (.lst (rs.map V.int)) ∧ ∃ (xs : List V) (J : Job), H7 D = some (.lst xs) ∧ Paired (IsWk K H7) xs J ∧ Paired WkOk J (ch.take i))
      ⟨hf6.put hfD _, b6.trans (But.of (same_new hD _)), k6.but (But.of (same_new hD _)), by rw [upd_ne hDR.symm]; exact hrs, [], [], upd_same, .nil, by rw [List.take_zero]; exact .nil⟩ ?_ ?_
    · rintro i H7 hi ⟨hf7, b7, k7, hrs7, xs, J, hxs, hpx, hpj⟩
      have him : i < mn := by omega
      have hil : i < ch.length := by rw [m5.len]; exact him
      have hir : i < rs.length := by rw [hrl]; omega
      obtain ⟨l, hl⟩ : ∃ l, ch[i]? = some l := ⟨_, List.getElem?_eq_getElem hil⟩
      obtain ⟨rm, hrm⟩ : ∃ rm, rs[i]? = some rm := ⟨_, List.getElem?_eq_getElem hir⟩
      obtain ⟨a0, ha0, r, hat⟩ := k7.get hl
      have e0 : (0 : Int) + (i : Int) = (i : Int) := Int.zero_add _
      refine ⟨rfl, yes_ ?_⟩
      refine iteT ?_
      refine ⟨_, rfl, _, rfl, R, _, _, _, rfl, rfl, SqL.of hrs7, at_of (j := i) e0 (by rw [List.getElem?_map, hrm]; rfl), _, rfl, _, rfl, _, rfl, C, _, _, _, rfl, rfl, SqL.of k7.top, at_of (j := i) e0 hat, f, a0, l, rfl, hf7, r.1, r.2.1, m5.le8 _ _ hl, fun v sts H8 hs l1 l8 hk hf8 b8 => ?_⟩
      refine ⟨by show 2 ≤ sizeLine; decide, fun p ep => ?_⟩
      have hDp : D ≠ p := ne_of_none (b8 _ _ hxs hfD.symm) ep
      have s9 : Same H8 (upd H8 p (.tup [.int rm, v])) := same_new ep _
      have k9 := k7.but (b8.trans (But.of s9))
      have hx9 : (upd H8 p (.tup [.int rm, v])) D = some (.lst xs) := by rw [upd_ne hDp]; exact b8 _ _ hxs hfD.symm
      refine ⟨xs, hx9, ?_, ?_⟩
      · have e1 := plen hpx
        have e2 := plen hpj
        rw [List.length_take] at e2
        exact small1000 (by omega)
      · have kt1 : KT K H8 (upd H8 p (.tup [.int rm, v])) := KT.same s9
        have kt2 : KT K (upd H8 p (.tup [.int rm, v])) (upd (upd H8 p (.tup [.int rm, v])) D (.lst (xs ++ [.ref p]))) := KT.updL hx9 _
        have kt3 := ((KT.two (K := K) b8 hf7).trans kt1).trans kt2
        refine ⟨(hf8.same s9).put hfD _, ((b7.trans b8).trans (But.of s9)).updNew nD _, ⟨by rw [upd_ne hDC.symm]; exact k9.top, kfar hDcs k9.kid, k9.nd, k9.nC, k9.fC, k9.nw⟩, by rw [upd_ne hDR.symm]; exact s9 _ _ (b8 _ _ hrs7 hfR.symm), xs ++ [.ref p], J ++ [(rm, sts)], upd_same, ?_, ?_⟩
        · exact papp (pwk kt3 hpx) (.cons ⟨p, v, rfl, kt2 _ _ (SqT.of upd_same), IsSts.kt (kt1.trans kt2) hs⟩ .nil)
        · rw [List.take_add_one, hl]
          exact papp hpj (.cons ⟨hrb rm (List.mem_of_getElem? hrm), ⟨l1, l8⟩, hk⟩ .nil)
    rintro H7 ⟨hf7, b7, k7, hrs7, xs, J, hxs, hpx, hpj⟩
    refine ⟨D, _, rfl, .inl ⟨SqL.of hxs, fun t ht => ?_⟩⟩
    rw [en, ← m5.len, List.take_length] at hpj
    have s8 : Same H7 (upd H7 t (.tup xs)) := same_new ht _
    exact q _ J _ ⟨t, xs, rfl, SqT.of upd_same, pwk (KT.same s8) hpx⟩ (job_ok hpj m5 hn1 (by omega)) (hf7.same s8) (b7.trans (But.of s8))
end
end Far
set_option Elab.async false
set_option linter.all false
set_option maxRecDepth 100000
set_option maxHeartbeats 4000000
namespace Far
open PySem L2
theorem for_enum {K : PySem.W.Frag} {a : Addr} {xs : List V} {g : TG} {tb : TS} {D : Ends} {σ : St} {H : Hp} (Pv : Nat → St → Hp → Prop) (h0 : Pv 0 σ H) (hl : ∀ i σ H, i ≤ xs.length → Pv i σ H → SqL K H a xs)
    (hs : ∀ i x T σ H, xs[i]? = some x → Pv i σ H → H T = none → g (.ref T) σ (upd H T (.tup [.int (i : Nat), x])) fun σ2 H2 => tb { D with nx := Pv (i + 1), ct := Pv (i + 1), bk := D.nx } σ2 H2) (hd : ∀ σ H, Pv xs.length σ H → D.nx σ H) :
    ∃ W : Nat → Nat → St → Hp → Prop, (∃ m, W 0 m σ H) ∧ ∀ i m σ H, W i m σ H →
      ((Ite K a).stop i H ∧ D.nx σ H) ∨ ((Ite K a).go i H ∧ ∃ N : St → Hp → Prop, (∀ σ' H', N σ' H' → ∃ m', m' < m ∧ W (i + 1) m' σ' H') ∧ ∀ x H', (Ite K a).yld i H x H' → g x σ H' fun σ2 H2 => tb { D with nx := N, ct := N, bk := D.nx } σ2 H2) := by
  refine ⟨fun i m σ H => m = xs.length - i ∧ i ≤ xs.length ∧ Pv i σ H, ⟨xs.length, by simp, Nat.zero_le _, h0⟩, ?_⟩
  rintro i m σ H ⟨rfl, hi, p⟩
  have q := hl i σ H hi p
  by_cases hlt : i < xs.length
  · refine .inr ⟨⟨xs, xs[i], q, by simp [hlt]⟩, Pv (i + 1), fun σ' H' p' => ⟨xs.length - (i + 1), by omega, rfl, hlt, p'⟩, fun x H' y => ?_⟩
    obtain ⟨T, x', rfl, hT, rfl, y⟩ := y
    exact hs i x' T σ _ (y xs q) p hT
  · have e : i = xs.length := by omega
    subst e
    exact .inl ⟨⟨xs, q, Nat.le_refl _⟩, hd σ H p⟩
def IsTri (K : PySem.W.Frag) (H : Hp) (v : V) (t : Nat × Nat × Nat) : Prop := ∃ a, v = .ref a ∧ SqT K H a [natV t.1, natV t.2.1, natV t.2.2]
theorem IsTri.kt {K : PySem.W.Frag} {H H' : Hp} (k : KT K H H') {v : V} {t : Nat × Nat × Nat} (h : IsTri K H v t) : IsTri K H' v t := let ⟨a, e, q⟩ := h; ⟨a, e, k _ _ q⟩
theorem ptri {K : PySem.W.Frag} {H H' : Hp} (k : KT K H H') {xs : List V} {l : List (Nat × Nat × Nat)} (r : Paired (IsTri K H) xs l) : Paired (IsTri K H') xs l := Paired.mapP r fun _ _ h => IsTri.kt k h
structure Fits (J : Job) : Prop where
  len : J.length ≤ 12
  sts : ∀ w ∈ J, w.2.length ≤ 8
def spSends (K : PySem.W.Frag) : Sp := fun vs H Q _ => ∃ (v : V) (J : Job), vs = [v] ∧ IsJob K H v J ∧ Fits J ∧
  ∀ (p : Addr) (xs : List V) (H' : Hp), H p = none → Same H H' → H' p = some (.lst xs) → Paired (IsTri K H') xs (jobSends 0 J) → Q (.ref p) H'
abbrev nSends : List Str := ["works", "work", "room", "steps", "number", "step"]
section
variable {P : Program} {w : World} {K : PySem.W.Frag} {mg : Str → Option Value} {base : Heap}
theorem scSends : FnScope nSends ["works"] (defScope sSends) := ⟨rfl, rfl, rfl, by decide +kernel, rfl, by decide +kernel, by decide +kernel⟩
theorem stp_at0 (s : Stp) : ∃ t : Str, atI (stpV s) 0 = some (.str t) ∧ decide (V.str t = V.str "send") = (kid s).isSome := by
  cases s with
  | doo => exact ⟨"do", rfl, by decide +kernel⟩
  | wai => exact ⟨"wait", rfl, by decide +kernel⟩
  | snd k => exact ⟨"send", rfl, decide_eq_true rfl⟩
theorem stp_at1 {s : Stp} {k : Nat} (h : kid s = some k) : atI (stpV s) 1 = some (natV k) := by
  cases s with
  | doo => cases h
  | wai => cases h
  | snd j => cases h; rfl
theorem ok_sends {f : Addr} {fd : FuncData} (F : Fun K "sends" "sends" sSends f fd) (me : mg "enumerate" = none) : FnOk P w K mg base CX0 1 f fd ["works"] (spSends K) := by
  refine F.ok scSends (fun vs H Q E h => ?_) (fun cdv A outer s H vs Q E hr h => ?_)
  · obtain ⟨v, J, rfl, _⟩ := h
    rfl
  · obtain ⟨v, J, rfl, hJ, fit, q⟩ := h
    refine ⟨_, pss_one (ps_ret (pe_lc2 (own := [("work", 1), ("room", 2), ("steps", 3), ("number", 4), ("step", 5)]) (vs1 := [4, 5])
      (g := gTup K 2 (gCons (gName 1) (gCons (gTup K 2 (gCons (gName 2) (gCons (gName 3) gNil))) gNil))) (wi1 := iEnumT K (tCons (tVar 3) tNil)) (g1 := gTup K 2 (gCons (gName 4) (gCons (gName 5) gNil)))
      (tt1 := tTest (tOp rEq (tOp (rIxT K) (tVar 5) (tC (.int 0))) (tC (.str "send")))) (te := tTup (tCons (tVar 1) (tCons (tVar 4) (tCons (tOp (rIxT K) (tVar 5) (tC (.int 1))) tNil))))
      (by rfl) scSends.nd (pi_enumT rfl me (pa_cons (pv 0) pa_nil))
      (blkOk_by (own := [("work", 1), ("room", 2), ("steps", 3), ("number", 4), ("step", 5)]) (N := nSends) (sc := defScope sSends) (by decide +kernel)) (by decide)
      (fun _ _ _ _ _ => pg_tup rfl (pgs_cons (pg_name (i := 1) scSends.nd rfl (Or.inl rfl)) (pgs_cons (pg_tup rfl (pgs_cons (pg_name (i := 2) scSends.nd rfl (Or.inl rfl)) (pgs_cons (pg_name (i := 3) scSends.nd rfl (Or.inl rfl)) pgs_nil))) pgs_nil)))
      (fun _ _ _ _ _ => pts_nil) (fun _ _ _ _ _ => pi_enumT rfl me (pa_cons (pv 3) pa_nil))
      (fun _ _ _ _ _ => pg_tup rfl (pgs_cons (pg_name (i := 4) scSends.nd rfl (Or.inl rfl)) (pgs_cons (pg_name (i := 5) scSends.nd rfl (Or.inl rfl)) pgs_nil)))
      (fun _ _ _ _ _ => pts_one (pt_cmpR op_eq (pe_ix (r := rIxT K) ix_tup (pv 5) pe_int (fun _ _ => rfl)) pe_str (nomark _)))
      (fun _ _ _ _ _ => pe_tup (pa_cons (pv 1) (pa_cons (pv 4) (pa_cons (pe_ix (r := rIxT K) ix_tup (pv 5) pe_int (fun _ _ => rfl)) pa_nil)))))), ?_⟩
    obtain ⟨a, ws, rfl, hq, hp⟩ := hJ
    have hl := plen hp
    refine ⟨_, rfl, a, ws, rfl, hq, fun D hD => ?_⟩
    refine ⟨fun i m H2 => m = ws.length - i ∧ i ≤ ws.length ∧ Same H H2 ∧ ∃ xs, H2 D = some (.lst xs) ∧ Paired (IsTri K H2) xs (jobSends 0 (J.take i)), ⟨ws.length, by simp, Nat.zero_le _, same_new hD _, [], upd_same, .nil⟩, ?_⟩
    rintro i m H2 ⟨rfl, hi, s2, xs, hx, hpx⟩
    by_cases hlt : i < ws.length
    · have hq2 := KT.same (K := K) s2 _ _ hq
      refine .inr ⟨⟨ws, ws[i], hq2, by simp [hlt]⟩, fun H' => Same H H' ∧ ∃ xs, H' D = some (.lst xs) ∧ Paired (IsTri K H') xs (jobSends 0 (J.take (i + 1))), fun H' p' => ⟨ws.length - (i + 1), by omega, rfl, hlt, p'⟩, fun x H' y => ?_⟩
      obtain ⟨Tp, wv, rfl, hT, rfl, hy⟩ := y
      obtain ⟨wk, hwk, aw, xw, rfl, hw1, as, sl, rfl, hs1, hps⟩ := pgetL hp (hy ws hq2)
      have hls := plen hps
      have h8 := fit.sts wk (List.mem_of_getElem? hwk)
      have s3 : Same H2 (upd H2 Tp (.tup [.int (i : Nat), .ref aw])) := same_new hT _
      have hDT : D ≠ Tp := ne_of_none hx hT
      have hw3 := KT.same (K := K) (s2.trans s3) _ _ hw1
      have hs3 := KT.same (K := K) (s2.trans s3) _ _ hs1
      refine ⟨Tp, _, rfl, SqT.of upd_same, rfl, _, _, rfl, _, _, rfl, aw, _, rfl, hw3, rfl, _, _, rfl, _, _, rfl, rfl, rfl, rfl, yes_ ?_⟩
      refine iteT ?_
      refine ⟨_, rfl, as, sl, rfl, hs3, ?_⟩
      refine ⟨fun j k H4 => k = sl.length - j ∧ j ≤ sl.length ∧ Same H H4 ∧ ∃ xs, H4 D = some (.lst xs) ∧ Paired (IsTri K H4) xs (jobSends 0 (J.take i) ++ inSends i 0 (wk.2.take j)),
        ⟨sl.length, by simp, Nat.zero_le _, s2.trans s3, xs, by rw [upd_ne hDT]; exact hx, by
          have e : inSends i 0 (wk.2.take 0) = [] := by rw [List.take_zero]; rfl
          rw [e, List.append_nil]
          exact ptri (KT.same s3) hpx⟩, ?_⟩
      rintro j k H4 ⟨rfl, hj, s4, xs4, hx4, hpx4⟩
      by_cases hjl : j < sl.length
      · have hs4 := KT.same (K := K) s4 _ _ hs1
        refine .inr ⟨⟨sl, sl[j], hs4, by simp [hjl]⟩, fun H' => Same H H' ∧ ∃ xs, H' D = some (.lst xs) ∧ Paired (IsTri K H') xs (jobSends 0 (J.take i) ++ inSends i 0 (wk.2.take (j + 1))), fun H' p' => ⟨sl.length - (j + 1), by omega, rfl, hjl, p'⟩, fun x H' y => ?_⟩
        obtain ⟨Tq, sv, rfl, hTq, rfl, hyq⟩ := y
        obtain ⟨st, hst, ast, rfl, hsq⟩ := pgetL hps (hyq sl hs4)
        have s5 : Same H4 (upd H4 Tq (.tup [.int (j : Nat), .ref ast])) := same_new hTq _
        have hDq : D ≠ Tq := ne_of_none hx4 hTq
        have hsq5 := KT.same (K := K) (s4.trans s5) _ _ hsq
        obtain ⟨tx, htx, hdec⟩ := stp_at0 st
        refine ⟨Tq, _, rfl, SqT.of upd_same, rfl, _, _, rfl, _, _, rfl, rfl, rfl, ?_⟩
        refine ⟨_, rfl, ast, _, _, _, rfl, rfl, hsq5, htx, rfl, _, rfl, ?_⟩
        rw [hdec, inSends_take hst, ← List.append_assoc]
        have hlen : xs4.length ≤ 1000 := by
          have e1 := plen hpx4
          have e2 := jobSends_len 0 (J.take i) fun w hw => fit.sts w (List.mem_of_mem_take hw)
          have e3 := inSends_len i 0 (wk.2.take j)
          have e4 := fit.len
          rw [List.length_append] at e1
          rw [List.length_take] at e2 e3
          omega
        cases ek : kid st with
        | none =>
          refine iteF ?_
          refine ⟨s4.trans s5, xs4, by rw [upd_ne hDq]; exact hx4, ?_⟩
          show Paired _ _ (_ ++ [])
          rw [List.append_nil]
          exact ptri (KT.same s5) hpx4
        | some kd =>
          refine iteT ?_
          refine ⟨_, rfl, _, rfl, _, rfl, ast, _, _, _, rfl, rfl, hsq5, stp_at1 ek, (by show 3 ≤ sizeLine; decide), fun p hp' => ?_⟩
          have hx5 : (upd H4 Tq (.tup [.int (j : Nat), .ref ast])) D = some (.lst xs4) := by rw [upd_ne hDq]; exact hx4
          have hDp : D ≠ p := ne_of_none hx5 hp'
          have s6 : Same (upd H4 Tq (.tup [.int (j : Nat), .ref ast])) (upd (upd H4 Tq (.tup [.int (j : Nat), .ref ast])) p (.tup [.int (i : Nat), .int (j : Nat), natV kd])) := same_new hp' _
          have hx6 := s6 _ _ hx5
          refine ⟨xs4, hx6, small1000 hlen, ?_⟩
          have k7 := KT.updL (K := K) hx6 (.lst (xs4 ++ [.ref p]))
          refine ⟨fun b o e => ?_, _, upd_same, ?_⟩
          · rw [upd_ne (ne_of_none e hD)]
            exact s6 _ _ (s5 _ _ (s4 b o e))
          · refine papp (ptri ((KT.same (s5.trans s6)).trans k7) hpx4) (.cons ⟨p, rfl, k7 _ _ (SqT.of upd_same)⟩ .nil)
      · have e : j = sl.length := by omega
        subst e
        refine .inl ⟨⟨sl, KT.same (K := K) s4 _ _ hs1, rfl⟩, s4, xs4, hx4, ?_⟩
        rw [hls, List.take_length] at hpx4
        rw [jobSends_take hwk]
        exact hpx4
    · have e : i = ws.length := by omega
      subst e
      refine .inl ⟨⟨ws, KT.same (K := K) s2 _ _ hq, rfl⟩, ?_⟩
      rw [hl, List.take_length] at hpx
      exact q D xs H2 hD s2 hx hpx
end
end Far
set_option Elab.async false
set_option linter.all false
set_option maxRecDepth 100000
set_option maxHeartbeats 4000000
namespace Far
open PySem L2
def IsSnd (K : PySem.W.Frag) (H : Hp) (v : V) (o : Option (Nat × Nat)) : Prop := match o with
  | none => v = .non
  | some t => ∃ a, v = .ref a ∧ H a = some (.tup [natV t.1, natV t.2])
theorem IsSnd.kt {K : PySem.W.Frag} {H H' : Hp} (k : KU H H') {v : V} {o : Option (Nat × Nat)} (h : IsSnd K H v o) : IsSnd K H' v o := by
  cases o with
  | none => exact h
  | some t => obtain ⟨a, e, q⟩ := h; exact ⟨a, e, k _ _ q⟩
theorem psnd {K : PySem.W.Frag} {H H' : Hp} (k : KU H H') {xs : List V} {l : List (Option (Nat × Nat))} (r : Paired (IsSnd K H) xs l) : Paired (IsSnd K H') xs l := Paired.mapP r fun _ _ h => IsSnd.kt k h
def Inside (J : Job) : Prop := ∀ t ∈ jobSends 0 J, t.2.2 < J.length
def spSenders (K : PySem.W.Frag) : Sp := fun vs H Q _ => ∃ (v : V) (J : Job), vs = [v] ∧ IsJob K H v J ∧ Fits J ∧ Inside J ∧
  ∀ (p : Addr) (xs : List V) (H' : Hp), H p = none → Same H H' → H' p = some (.lst xs) → Paired (IsSnd K H') xs (senderL J) → Q (.ref p) H'
def spParents (K : PySem.W.Frag) : Sp := fun vs H Q _ => ∃ (v : V) (J : Job), vs = [v] ∧ IsJob K H v J ∧ Fits J ∧ Inside J ∧
  ∀ (p : Addr) (H' : Hp), H p = none → Same H H' → H' p = some (.lst ((parL J).map optV)) → Q (.ref p) H'
def spBelowAny : Sp := fun vs H Q _ => ∃ (e t : Addr) (par : List (Option Nat)) (tops : List Nat), vs = [.ref e, .ref t] ∧ H e = some (.lst (par.map optV)) ∧ H t = some (.lst (tops.map natV)) ∧ par.length ≤ 100 ∧
  ∀ (p : Addr) (H' : Hp), H p = none → Same H H' → H' p = some (.lst ((bel tops 0 par []).map natV)) → Q (.ref p) H'
def spBelow (K : PySem.W.Frag) : Sp := fun vs H Q _ => ∃ (v : V) (J : Job) (t : Nat), vs = [v, natV t] ∧ IsJob K H v J ∧ Fits J ∧ Inside J ∧
  ∀ (p : Addr) (H' : Hp), H p = none → Same H H' → H' p = some (.lst ((bel [t] 0 (parL J) []).map natV)) → Q (.ref p) H'
theorem rep_none (n : Nat) : (List.replicate n ([V.non] : List V)).flatten = List.replicate n V.non := by
  induction n with
  | zero => rfl
  | succ n ih => rw [List.replicate_succ, List.flatten_cons, ih, List.replicate_succ]; rfl
theorem prep {α β : Type} {F : α → β → Prop} {x : α} {y : β} (h : F x y) : ∀ n, Paired F (List.replicate n x) (List.replicate n y)
  | 0 => .nil
  | n + 1 => .cons h (prep h n)
theorem inV_nat (i : Nat) : ∀ l : List Nat, inV (natV i) (l.map natV) = l.contains i
  | [] => rfl
  | a :: r => by
    have ih := inV_nat i r
    unfold inV at ih ⊢
    rw [List.map_cons, List.any_cons, ih, List.contains_cons]
    congr 1
    show ((a : Int) == (i : Int)) = (i == a)
    by_cases c : i = a
    · subst c; simp
    · have : ¬ ((a : Int) = (i : Int)) := by omega
      rw [beq_eq_false_iff_ne.mpr this, beq_eq_false_iff_ne.mpr c]
theorem flat_nat : ∀ l : List Nat, (l.map natV).all flatV = true
  | [] => rfl
  | a :: r => by rw [List.map_cons, List.all_cons, flat_nat r]; rfl
section
variable {P : Program} {w : World} {K : PySem.W.Frag} {mg : Str → Option Value} {base : Heap}
theorem scSenders : FnScope ["job", "found", "work", "number", "child"] ["job"] (defScope sSenders) := ⟨rfl, rfl, rfl, by decide +kernel, rfl, by decide +kernel, by decide +kernel⟩
theorem ok_senders {f g : Addr} {fd gd : FuncData} (F : Fun K "senders" "senders" sSenders f fd) (G : FnOk P w K mg base CX0 1 g gd ["works"] (spSends K)) (bG : Binds K gd ["works"] []) (kG : PySem.W.keepIn K (.ref g) = true) (mG : mg "sends" = some (.ref g)) (ml : mg "len" = none) :
    FnOk P w K mg base CX0 2 f fd ["job"] (spSenders K) := by
  refine F.ok scSenders (fun vs H Q E h => ?_) (fun cdv A outer s H vs Q E hr h => ?_)
  · obtain ⟨v, J, rfl, _⟩ := h
    rfl
  · obtain ⟨v, J, rfl, hJ, fit, ins, q⟩ := h
    refine ⟨_, pss_cons (ps_set (i := 1) scSenders.nd rfl (Or.inl rfl) (pe_op op_rep (pe_lst (pa_cons pe_non pa_nil)) (pe_callB call_len_seq rfl ml PySem.boot_len (pa_cons (pv 0) pa_nil))))
      (pss_cons (ps_for PassesOwn.never rfl (pi_list (pe_call G hr rfl mG kG bG .nil pass0 (pa_cons (pv 0) pa_nil))) (pg_tup rfl (pgs_cons (pg_name (i := 2) scSenders.nd rfl (Or.inl rfl)) (pgs_cons (pg_name (i := 3) scSenders.nd rfl (Or.inl rfl)) (pgs_cons (pg_name (i := 4) scSenders.nd rfl (Or.inl rfl)) pgs_nil))))
        (pss_one (ps_asg (pe_tup (pa_cons (pv 2) (pa_cons (pv 3) pa_nil))) (pg_sub (pv 1) (pv 4) set_list))))
      (pss_one (ps_ret (pv 1)))), ?_⟩
    obtain ⟨a, ws, rfl, hq, hp⟩ := id hJ
    have hl := plen hp
    have h12 := fit.len
    refine ⟨(by show 1 ≤ sizeLine; decide), fun l0 e0 => ?_⟩
    have s0 : Same H (upd H l0 (.lst [.non])) := same_new e0 _
    refine ⟨_, rfl, a, ws, rfl, .inr (KT.same s0 _ _ hq), l0, _, _, rfl, rfl, upd_same, by omega, by omega, ?_, fun D hD => ?_⟩
    · show 1 * ((ws.length : Nat) : Int).toNat ≤ sizeLine
      exact Nat.le_of_lt (small1000 (by omega))
    have eD : (List.replicate ((ws.length : Nat) : Int).toNat ([V.non] : List V)).flatten = List.replicate ws.length V.non := by rw [rep_none]; rfl
    rw [eD] at *
    have s1 : Same H (upd (upd H l0 (.lst [.non])) D (.lst (List.replicate ws.length .non))) := s0.trans (same_new hD _)
    have nD : H D = none := s0.free hD
    refine ⟨_, rfl, _, J, rfl, IsJob.kt (KT.same s1) hJ, fit, fun S ss H2 eS s2 hS hps => ?_⟩
    have hD2 := s2 _ _ (show (upd (upd H l0 (.lst [.non])) D (.lst (List.replicate ws.length .non))) D = some (.lst (List.replicate ws.length .non)) from upd_same)
    have hDS : D ≠ S := ne_of_none (show (upd (upd H l0 (.lst [.non])) D (.lst (List.replicate ws.length .non))) D = some (.lst (List.replicate ws.length .non)) from upd_same) eS
    refine ⟨S, rfl, ⟨_, SqL.of hS⟩, ?_⟩
    refine for_list (K := K) (a := S) (xs := ss) (fun i σ H3 => ∃ (xs : List V) (v2 v3 v4 : Option V), σ = [some (.ref a), some (.ref D), v2, v3, v4] ∧ Same H H3 ∧ H3 S = some (.lst ss) ∧ KT K H2 H3 ∧ H3 D = some (.lst xs) ∧ Paired (IsSnd K H3) xs (((jobSends 0 J).take i).foldl putS (List.replicate J.length none)))
      ⟨_, none, none, none, rfl, s1.trans s2, hS, KT.refl _, hD2, by rw [← hl, List.take_zero]; exact prep (F := IsSnd K H2) (x := V.non) (y := none) rfl _⟩ (fun i σ H3 _ ⟨_, _, _, _, _, _, h3, _⟩ => SqL.of h3) ?_ ?_
    · rintro i x σ H3 hi ⟨xs, v2, v3, v4, rfl, s3, hS3, k3, hD3, hp3⟩
      obtain ⟨t, ht, at', rfl, hsq⟩ := pgetL hps hi
      have hc := ins t (List.mem_of_getElem? ht)
      have hlx := plen hp3
      rw [foldS_len, List.length_replicate] at hlx
      refine ⟨at', _, rfl, k3 _ _ hsq, rfl, _, _, rfl, _, _, rfl, _, _, rfl, rfl, ?_⟩
      refine ⟨_, rfl, _, rfl, (by show 2 ≤ sizeLine; decide), fun p ep => ?_⟩
      have s4 : Same H3 (upd H3 p (.tup [natV t.1, natV t.2.1])) := same_new ep _
      have hD4 := s4 _ _ hD3
      refine ⟨_, rfl, _, rfl, D, _, _, _, rfl, rfl, hD4, ix_int (i := (t.2.2 : Int)) (by omega) (by omega), ?_⟩
      have u5 := KU.updL hD4 (.lst (xs.set ((t.2.2 : Nat) : Int).toNat (.ref p)))
      have k5 := KT.updL (K := K) hD4 (.lst (xs.set ((t.2.2 : Nat) : Int).toNat (.ref p)))
      refine ⟨_, _, _, _, rfl, fun b o e => ?_, ?_, (k3.trans (KT.same s4)).trans k5, upd_same, ?_⟩
      · rw [upd_ne (ne_of_none e nD)]; exact s4 _ _ (s3 b o e)
      · rw [upd_ne hDS.symm]; exact s4 _ _ hS3
      · rw [List.take_add_one, ht, Option.toList_some, List.foldl_append]
        exact pset (F := IsSnd K _) (y := some (t.1, t.2.1)) ⟨p, rfl, u5 _ _ upd_same⟩ t.2.2 (psnd ((KU.same s4).trans u5) hp3)
    · rintro σ H3 ⟨xs, v2, v3, v4, rfl, s3, hS3, k3, hD3, hp3⟩
      rw [plen hps, List.take_length] at hp3
      exact ⟨_, rfl, q D xs H3 nD s3 hD3 hp3⟩
theorem scParents : FnScope ["job", "sender"] ["job"] (defScope sParents) := ⟨rfl, rfl, rfl, by decide +kernel, rfl, by decide +kernel, by decide +kernel⟩
theorem ok_parents {f g : Addr} {fd gd : FuncData} (F : Fun K "parents" "parents" sParents f fd) (G : FnOk P w K mg base CX0 2 g gd ["job"] (spSenders K)) (bG : Binds K gd ["job"] []) (kG : PySem.W.keepIn K (.ref g) = true) (mG : mg "senders" = some (.ref g)) :
    FnOk P w K mg base CX0 3 f fd ["job"] (spParents K) := by
  refine F.ok scParents (fun vs H Q E h => ?_) (fun cdv A outer s H vs Q E hr h => ?_)
  · obtain ⟨v, J, rfl, _⟩ := h
    rfl
  · obtain ⟨v, J, rfl, hJ, fit, ins, q⟩ := h
    refine ⟨_, pss_one (ps_ret (pe_lc (own := [("sender", 1)]) (g := gName 1) (by rfl) scParents.nd (pi_list (pe_call G hr rfl mG kG bG .nil pass0 (pa_cons (pv 0) pa_nil)))
      (blkOk_by (own := [("sender", 1)]) (N := ["job", "sender"]) (sc := defScope sParents) (by decide +kernel)) (fun _ _ _ _ _ => pg_name (i := 1) scParents.nd rfl (Or.inl rfl)) (fun _ _ _ _ _ => pts_nil)
      (fun _ _ _ _ _ => pe_ifExp (pt_cmpR op_isN (pv 1) pe_non (nomark _)) pe_non (pe_ix (r := rIxT K) ix_tup (pv 1) pe_int (fun _ _ => rfl))))), ?_⟩
    have h12 := fit.len
    refine ⟨_, rfl, v, J, rfl, hJ, fit, ins, fun S ss H2 eS s2 hS hps => ?_⟩
    refine ⟨S, rfl, ⟨_, SqL.of hS⟩, fun D hD => ?_⟩
    have hSD : S ≠ D := ne_of_none hS hD
    have nD : H D = none := s2.free hD
    refine lc_list (K := K) (a := S) (xs := ss) (fun i H3 => Same H H3 ∧ H3 S = some (.lst ss) ∧ KT K H2 H3 ∧ H3 D = some (.lst ((((senderL J).take i).map (Option.map Prod.fst)).map optV)))
      ⟨s2.trans (same_new hD _), (same_new hD _) _ _ hS, KT.new hD _, by rw [List.take_zero]; exact upd_same⟩ (fun i H3 _ ⟨_, h, _⟩ => SqL.of h) ?_ ?_
    · rintro i x H3 hi ⟨s3, hS3, k3, hD3⟩
      obtain ⟨o, ho, hx⟩ := pgetL hps hi
      have hll := plen hps
      rw [senderL_len] at hll
      refine ⟨rfl, yes_ ?_⟩
      refine iteT ?_
      have step : ∀ y, y = optV (o.map Prod.fst) → ∃ acc, H3 D = some (.lst acc) ∧ acc.length < sizeLine ∧ Same H (upd H3 D (.lst (acc ++ [y]))) ∧ (upd H3 D (.lst (acc ++ [y]))) S = some (.lst ss) ∧ KT K H2 (upd H3 D (.lst (acc ++ [y]))) ∧ (upd H3 D (.lst (acc ++ [y]))) D = some (.lst ((((senderL J).take (i + 1)).map (Option.map Prod.fst)).map optV)) := by
        rintro y rfl
        refine ⟨_, hD3, ?_, fun b o e => ?_, ?_, k3.trans (KT.updL hD3 _), ?_⟩
        · rw [List.length_map, List.length_map, List.length_take, senderL_len]
          exact small1000 (by omega)
        · rw [upd_ne (ne_of_none e nD)]; exact s3 b o e
        · rw [upd_ne hSD]; exact hS3
        · rw [upd_same, List.take_add_one, ho, Option.toList_some, List.map_append, List.map_append]
          rfl
      cases o with
      | none =>
        cases (show x = V.non from hx)
        refine ⟨_, rfl, rfl, _, rfl, ?_⟩
        refine iteT ?_
        exact step _ rfl
      | some t =>
        obtain ⟨at', rfl, hsq⟩ := hx
        refine ⟨_, rfl, rfl, _, rfl, ?_⟩
        refine iteF ?_
        exact ⟨_, rfl, at', _, _, _, rfl, rfl, k3 _ _ (SqT.of hsq), rfl, step _ rfl⟩
    · rintro H3 ⟨s3, hS3, k3, hD3⟩
      rw [plen hps, List.take_length, senderL_fst] at hD3
      exact q D H3 nD s3 hD3
end
end Far
set_option Elab.async false
set_option linter.all false
set_option maxRecDepth 100000
set_option maxHeartbeats 4000000
namespace Far
open PySem L2
def rListK (K : PySem.W.Frag) : List V → Hp → VK → Prop := fun xs H Q => ∃ p ys, xs = [.ref p] ∧ (SqL K H p ys ∨ SqT K H p ys) ∧ ∀ l, H l = none → Q (.ref l) (upd H l (.lst ys))
section
variable (x : CA) (a b : Int)
end
def spCopied (K : PySem.W.Frag) (C : Addr) : Sp := fun vs H Q _ => ∃ (x : CA) (J : Job) (c : Crew) (n : Nat), vs = [.ref x.p] ∧ CrewAt K C H x J c ∧ JobOk 12 J ∧ Lens J n c ∧ 0 < n ∧ n ≤ 100 ∧
  ∀ (y : CA) H', H y.p = none → (∀ a ∈ lsts y, H a = none) → Same H H' → CrewAt K C H' y J c → Q (.ref y.p) H'
end Far
set_option Elab.async false
set_option linter.all false
set_option maxRecDepth 100000
set_option maxHeartbeats 4000000
namespace Far
open PySem L2
structure YA where
  p : Addr
  dx : Addr
  PA : Addr
  x : CA
def yflds (y : YA) (n : Nat) : List (Str × V) := [("hands", natV n), ("crew", .ref y.x.p), ("past", .ref y.PA)]
structure TxtY (K : PySem.W.Frag) (mg : Str → Option Value) (C CY : Addr) : Prop extends TxtC K mg C where
  clY : Cls K CY
  n_hands : NoAttr K CY "hands"
  n_crew : NoAttr K CY "crew"
  n_past : NoAttr K CY "past"
  mgYard : mg "Yard" = some (.ref CY)
section
variable (y : YA) (n : Nat)
end
structure YardAt (K : PySem.W.Frag) (C CY : Addr) (H : Hp) (y : YA) (J : Job) (n : Nat) (c : Crew) (m : Nat) : Prop where
  ob : H y.p = some (.ins CY y.dx (yflds y n))
  cr : CrewAt K C H y.x J c
  pa : ∃ l, H y.PA = some (.lst l) ∧ l.length = m
  np : y.PA ∉ lsts y.x
def KeepY (y : YA) (H H' : Hp) : Prop := ∀ b o, H b = some o → b ≠ y.p → b ≠ y.PA → b ≠ y.x.p → b ∉ lsts y.x → H' b = some o
def yown (y : YA) : List Addr := y.p :: y.PA :: y.x.p :: lsts y.x
theorem YardAt.same {K : PySem.W.Frag} {C CY : Addr} {H H' : Hp} {y : YA} {J : Job} {n : Nat} {c : Crew} {m : Nat} (A : YardAt K C CY H y J n c m) (s : Same H H') : YardAt K C CY H' y J n c m :=
  ⟨s _ _ A.ob, A.cr.same s, let ⟨l, h1, h2⟩ := A.pa; ⟨l, s _ _ h1, h2⟩, A.np⟩
section
variable (K : PySem.W.Frag) (C CY : Addr)
def spYInit : Sp := fun vs H Q _ => ∃ (p dx : Addr) (jv : V) (J : Job) (n : Nat), vs = [.ref p, jv, natV n] ∧ H p = some (.ins CY dx []) ∧ IsJob K H jv J ∧ JobOk 12 J ∧ 0 < n ∧ n ≤ 100 ∧
  ∀ (y : YA) H', y.p = p → y.dx = dx → y.x.jv = jv → YardAt K C CY H' y J n (crew0 J n) 0 → (∀ b o, H b = some o → b ≠ p → H' b = some o) → (∀ a ∈ yown y, a ≠ p → H a = none) → Q .non H'
def spYTurn : Sp := fun vs H Q _ => ∃ (y : YA) (J : Job) (n h o : Nat) (c : Crew) (m : Nat), vs = [.ref y.p, natV h, natV o] ∧ YardAt K C CY H y J n c m ∧ JobOk 12 J ∧ GoodT n (h, o) ∧ 0 < n ∧ n ≤ 100 ∧ CInv J n (fun _ => False) c ∧ m < 1000000 ∧
  ∀ T (z : YA) H', z.p = y.p → z.dx = y.dx → z.PA = y.PA → z.x.jv = y.x.jv ∨ True → H T = none → H' T = some (.tup (toldV (foretold c h o))) → YardAt K C CY H' z J n (turnC J c h (foretold c h o)) (m + 1) → (∀ b o', H b = some o' → b ∉ yown y → H' b = some o') → (∀ a ∈ yown z, a ∈ yown y ∨ H a = none) → Q (.ref T) H'
def spYEnded : Sp := fun vs H Q _ => ∃ (y : YA) (J : Job) (n : Nat) (c : Crew) (m : Nat), vs = [.ref y.p] ∧ YardAt K C CY H y J n c m ∧ 0 < c.lives.length ∧ Q (.bl (!livesAt c 0)) H
end
def wordT : Told → Str
  | .step _ _ => "step"
  | .own _ => "own"
  | .took _ _ => "took"
  | .missed _ => "missed"
end Far
set_option Elab.async false
set_option linter.all false
set_option maxRecDepth 100000
set_option maxHeartbeats 4000000
namespace Far
open PySem L2
def spIsBelow : Sp := fun vs H Q _ => ∃ (u : Addr) (par : List (Option Nat)) (i t : Nat), vs = [.ref u, natV i, natV t] ∧ H u = some (.lst (par.map optV)) ∧ i < par.length ∧ Ups par ∧ Q (.bl (isBel par t i)) H
theorem opt_ne (o : Option Nat) (t : Nat) : decide (optV o = natV t) = decide (o = some t) := by
  cases o with
  | none => rw [decide_eq_false (by intro h; cases h), decide_eq_false (by intro h; cases h)]
  | some k =>
    by_cases c : k = t
    · subst c; rw [decide_eq_true (show optV (some k) = natV k from rfl), decide_eq_true rfl]
    · rw [decide_eq_false (by intro h; injection h with h; omega), decide_eq_false (by intro h; injection h with h; omega)]
theorem opt_scal (o : Option Nat) (t : Nat) : scal (optV o) (natV t) = true := by cases o <;> rfl
end Far
set_option Elab.async false
set_option linter.all false
set_option maxRecDepth 100000
set_option maxHeartbeats 4000000
set_option pp.maxSteps 500
namespace Far
open PySem L2
abbrev sCopied : Stmt := inClass sCrew 1
abbrev sInit : Stmt := inClass sCrew 0
abbrev sEnded : Stmt := inClass sCrew 2
abbrev sBegin : Stmt := inClass sCrew 3
abbrev sEnd : Stmt := inClass sCrew 4
abbrev sHasKid : Stmt := inClass sCrew 5
abbrev sNoneLeft : Stmt := inClass sCrew 6
abbrev sWaitsOr : Stmt := inClass sCrew 7
abbrev sFore : Stmt := inClass sCrew 8
abbrev sTakeT : Stmt := inClass sCrew 9
abbrev sDoStep : Stmt := inClass sCrew 10
abbrev sSendOff : Stmt := inClass sCrew 11
abbrev sSettle : Stmt := inClass sCrew 12
abbrev sMust : Stmt := inClass sCrew 13
abbrev sLeave : Stmt := inClass sCrew 14
section
variable {P : Program} {w : World} {K : PySem.W.Frag} {mg : Str → Option Value} {base : Heap} {C : Addr}
abbrev n_begin : List Str := ["self", "work"]
theorem sc_begin : FnScope n_begin ["self", "work"] (defScope sBegin) := ⟨rfl, rfl, rfl, by decide +kernel, rfl, by decide +kernel, by decide +kernel⟩
theorem ok_begin {f : Addr} {fd : FuncData} (F : Fun K "begin" "Crew.begin" sBegin f fd) (T : TxtC K mg C) :
    FnOk P w K mg base CX0 1 f fd ["self", "work"] (spBegin K C) := by
  refine F.ok sc_begin (fun vs H Q E h => ?_) (fun cdv Ar outer s H vs Q E hr h => ?_)
  · obtain ⟨x, J, c, v, rfl, _⟩ := h
    rfl
  · obtain ⟨x, J, c, v, rfl, A, hv, hl, q⟩ := h
    refine ⟨_, pss_cons (ps_asg (pe_bl) (pg_sub (pe_fld (pv 0) rfl) (pv 1) set_list)) (pss_cons (ps_fldaug (pv 0) (pe_ix ix_tup (pe_ix ix_tup (pe_fld (pv 0) rfl) (pv 1) (fun _ _ => rfl)) (pe_int) (fun _ _ => rfl)) in_add) (pss_one (ps_fld (pv 0) (pe_callB (call_max2 rfl) rfl T.max (by decide +kernel) (pa_cons (pe_fld (pv 0) rfl) (pa_cons (pe_fld (pv 0) rfl) pa_nil))) rfl))), ?_⟩
    obtain ⟨wk, hwk⟩ : ∃ wk, J[v]? = some wk := ⟨_, List.getElem?_eq_getElem hv⟩
    refine ⟨_, rfl, x.p, C, x.dx, _, _, rfl, A.ob, T.cl, T.n_lv, f_lives _ _ _, _, rfl, x.LV, _, _, v, rfl, rfl, A.lv, ixN_nat (by rw [List.length_map]; omega), ?_⟩
    rw [← List.map_set]
    have A1 := A.setLV (c.lives.set v true)
    have k1 : KeepC x H (upd H x.LV (.lst ((c.lives.set v true).map V.bl))) := KeepC.put (lst_in (i := 4) rfl) _ _
    generalize upd H x.LV (.lst ((c.lives.set v true).map V.bl)) = H1 at *
    obtain ⟨a, ws, aw, as, sl, ej, hq, hwv, hw1, hs1, hps⟩ := A1.job.wk hwk
    refine ⟨_, rfl, x.p, C, x.dx, _, _, rfl, A1.ob, T.cl, T.n_now, f_now _ _ _, _, rfl, x.p, C, x.dx, _, _, rfl, A1.ob, T.cl, T.n_jb, f_job _ _ _, _, rfl, a, _, _, _, ej, rfl, hq, atI_nat hwv, aw, _, _, _, rfl, rfl, hw1, rfl, _, _, rfl, rfl, x.dx, _, A1.ob, few _ _ _, ?_⟩
    rw [p_now]
    have A2 := A1.setOb (c.now + wk.1) c.most
    have k2 := k1.trans (KeepC.putP x H1 (.ins C x.dx (cflds x (c.now + wk.1) c.most)))
    have er : roomAt J v = wk.1 := room_of hwk
    refine ⟨_, rfl, x.p, C, x.dx, _, _, rfl, A2.ob, T.cl, T.n_most, f_most _ _ _, _, rfl, x.p, C, x.dx, _, _, rfl, A2.ob, T.cl, T.n_now, f_now _ _ _, _, _, rfl, _, rfl, x.p, C, x.dx, _, rfl, A2.ob, T.cl, T.n_most, few _ _ _, ?_⟩
    rw [p_most]
    generalize upd H1 x.p (.ins C x.dx (cflds x (c.now + wk.1) c.most)) = H2 at *
    refine q _ ?_ (k2.trans (KeepC.putP x H2 _))
    have A3 := A2.setOb (c.now + wk.1) (mx2 c.most (c.now + wk.1))
    unfold beginC
    rw [er]
    exact A3
abbrev n_end_ : List Str := ["self", "work"]
theorem sc_end_ : FnScope n_end_ ["self", "work"] (defScope sEnd) := ⟨rfl, rfl, rfl, by decide +kernel, rfl, by decide +kernel, by decide +kernel⟩
theorem ok_end_ {f : Addr} {fd : FuncData} (F : Fun K "end" "Crew.end" sEnd f fd) (T : TxtC K mg C) :
    FnOk P w K mg base CX0 1 f fd ["self", "work"] (spEnd K C) := by
  refine F.ok sc_end_ (fun vs H Q E h => ?_) (fun cdv Ar outer s H vs Q E hr h => ?_)
  · obtain ⟨x, J, c, v, rfl, _⟩ := h
    rfl
  · obtain ⟨x, J, c, v, rfl, A, hv, hl, q⟩ := h
    refine ⟨_, pss_cons (ps_asg (pe_bl) (pg_sub (pe_fld (pv 0) rfl) (pv 1) set_list)) (pss_one (ps_fldaug (pv 0) (pe_ix ix_tup (pe_ix ix_tup (pe_fld (pv 0) rfl) (pv 1) (fun _ _ => rfl)) (pe_int) (fun _ _ => rfl)) in_sub)), ?_⟩
    obtain ⟨wk, hwk⟩ : ∃ wk, J[v]? = some wk := ⟨_, List.getElem?_eq_getElem hv⟩
    refine ⟨_, rfl, x.p, C, x.dx, _, _, rfl, A.ob, T.cl, T.n_lv, f_lives _ _ _, _, rfl, x.LV, _, _, v, rfl, rfl, A.lv, ixN_nat (by rw [List.length_map]; omega), ?_⟩
    rw [← List.map_set]
    have A1 := A.setLV (c.lives.set v false)
    have k1 : KeepC x H (upd H x.LV (.lst ((c.lives.set v false).map V.bl))) := KeepC.put (lst_in (i := 4) rfl) _ _
    generalize upd H x.LV (.lst ((c.lives.set v false).map V.bl)) = H1 at *
    obtain ⟨a, ws, aw, as, sl, ej, hq, hwv, hw1, hs1, hps⟩ := A1.job.wk hwk
    have er : roomAt J v = wk.1 := room_of hwk
    refine ⟨_, rfl, x.p, C, x.dx, _, _, rfl, A1.ob, T.cl, T.n_now, f_now _ _ _, _, rfl, x.p, C, x.dx, _, _, rfl, A1.ob, T.cl, T.n_jb, f_job _ _ _, _, rfl, a, _, _, _, ej, rfl, hq, atI_nat hwv, aw, _, _, _, rfl, rfl, hw1, rfl, _, _, rfl, rfl, x.dx, _, A1.ob, few _ _ _, ?_⟩
    rw [p_now]
    refine q _ ?_ (k1.trans (KeepC.putP x H1 _))
    have A3 := A1.setOb (c.now - wk.1) c.most
    unfold endC
    rw [er]
    exact A3
abbrev n_ended : List Str := ["self"]
theorem sc_ended : FnScope n_ended ["self"] (defScope sEnded) := ⟨rfl, rfl, rfl, by decide +kernel, rfl, by decide +kernel, by decide +kernel⟩
theorem ok_ended {f : Addr} {fd : FuncData} (F : Fun K "all_ended" "Crew.all_ended" sEnded f fd) (T : TxtC K mg C) :
    FnOk P w K mg base CX0 1 f fd ["self"] (spEnded K C) := by
  refine F.ok sc_ended (fun vs H Q E h => ?_) (fun cdv Ar outer s H vs Q E hr h => ?_)
  · obtain ⟨x, J, c, rfl, _⟩ := h
    rfl
  · obtain ⟨x, J, c, rfl, A, hv, q⟩ := h
    refine ⟨_, pss_one (ps_ret (pe_not (pe_ix ix_list (pe_fld (pv 0) rfl) (pe_int) (fun _ _ => rfl)))), ?_⟩
    obtain ⟨b, hb⟩ : ∃ b, c.lives[0]? = some b := ⟨_, List.getElem?_eq_getElem hv⟩
    refine ⟨_, rfl, x.p, C, x.dx, _, _, rfl, A.ob, T.cl, T.n_lv, f_lives _ _ _, x.LV, _, _, _, rfl, rfl, SqL.of A.lv, atI_nat (j := 0) (mapAt hb), _, rfl, ?_⟩
    have e : livesAt c 0 = b := by unfold livesAt; rw [hb]; rfl
    rw [e] at q
    exact q
abbrev n_noneLeft : List Str := ["self", "work"]
theorem sc_noneLeft : FnScope n_noneLeft ["self", "work"] (defScope sNoneLeft) := ⟨rfl, rfl, rfl, by decide +kernel, rfl, by decide +kernel, by decide +kernel⟩
theorem ok_noneLeft {f : Addr} {fd : FuncData} (F : Fun K "none_left" "Crew.none_left" sNoneLeft f fd) (T : TxtC K mg C) :
    FnOk P w K mg base CX0 1 f fd ["self", "work"] (spNoneLeft K C) := by
  refine F.ok sc_noneLeft (fun vs H Q E h => ?_) (fun cdv Ar outer s H vs Q E hr h => ?_)
  · obtain ⟨x, J, c, v, rfl, _⟩ := h
    rfl
  · obtain ⟨x, J, c, v, rfl, A, hl, hv, q⟩ := h
    refine ⟨_, pss_one (ps_ret (pe_cmpR op_eq (pe_ix ix_list (pe_fld (pv 0) rfl) (pv 1) (fun _ _ => rfl)) (pe_callB call_len_seq rfl T.len PySem.boot_len (pa_cons (pe_ix ix_tup (pe_ix ix_tup (pe_fld (pv 0) rfl) (pv 1) (fun _ _ => rfl)) (pe_int) (fun _ _ => rfl)) pa_nil)) (nomark _))), ?_⟩
    obtain ⟨wk, hwk⟩ : ∃ wk, J[v]? = some wk := ⟨_, List.getElem?_eq_getElem hv⟩
    obtain ⟨k, hk⟩ : ∃ k, c.nx[v]? = some k := ⟨_, List.getElem?_eq_getElem (by omega)⟩
    obtain ⟨a, ws, aw, as, sl, ej, hq, hwv, hw1, hs1, hps⟩ := A.job.wk hwk
    have e1 : nxAt c v = k := by unfold nxAt; rw [hk]; rfl
    have e2 := sts_of hwk
    have e3 := plen hps
    refine ⟨_, rfl, x.p, C, x.dx, _, _, rfl, A.ob, T.cl, T.n_nx, f_next _ _ _, _, rfl, x.NX, _, _, _, rfl, rfl, SqL.of A.nx, atI_nat (mapAt hk), _, rfl, x.p, C, x.dx, _, _, rfl, A.ob, T.cl, T.n_jb, f_job _ _ _, _, rfl, a, _, _, _, ej, rfl, hq, atI_nat hwv, aw, _, _, _, rfl, rfl, hw1, rfl, as, _, rfl, .inr hs1, rfl, ?_⟩
    have e : decide (natV k = V.int ((sl.length : Nat) : Int)) = noneLeft J c v := by
      unfold noneLeft natV
      rw [e1, e2, ← e3]
      by_cases z : k = sl.length
      · subst z; simp
      · rw [decide_eq_false z, decide_eq_false]
        intro y
        injection y with y
        omega
    rw [e]
    exact q
end
end Far
set_option Elab.async false
set_option linter.all false
set_option maxRecDepth 100000
set_option maxHeartbeats 4000000
set_option pp.maxSteps 500
namespace Far
open PySem L2
section
variable {P : Program} {w : World} {K : PySem.W.Frag} {mg : Str → Option Value} {base : Heap} {C : Addr}
abbrev n_isWhole : List Str := ["thing"]
theorem sc_isWhole : FnScope n_isWhole ["thing"] (defScope sIsWhole) := ⟨rfl, rfl, rfl, by decide +kernel, rfl, by decide +kernel, by decide +kernel⟩
theorem ok_isWhole {f : Addr} {fd : FuncData} (F : Fun K "is_whole" "is_whole" sIsWhole f fd) (T : TxtC K mg C) :
    FnOk P w K mg base CX0 1 f fd ["thing"] (spIsWhole K) := by
  refine F.ok sc_isWhole (fun vs H Q E h => ?_) (fun cdv Ar outer s H vs Q E hr h => ?_)
  · obtain ⟨v, b, rfl, _⟩ := h
    rfl
  · obtain ⟨v, b, rfl, ⟨t, bi, bb, ty, k1, k2, rfl, _⟩, q⟩ := h
    refine ⟨_, pss_one (ps_ret (pe_and (pe_callB (cr_isE (T := "int")) rfl T.isinstance (by decide +kernel) (pa_cons (pv 0) (pa_cons (pe_bltn (v := .ty "int") rfl T.int (by decide +kernel) rfl) pa_nil))) (pe_one (pe_not (pe_callB (cr_isE (T := "bool")) rfl T.isinstance (by decide +kernel) (pa_cons (pv 0) (pa_cons (pe_bltn (v := .ty "bool") rfl T.bool (by decide +kernel) rfl) pa_nil))))))), ?_⟩
    refine ⟨_, rfl, _, t, bi, rfl, ty, k1, _, rfl, ?_⟩
    cases bi with
    | false => exact iteF q
    | true =>
      refine iteT ?_
      exact ⟨_, rfl, _, t, bb, rfl, ty, k2 rfl, _, rfl, q⟩
abbrev n_isHand : List Str := ["thing", "hands"]
theorem sc_isHand : FnScope n_isHand ["thing", "hands"] (defScope sIsHand) := ⟨rfl, rfl, rfl, by decide +kernel, rfl, by decide +kernel, by decide +kernel⟩
theorem ok_isHand {f : Addr} {fd : FuncData} (F : Fun K "is_hand" "is_hand" sIsHand f fd) (T : TxtC K mg C)
    {f_is_whole : Addr} {d_is_whole : FuncData} (G_is_whole : FnOk P w K mg base CX0 1 f_is_whole d_is_whole ["thing"] (spIsWhole K)) (b_is_whole : Binds K d_is_whole ["thing"] []) (k_is_whole : PySem.W.keepIn K (.ref f_is_whole) = true) (m_is_whole : mg "is_whole" = some (.ref f_is_whole)) :
    FnOk P w K mg base CX0 2 f fd ["thing", "hands"] (spIsHand K) := by
  refine F.ok sc_isHand (fun vs H Q E h => ?_) (fun cdv Ar outer s H vs Q E hr h => ?_)
  · obtain ⟨v, b, n, rfl, _⟩ := h
    rfl
  · obtain ⟨v, b, n, rfl, hw, q⟩ := h
    refine ⟨_, pss_one (ps_ret (pe_and (pe_call G_is_whole (hr.mono (by decide)) rfl m_is_whole k_is_whole b_is_whole .nil pass0 (pa_cons (pv 0) pa_nil)) (pe_one (pe_chain op_le op_lt (pe_int) (pv 0) (pv 1))))), ?_⟩
    obtain ⟨_, _, _, _, _, _, _, hi⟩ := id hw
    refine ⟨_, rfl, v, b, rfl, hw, _, rfl, ?_⟩
    cases b with
    | false => exact iteF q
    | true =>
      refine iteT ?_
      obtain ⟨i, rfl⟩ := hi rfl
      refine ⟨_, rfl, _, _, rfl, rfl, _, rfl, ?_⟩
      cases e : decide (0 ≤ i) with
      | false =>
        refine iteF ?_
        have : (true && handB (.int i) n) = false := by show (decide (0 ≤ i) && _) = false; rw [e]; rfl
        rw [this] at q
        exact q
      | true =>
        refine iteT ?_
        refine ⟨_, rfl, _, _, rfl, rfl, ?_⟩
        have : (true && handB (.int i) n) = decide (i < (n : Int)) := by show (decide (0 ≤ i) && _) = _; rw [e]; rfl
        rw [this] at q
        exact q
abbrev n_other : List Str := ["hand", "hands", "other"]
theorem sc_other : FnScope n_other ["hand", "hands"] (defScope sOther) := ⟨rfl, rfl, rfl, by decide +kernel, rfl, by decide +kernel, by decide +kernel⟩
theorem ok_other {f : Addr} {fd : FuncData} (F : Fun K "other_hands" "other_hands" sOther f fd) (T : TxtC K mg C) :
    FnOk P w K mg base CX0 1 f fd ["hand", "hands"] spOther := by
  refine F.ok sc_other (fun vs H Q E h => ?_) (fun cdv Ar outer s H vs Q E hr h => ?_)
  · obtain ⟨h, n, rfl, _⟩ := h
    rfl
  · obtain ⟨h, n, rfl, hn, q⟩ := h
    refine ⟨_, pss_one (ps_ret (pe_lc (own := [("other", 2)]) (g := gName 2) (by rfl) sc_other.nd (pi_range1 rfl T.range (pa_cons (pv 1) pa_nil)) (blkOk_by (own := [("other", 2)]) (N := n_other) (sc := defScope sOther) (by decide +kernel)) (fun _ _ _ _ _ => pg_name (i := 2) sc_other.nd rfl (Or.inl rfl)) (fun _ _ _ _ _ => pts_one (pt_cmpR op_ne (pv 2) (pv 0) (nomark _))) (fun _ _ _ _ _ => pv 2))), ?_⟩
    refine ⟨_, rfl, _, rfl, by omega, by omega, fun D hD => ?_⟩
    refine lc_range (lo := 0) (n := ((n : Nat) : Int).toNat) (fun i H2 => Same H H2 ∧ H2 D = some (.lst (((List.range i).filter fun o => !decide (o = h)).map natV))) ⟨same_new hD _, upd_same⟩ ?_ ?_
    · rintro i H2 hi ⟨s2, hD2⟩
      rw [Int.toNat_natCast] at hi
      refine ⟨rfl, _, rfl, _, rfl, rfl, _, rfl, ?_⟩
      have ed : decide (V.int (0 + (i : Int)) = natV h) = decide (i = h) := by
        rw [Int.zero_add]
        by_cases e : i = h
        · subst e; exact (decide_eq_true (show V.int ((i : Nat) : Int) = natV i from rfl)).trans (decide_eq_true rfl).symm
        · rw [decide_eq_false e, decide_eq_false]
          intro z
          injection z with z
          omega
      rw [ed, List.range_succ, List.filter_append]
      cases e : decide (i = h) with
      | true =>
        refine iteF ?_
        refine ⟨s2, ?_⟩
        rw [show List.filter (fun o => !decide (o = h)) [i] = [] by simp [e, of_decide_eq_true e], List.append_nil]
        exact hD2
      | false =>
        refine iteT ?_
        refine ⟨_, rfl, _, hD2, small1000 ?_, fun c o z => ?_, ?_⟩
        · rw [List.length_map]
          have := List.length_filter_le (fun o => !decide (o = h)) (List.range i)
          rw [List.length_range] at this
          omega
        · rw [upd_ne (ne_of_none z hD)]; exact s2 c o z
        · have e' := of_decide_eq_false e
          rw [upd_same, show List.filter (fun o => !decide (o = h)) [i] = [i] by simp [e'], List.map_append, Int.zero_add]
          rfl
    · rintro H2 ⟨s2, hD2⟩
      rw [Int.toNat_natCast] at hD2
      exact q D H2 hD s2 hD2
abbrev n_looks : List Str := ["hand", "hands"]
theorem sc_looks : FnScope n_looks ["hand", "hands"] (defScope sLooks) := ⟨rfl, rfl, rfl, by decide +kernel, rfl, by decide +kernel, by decide +kernel⟩
theorem ok_looks {f : Addr} {fd : FuncData} (F : Fun K "looks" "looks" sLooks f fd) (T : TxtC K mg C)
    {f_other_hands : Addr} {d_other_hands : FuncData} (G_other_hands : FnOk P w K mg base CX0 1 f_other_hands d_other_hands ["hand", "hands"] spOther) (b_other_hands : Binds K d_other_hands ["hand", "hands"] []) (k_other_hands : PySem.W.keepIn K (.ref f_other_hands) = true) (m_other_hands : mg "other_hands" = some (.ref f_other_hands)) :
    FnOk P w K mg base CX0 2 f fd ["hand", "hands"] spLooks := by
  refine F.ok sc_looks (fun vs H Q E h => ?_) (fun cdv Ar outer s H vs Q E hr h => ?_)
  · obtain ⟨h, n, rfl, _⟩ := h
    rfl
  · obtain ⟨h, n, rfl, hn, q⟩ := h
    refine ⟨_, pss_one (ps_ret (pe_orT (pe_call G_other_hands (hr.mono (by decide)) rfl m_other_hands k_other_hands b_other_hands .nil pass0 (pa_cons (pv 0) (pa_cons (pv 1) pa_nil))) (pe_one (pe_lst (pa_cons (pe_int) pa_nil))))), ?_⟩
    refine ⟨_, rfl, _, rfl, h, n, rfl, hn, fun p H1 ep s1 hp => ⟨_, .inl ⟨_, SqL.of hp, rfl⟩, ?_⟩⟩
    unfold looksL at q
    rw [isEmpty_map']
    cases e : (othersL h n).isEmpty with
    | false =>
      rw [e, if_neg (by decide)] at q
      exact iteT (q p H1 ep s1 hp)
    | true =>
      rw [e, if_pos rfl] at q
      refine iteF ?_
      refine ⟨(by show 1 ≤ sizeLine; decide), fun p2 e2 => ?_⟩
      exact q p2 _ (s1.free e2) (s1.trans (same_new e2 _)) upd_same
abbrev n_isTurn : List Str := ["thing", "hands", "hand", "other"]
theorem sc_isTurn : FnScope n_isTurn ["thing", "hands"] (defScope sIsTurn) := ⟨rfl, rfl, rfl, by decide +kernel, rfl, by decide +kernel, by decide +kernel⟩
theorem ok_isTurn {f : Addr} {fd : FuncData} (F : Fun K "is_turn" "is_turn" sIsTurn f fd) (T : TxtC K mg C)
    {f_is_hand : Addr} {d_is_hand : FuncData} (G_is_hand : FnOk P w K mg base CX0 2 f_is_hand d_is_hand ["thing", "hands"] (spIsHand K)) (b_is_hand : Binds K d_is_hand ["thing", "hands"] []) (k_is_hand : PySem.W.keepIn K (.ref f_is_hand) = true) (m_is_hand : mg "is_hand" = some (.ref f_is_hand))
    {f_looks : Addr} {d_looks : FuncData} (G_looks : FnOk P w K mg base CX0 2 f_looks d_looks ["hand", "hands"] spLooks) (b_looks : Binds K d_looks ["hand", "hands"] []) (k_looks : PySem.W.keepIn K (.ref f_looks) = true) (m_looks : mg "looks" = some (.ref f_looks)) :
    FnOk P w K mg base CX0 3 f fd ["thing", "hands"] (spIsTurn K) := by
  refine F.ok sc_isTurn (fun vs H Q E h => ?_) (fun cdv Ar outer s H vs Q E hr h => ?_)
  · obtain ⟨v, n, b, rfl, _⟩ := h
    rfl
  · obtain ⟨v, n, b, rfl, hn, ht, q⟩ := h
    refine ⟨_, pss_cons (ps_if (PW.pt (pw_or (pt_not (pt_val (pe_callB (cr_isE (T := "tuple")) rfl T.isinstance (by decide +kernel) (pa_cons (pv 0) (pa_cons (pe_bltn (v := .ty "tuple") rfl T.tuple (by decide +kernel) rfl) pa_nil))))) (pw_or1 (pt_cmpR op_ne (pe_callB call_len_seq rfl T.len PySem.boot_len (pa_cons (pv 0) pa_nil)) (pe_int) (nomark _))))) (pss_one (ps_ret (pe_bl))) pss_nil) (pss_cons (ps_asg (pv 0) (pg_tup rfl (pgs_cons (pg_name (i := 2) sc_isTurn.nd rfl (Or.inl rfl)) (pgs_cons (pg_name (i := 3) sc_isTurn.nd rfl (Or.inl rfl)) pgs_nil)))) (pss_one (ps_ret (pe_and (pe_call G_is_hand (hr.mono (by decide)) rfl m_is_hand k_is_hand b_is_hand .nil pass0 (pa_cons (pv 2) (pa_cons (pv 1) pa_nil))) (pe_and (pe_call G_is_hand (hr.mono (by decide)) rfl m_is_hand k_is_hand b_is_hand .nil pass0 (pa_cons (pv 3) (pa_cons (pv 1) pa_nil))) (pe_one (pe_cmpR op_in_seq (pv 3) (pe_call G_looks (hr.mono (by decide)) rfl m_looks k_looks b_looks .nil pass0 (pa_cons (pv 2) (pa_cons (pv 1) pa_nil))) (by rfl)))))))), ?_⟩
    rcases ht with ⟨t, ty, k, rfl⟩ | ⟨a, xs, rfl, ha, hl, hl2, rfl⟩ | ⟨a, x, o, bx, bo, rfl, ha, hx, ho, rfl⟩
    · refine ⟨_, rfl, _, t, _, rfl, ty, k, _, rfl, ?_⟩
      refine iteT ?_
      exact iteT (q H (Same.refl H))
    · refine ⟨_, rfl, _, _, _, rfl, .tup ha, kit_same _, _, rfl, ?_⟩
      refine iteF ?_
      refine ⟨_, rfl, a, xs, rfl, .inr (SqT.of ha), rfl, _, rfl, ?_⟩
      rw [decide_eq_false (fun z => hl (by injection z with z; omega))]
      exact iteT (q H (Same.refl H))
    · refine ⟨_, rfl, _, _, _, rfl, .tup ha, kit_same _, _, rfl, ?_⟩
      refine iteF ?_
      refine ⟨_, rfl, a, _, rfl, .inr (SqT.of ha), rfl, _, rfl, ?_⟩
      refine iteF ?_
      refine ⟨_, rfl, a, _, rfl, SqT.of ha, rfl, _, _, rfl, _, _, rfl, rfl, ?_⟩
      refine ⟨_, rfl, _, rfl, x, bx, n, rfl, hx, _, rfl, ?_⟩
      unfold turnB at q
      cases e1 : (bx && handB x n) with
      | false => rw [e1] at q; exact iteF (q H (Same.refl H))
      | true =>
        rw [e1] at q
        refine iteT ?_
        refine ⟨_, rfl, _, rfl, o, bo, n, rfl, ho, _, rfl, ?_⟩
        cases e2 : (bo && handB o n) with
        | false => rw [e2] at q; exact iteF (q H (Same.refl H))
        | true =>
          rw [e2] at q
          refine iteT ?_
          obtain ⟨i, rfl, hi0, hi1⟩ := hand_int hx e1
          obtain ⟨j, rfl, hj0, hj1⟩ := hand_int ho e2
          obtain ⟨i, rfl⟩ := Int.eq_ofNat_of_zero_le hi0
          obtain ⟨j, rfl⟩ := Int.eq_ofNat_of_zero_le hj0
          refine ⟨_, rfl, _, rfl, _, rfl, i, n, rfl, hn, fun p H1 ep s1 hp => ?_⟩
          refine ⟨p, _, rfl, .inl (SqL.of hp), rfl, flat_nat _, ?_⟩
          rw [show inV (V.int ((j : Nat) : Int)) ((looksL i n).map natV) = (looksL i n).contains j from inV_nat j _]
          have := q H1 s1
          rw [show inLooks (V.int ((i : Nat) : Int)) (V.int ((j : Nat) : Int)) n = (looksL i n).contains j from rfl] at this
          exact this
end
end Far
set_option Elab.async false
set_option linter.all false
set_option maxRecDepth 100000
set_option maxHeartbeats 4000000
set_option pp.maxSteps 500
namespace Far
open PySem L2
section
variable {P : Program} {w : World} {K : PySem.W.Frag} {mg : Str → Option Value} {base : Heap} {C CY : Addr}
abbrev n_turn : List Str := ["feed", "hands", "hand"]
theorem sc_turn : FnScope n_turn ["feed", "hands"] (defScope sTurn) := ⟨rfl, rfl, rfl, by decide +kernel, rfl, by decide +kernel, by decide +kernel⟩
theorem ok_turn {f : Addr} {fd : FuncData} (F : Fun K "_law_turn" "_law_turn" sTurn f fd) (T : TxtC K mg C)
    {f__law_take : Addr} {d__law_take : FuncData} (G__law_take : FnOk P w K mg base CX0 1 f__law_take d__law_take ["feed", "many"] spTake) (b__law_take : Binds K d__law_take ["feed", "many"] []) (k__law_take : PySem.W.keepIn K (.ref f__law_take) = true) (m__law_take : mg "_law_take" = some (.ref f__law_take)) :
    FnOk P w K mg base CX0 2 f fd ["feed", "hands"] spTurn := by
  refine F.ok sc_turn (fun vs H Q E h => ?_) (fun cdv Ar outer s H vs Q E hr h => ?_)
  · obtain ⟨f, n, rfl, _⟩ := h
    rfl
  · obtain ⟨f, n, rfl, hf, hn, hn2, q⟩ := h
    refine ⟨_, pss_cons (ps_set (i := 2) sc_turn.nd rfl (Or.inl rfl) (pe_call G__law_take (hr.mono (by decide)) rfl m__law_take k__law_take b__law_take .nil pass0 (pa_cons (pv 0) (pa_cons (pv 1) pa_nil)))) (pss_cons (ps_if (pt_cmpR op_eq (pv 1) (pe_int) (nomark _)) (pss_one (ps_ret (pe_tup (pa_cons (pe_int) (pa_cons (pe_int) pa_nil))))) pss_nil) (pss_one (ps_ret (pe_tup (pa_cons (pv 2) (pa_cons (pe_op op_mod (pe_op op_add (pe_op op_add (pv 2) (pe_int)) (pe_call G__law_take (hr.mono (by decide)) rfl m__law_take k__law_take b__law_take .nil pass0 (pa_cons (pv 0) (pa_cons (pe_op op_sub (pv 1) (pe_int)) pa_nil)))) (pv 1)) pa_nil)))))), ?_⟩
    refine ⟨_, rfl, _, rfl, f, _, rfl, hf, by omega, by omega, fun v H1 v0 v1 hf1 b1 => ?_⟩
    obtain ⟨hd, rfl⟩ := Int.eq_ofNat_of_zero_le v0
    have hdn : hd < n := by omega
    have nf : ∀ {T : Addr} {H' : Hp}, Two H' f → H' T = none → T ≠ f := fun t e z => by obtain ⟨x, y, h⟩ := t; rw [z, h] at e; cases e
    refine ⟨_, rfl, rfl, _, rfl, ?_⟩
    have ed : decide (natV n = V.int 1) = decide (n = 1) := by
      by_cases z : n = 1
      · subst z; rfl
      · rw [decide_eq_false z, decide_eq_false]
        intro y
        injection y with y
        omega
    rw [ed]
    by_cases z : n = 1
    · rw [decide_eq_true z]
      refine iteT ?_
      refine ⟨(by show 2 ≤ sizeLine; decide), fun T1 e1 => ?_⟩
      have s2 := same_new e1 (.tup [.int 0, .int 0])
      subst z
      exact q T1 0 0 _ (b1.free (nf hf1 e1) e1) one_good (hf1.same s2) (b1.trans (But.of s2)) upd_same
    · rw [decide_eq_false z]
      refine iteF ?_
      refine ⟨_, rfl, _, rfl, _, _, rfl, rfl, _, rfl, _, rfl, _, _, rfl, rfl, f, _, rfl, hf1, by omega, by omega, fun v2 H2 w0 w1 hf2 b2 => ?_⟩
      obtain ⟨v2, rfl⟩ := Int.eq_ofNat_of_zero_le w0
      refine ⟨_, _, rfl, rfl, _, rfl, _, _, rfl, rfl, by omega, (by show 2 ≤ sizeLine; decide), fun T1 e1 => ?_⟩
      have b12 := b1.trans b2
      have s3 := same_new e1 (.tup [natV hd, natV ((hd + 1 + v2) % n)])
      exact q T1 hd ((hd + 1 + v2) % n) _ (b12.free (nf hf2 e1) e1) (next_good hdn (by omega)) (hf2.same s3) (b12.trans (But.of s3)) upd_same
end
end Far
set_option Elab.async false
set_option linter.all false
set_option maxRecDepth 100000
set_option maxHeartbeats 4000000
namespace Far
open PySem L2
def Bd (x : Int) : Prop := -1298074214633706907132624082305024 < x ∧ x < 1298074214633706907132624082305024
theorem int_lenB {i : Int} (h : Bd i) : (PyData.shown (.int i)).length ≤ 120 := by
  have h2 : i.natAbs < 2 ^ 110 := by have := h.1; have := h.2; omega
  have h3 : (Nat.repr i.natAbs).length ≤ 110 := nat_repr_length_le (by decide) h2
  show (Str.ofString (toString i)).length ≤ 120
  rw [ofString_length]
  cases i with
  | ofNat n =>
    have e : toString (Int.ofNat n) = Nat.repr n := rfl
    rw [e]
    have : (Int.ofNat n).natAbs = n := rfl
    rw [this] at h3
    omega
  | negSucc n =>
    have e : toString (Int.negSucc n) = "-" ++ Nat.repr (n + 1) := rfl
    rw [e, String.length_append]
    have : (Int.negSucc n).natAbs = n + 1 := rfl
    rw [this] at h3
    have h4 : "-".length = 1 := rfl
    omega
theorem int_showB {i : Int} (h : Bd i) : i.natAbs.log2 < 1920 := by
  have h2 : i.natAbs < 2 ^ 110 := by have := h.1; have := h.2; omega
  by_cases z : i.natAbs = 0
  · rw [z]; decide
  · have := (Nat.log2_lt z).mpr h2
    omega
def ReprOk (d : PyData) : Prop := d.showable = true ∧ d.hasDict = false ∧ d.depth ≤ 60 ∧ d.shown.length ≤ sizeLine
theorem kit_bool_int {K : PySem.W.Frag} : PySem.W.kitOne K (.type "bool") (.type "int") = some true := by
  unfold PySem.W.kitOne
  rw [if_neg (by decide +kernel)]
  unfold PySem.W.kitCls
  rfl
theorem kit_str_int {K : PySem.W.Frag} : PySem.W.kitOne K (.type "str") (.type "int") = some false := by
  unfold PySem.W.kitOne
  rw [if_neg (by decide +kernel)]
  unfold PySem.W.kitCls
  rfl
theorem kit_list_int {K : PySem.W.Frag} : PySem.W.kitOne K (.type "list") (.type "int") = some false := by
  unfold PySem.W.kitOne
  rw [if_neg (by decide +kernel)]
  unfold PySem.W.kitCls
  rfl
theorem kit_tup_int {K : PySem.W.Frag} : PySem.W.kitOne K (.type "tuple") (.type "int") = some false := by
  unfold PySem.W.kitOne
  rw [if_neg (by decide +kernel)]
  unfold PySem.W.kitCls
  rfl
theorem kit_non_int {K : PySem.W.Frag} : PySem.W.kitOne K (.type "NoneType") (.type "int") = some false := by
  unfold PySem.W.kitOne
  rw [if_neg (by decide +kernel)]
  unfold PySem.W.kitCls
  rfl
structure Ent (K : PySem.W.Frag) (H : Hp) (v : V) (d : PyData) : Prop where
  wh : ∃ b, (b = false → ∀ i, v ≠ .int i) ∧ ∀ H', Same H H' → WholeIs K H' v b
  dp : ∀ H', Same H H' → Dp K H' v d
  sh : d.showable = true
  nd : d.hasDict = false
  lv : d.leavesShort 120 = true
  dt : d.depth ≤ 3
  bk : d.bulk ≤ 20
theorem Ent.same {K : PySem.W.Frag} {H H' : Hp} {v : V} {d : PyData} (e : Ent K H v d) (s : Same H H') : Ent K H' v d :=
  ⟨let ⟨b, h1, h2⟩ := e.wh; ⟨b, h1, fun H2 s2 => h2 H2 (s.trans s2)⟩, fun H2 s2 => e.dp H2 (s.trans s2), e.sh, e.nd, e.lv, e.dt, e.bk⟩
theorem ents_same {K : PySem.W.Frag} {H H' : Hp} (s : Same H H') {xs : List V} {ds : List PyData} (p : Paired (Ent K H) xs ds) : Paired (Ent K H') xs ds := Paired.mapP p fun _ _ e => e.same s
theorem ent_int {K : PySem.W.Frag} {H : Hp} {i : Int} (h : Bd i) : Ent K H (.int i) (.int i) := by
  have hl := int_lenB h
  have hs := int_showB h
  refine ⟨⟨true, fun z => (by cases z), fun H' _ => whole_int i⟩, fun _ _ => .int i, ?_, rfl, ?_, ?_, ?_⟩
  · simp only [PyData.showable]; first | exact decide_eq_true hs | simpa using hs
  · simp only [PyData.leavesShort]; first | exact decide_eq_true hl | simpa using hl
  · simp only [PyData.depth]; omega
  · simp only [PyData.bulk]; omega
theorem ent_bl {K : PySem.W.Frag} {H : Hp} (b : Bool) : Ent K H (.bl b) (.bool b) := by
  refine ⟨⟨false, fun _ i z => (by cases z), fun H' _ => ⟨.type "bool", true, true, .bl b, kit_bool_int, fun _ => kit_same _, rfl, fun z => (by cases z)⟩⟩, fun _ _ => .bl b, ?_, ?_, ?_, ?_, ?_⟩ <;> cases b <;> decide +kernel
theorem ent_non {K : PySem.W.Frag} {H : Hp} : Ent K H .non .none := by
  refine ⟨⟨false, fun _ i z => (by cases z), fun H' _ => ⟨.type "NoneType", false, false, .non, kit_non_int, fun z => (by cases z), rfl, fun z => (by cases z)⟩⟩, fun _ _ => .non, ?_, ?_, ?_, ?_, ?_⟩ <;> decide +kernel
theorem ent_str {K : PySem.W.Frag} {H : Hp} : Ent K H (.str "0") (.str "0") := by
  refine ⟨⟨false, fun _ i z => (by cases z), fun H' _ => ⟨.type "str", false, false, .str _, kit_str_int, fun z => (by cases z), rfl, fun z => (by cases z)⟩⟩, fun _ _ => .str _, ?_, ?_, ?_, ?_, ?_⟩ <;> decide +kernel
theorem ent_lst {K : PySem.W.Frag} {H : Hp} {a : Addr} (e : H a = some (.lst [.int 0])) : Ent K H (.ref a) (.list [.int 0]) := by
  refine ⟨⟨false, fun _ i z => (by cases z), fun H' s => ⟨.type "list", false, false, .lst (s _ _ e), kit_list_int, fun z => (by cases z), rfl, fun z => (by cases z)⟩⟩, fun H' s => .lst (SqL.of (s _ _ e)) (.cons (.int 0) .nil), ?_, ?_, ?_, ?_, ?_⟩ <;> decide +kernel
theorem ent_tup {K : PySem.W.Frag} {H : Hp} {a : Addr} (e : H a = some (.tup [.int 0])) : Ent K H (.ref a) (.tuple [.int 0]) := by
  refine ⟨⟨false, fun _ i z => (by cases z), fun H' s => ⟨.type "tuple", false, false, .tup (s _ _ e), kit_tup_int, fun z => (by cases z), rfl, fun z => (by cases z)⟩⟩, fun H' s => .tup (SqT.of (s _ _ e)) (.cons (.int 0) .nil), ?_, ?_, ?_, ?_, ?_⟩ <;> decide +kernel
theorem ents_dp {K : PySem.W.Frag} {H : Hp} {xs : List V} {ds : List PyData} (p : Paired (Ent K H) xs ds) : DpAll K H xs ds := by
  induction p with
  | nil => exact .nil
  | cons r _ ih => exact .cons (r.dp _ (fun _ _ e => e)) ih
theorem ents_ready {K : PySem.W.Frag} {H : Hp} {xs : List V} {ds : List PyData} (p : Paired (Ent K H) xs ds) : PyData.showableAll ds = true ∧ PyData.hasDictAll ds = false ∧ PyData.leavesShortAll 120 ds = true ∧ PyData.depthAll ds ≤ 4 ∧ PyData.bulkAll ds ≤ 25 * ds.length := by
  induction p with
  | nil => refine ⟨rfl, rfl, rfl, ?_, ?_⟩ <;> simp only [PyData.depthAll, PyData.bulkAll, List.length_nil] <;> omega
  | @cons v d vs ds r _ ih =>
    obtain ⟨h1, h2, h3, h4, h5⟩ := ih
    have := r.dt
    have := r.bk
    refine ⟨?_, ?_, ?_, ?_, ?_⟩
    · simp only [PyData.showableAll, r.sh, h1, Bool.and_self]
    · simp only [PyData.hasDictAll, r.nd, h2, Bool.or_self]
    · simp only [PyData.leavesShortAll, r.lv, h3, Bool.and_self]
    · simp only [PyData.depthAll]; omega
    · simp only [PyData.bulkAll, List.length_cons]; omega
end Far
set_option Elab.async false
set_option linter.all false
set_option maxRecDepth 100000
set_option maxHeartbeats 4000000
namespace Far
open PySem L2
def minus (f : Addr) (H : Hp) : Hp := fun b => if b = f then none else H b
theorem kit_int_tup {K : PySem.W.Frag} : PySem.W.kitOne K (.type "int") (.type "tuple") = some false := by
  unfold PySem.W.kitOne
  rw [if_neg (by decide +kernel)]
  unfold PySem.W.kitCls
  rfl
theorem kit_bool_tup {K : PySem.W.Frag} : PySem.W.kitOne K (.type "bool") (.type "tuple") = some false := by
  unfold PySem.W.kitOne
  rw [if_neg (by decide +kernel)]
  unfold PySem.W.kitCls
  rfl
theorem kit_str_tup {K : PySem.W.Frag} : PySem.W.kitOne K (.type "str") (.type "tuple") = some false := by
  unfold PySem.W.kitOne
  rw [if_neg (by decide +kernel)]
  unfold PySem.W.kitCls
  rfl
theorem kit_non_tup {K : PySem.W.Frag} : PySem.W.kitOne K (.type "NoneType") (.type "tuple") = some false := by
  unfold PySem.W.kitOne
  rw [if_neg (by decide +kernel)]
  unfold PySem.W.kitCls
  rfl
theorem kit_list_tup {K : PySem.W.Frag} : PySem.W.kitOne K (.type "list") (.type "tuple") = some false := by
  unfold PySem.W.kitOne
  rw [if_neg (by decide +kernel)]
  unfold PySem.W.kitCls
  rfl
structure TEnt (K : PySem.W.Frag) (H : Hp) (n : Nat) (v : V) (d : PyData) (b : Bool) : Prop where
  tu : ∀ H', Same H H' → TurnIs K H' v n b
  dp : ∀ H', Same H H' → Dp K H' v d
  sh : d.showable = true
  nd : d.hasDict = false
  lv : d.leavesShort 120 = true
  dt : d.depth ≤ 10
  bk : d.bulk ≤ 100
theorem TEnt.same {K : PySem.W.Frag} {H H' : Hp} {n : Nat} {v : V} {d : PyData} {b : Bool} (e : TEnt K H n v d b) (s : Same H H') : TEnt K H' n v d b :=
  ⟨fun H2 s2 => e.tu H2 (s.trans s2), fun H2 s2 => e.dp H2 (s.trans s2), e.sh, e.nd, e.lv, e.dt, e.bk⟩
theorem tent_sc {K : PySem.W.Frag} {H : Hp} {n : Nat} {v : V} {d : PyData} {t : Value} (e : Ent K H v d) (ty : ∀ H', Same H H' → TyOf K H' v t) (k : PySem.W.kitOne K t (.type "tuple") = some false) : TEnt K H n v d false :=
  ⟨fun H' s => .inl ⟨t, ty H' s, k, rfl⟩, e.dp, e.sh, e.nd, e.lv, Nat.le_trans e.dt (by omega), Nat.le_trans e.bk (by omega)⟩
theorem tent_tup {K : PySem.W.Frag} {H : Hp} {n : Nat} {p : Addr} {xs : List V} {ds : List PyData} (e : Paired (Ent K H) xs ds) (hp : H p = some (.tup xs)) (hl : xs.length ≤ 3) : ∃ b, TEnt K H n (.ref p) (.tuple ds) b := by
  obtain ⟨h1, h2, h3, h4, h5⟩ := ents_ready e
  have hdl : ds.length ≤ 3 := by rw [← Paired.length e]; exact hl
  have hsh : (PyData.tuple ds).showable = true := by simpa only [PyData.showable] using h1
  have hnd : (PyData.tuple ds).hasDict = false := by simpa only [PyData.hasDict] using h2
  have hlv : (PyData.tuple ds).leavesShort 120 = true := by simpa only [PyData.leavesShort] using h3
  have hdt : (PyData.tuple ds).depth ≤ 10 := by simp only [PyData.depth]; omega
  have hbk : (PyData.tuple ds).bulk ≤ 100 := by simp only [PyData.bulk]; omega
  have hdp : ∀ H', Same H H' → Dp K H' (.ref p) (.tuple ds) := fun H' s => .tup (SqT.of (s _ _ hp)) (ents_dp (ents_same s e))
  by_cases z : xs.length = 2
  · cases e with
    | nil => cases z
    | @cons x dx r1 l1 ex r =>
      cases r with
      | nil => cases z
      | @cons y dy r2 l2 ey r =>
        cases r with
        | nil =>
          obtain ⟨bx, _, hx⟩ := ex.wh
          obtain ⟨by_, _, hy⟩ := ey.wh
          exact ⟨turnB bx by_ x y n, fun H' s => .inr (.inr ⟨p, x, y, bx, by_, rfl, s _ _ hp, hx H' s, hy H' s, rfl⟩), hdp, hsh, hnd, hlv, hdt, hbk⟩
        | cons _ _ => simp at z
  · exact ⟨false, fun H' s => .inr (.inl ⟨p, xs, rfl, s _ _ hp, z, by omega, rfl⟩), hdp, hsh, hnd, hlv, hdt, hbk⟩
theorem ent_pair {K : PySem.W.Frag} {H : Hp} {a : Addr} {x y : Int} (e : H a = some (.tup [.int x, .int y])) (hx : Bd x) (hy : Bd y) : Ent K H (.ref a) (.tuple [.int x, .int y]) := by
  have p : Paired (Ent K H) [V.int x, .int y] [PyData.int x, .int y] := .cons (ent_int hx) (.cons (ent_int hy) .nil)
  obtain ⟨h1, h2, h3, h4, h5⟩ := ents_ready p
  refine ⟨⟨false, fun _ i z => (by cases z), fun H' s => ⟨.type "tuple", false, false, .tup (s _ _ e), kit_tup_int, fun z => (by cases z), rfl, fun z => (by cases z)⟩⟩, fun H' s => .tup (SqT.of (s _ _ e)) (.cons (.int x) (.cons (.int y) .nil)), ?_, ?_, ?_, ?_, ?_⟩
  · simpa only [PyData.showable] using h1
  · simpa only [PyData.hasDict] using h2
  · simpa only [PyData.leavesShort] using h3
  · simp only [PyData.depth, PyData.depthAll]; omega
  · simp only [PyData.bulk, PyData.bulkAll]; omega
theorem tent_lst {K : PySem.W.Frag} {H : Hp} {n : Nat} {p : Addr} {xs : List V} {ds : List PyData} (e : Paired (Ent K H) xs ds) (hp : H p = some (.lst xs)) (hl : xs.length ≤ 3) : TEnt K H n (.ref p) (.list ds) false := by
  obtain ⟨h1, h2, h3, h4, h5⟩ := ents_ready e
  have hdl : ds.length ≤ 3 := by rw [← Paired.length e]; exact hl
  refine ⟨fun H' s => .inl ⟨.type "list", .lst (s _ _ hp), kit_list_tup, rfl⟩, fun H' s => .lst (SqL.of (s _ _ hp)) (ents_dp (ents_same s e)), ?_, ?_, ?_, ?_, ?_⟩
  · simpa only [PyData.showable] using h1
  · simpa only [PyData.hasDict] using h2
  · simpa only [PyData.leavesShort] using h3
  · simp only [PyData.depth]; omega
  · simp only [PyData.bulk]; omega
theorem ent_strs {K : PySem.W.Frag} {H : Hp} {x : Str} (h1 : (PyData.str x).showable = true) (h2 : (PyData.str x).leavesShort 120 = true) (h3 : (PyData.str x).bulk ≤ 20) : Ent K H (.str x) (.str x) :=
  ⟨⟨false, fun _ i z => (by cases z), fun H' _ => ⟨.type "str", false, false, .str _, kit_str_int, fun z => (by cases z), rfl, fun z => (by cases z)⟩⟩, fun _ _ => .str _, h1, rfl, h2, by simp only [PyData.depth]; omega, h3⟩
theorem repr_len2 {d : PyData} (h : d.leavesShort 120 = true) (hb : d.bulk ≤ 100000) : d.shown.length ≤ sizeLine := by
  have h1 := PyData.shown_le_bulk 120 (by decide) d h
  have h2 : sizeLine = 16777216 := by decide
  omega
inductive TEnts (K : PySem.W.Frag) (H : Hp) (n : Nat) : List V → List PyData → List Bool → Prop
  | nil : TEnts K H n [] [] []
  | cons {v : V} {vs : List V} {d : PyData} {ds : List PyData} {b : Bool} {bs : List Bool} : TEnt K H n v d b → TEnts K H n vs ds bs → TEnts K H n (v :: vs) (d :: ds) (b :: bs)
section
variable {K : PySem.W.Frag} {H H' : Hp} {n : Nat} {vs : List V} {ds : List PyData} {bs : List Bool}
theorem TEnts.same (e : TEnts K H n vs ds bs) (s : Same H H') : TEnts K H' n vs ds bs := by
  induction e with
  | nil => exact .nil
  | cons r _ ih => exact .cons (r.same s) ih
theorem TEnts.len (e : TEnts K H n vs ds bs) : ds.length = vs.length ∧ bs.length = vs.length := by
  induction e with
  | nil => exact ⟨rfl, rfl⟩
  | cons _ _ ih => exact ⟨by rw [List.length_cons, List.length_cons, ih.1], by rw [List.length_cons, List.length_cons, ih.2]⟩
theorem TEnts.app {vs2 : List V} {ds2 : List PyData} {bs2 : List Bool} (e : TEnts K H n vs ds bs) (e2 : TEnts K H n vs2 ds2 bs2) : TEnts K H n (vs ++ vs2) (ds ++ ds2) (bs ++ bs2) := by
  induction e with
  | nil => exact e2
  | cons r _ ih => exact .cons r ih
theorem TEnts.take (e : TEnts K H n vs ds bs) (k : Nat) : TEnts K H n (vs.take k) (ds.take k) (bs.take k) := by
  induction e generalizing k with
  | nil => cases k <;> exact .nil
  | cons r _ ih =>
    cases k with
    | zero => exact .nil
    | succ k => exact .cons r (ih k)
theorem TEnts.drop (e : TEnts K H n vs ds bs) (k : Nat) : TEnts K H n (vs.drop k) (ds.drop k) (bs.drop k) := by
  induction e generalizing k with
  | nil => cases k <;> exact .nil
  | cons r h ih =>
    cases k with
    | zero => exact .cons r h
    | succ k => exact ih k
theorem TEnts.at_ (e : TEnts K H n vs ds bs) {i : Nat} {v : V} (h : vs[i]? = some v) : ∃ d b, bs[i]? = some b ∧ TEnt K H n v d b := by
  induction e generalizing i with
  | nil => cases h
  | cons r _ ih =>
    cases i with
    | zero => cases h; exact ⟨_, _, rfl, r⟩
    | succ i => exact ih h
theorem TEnts.turns (e : TEnts K H n vs ds bs) : Paired (fun u b => ∀ H', Same H H' → TurnIs K H' u n b) vs bs := by
  induction e with
  | nil => exact .nil
  | cons r _ ih => exact .cons r.tu ih
theorem TEnts.dps (e : TEnts K H n vs ds bs) : DpAll K H vs ds := by
  induction e with
  | nil => exact .nil
  | cons r _ ih => exact .cons (r.dp _ (fun _ _ e => e)) ih
theorem TEnts.ready (e : TEnts K H n vs ds bs) : PyData.showableAll ds = true ∧ PyData.hasDictAll ds = false ∧ PyData.leavesShortAll 120 ds = true ∧ PyData.depthAll ds ≤ 11 ∧ PyData.bulkAll ds ≤ 101 * ds.length := by
  induction e with
  | nil => refine ⟨rfl, rfl, rfl, ?_, ?_⟩ <;> simp only [PyData.depthAll, PyData.bulkAll, List.length_nil] <;> omega
  | @cons v vs d ds b bs r _ ih =>
    obtain ⟨h1, h2, h3, h4, h5⟩ := ih
    have := r.dt
    have := r.bk
    refine ⟨?_, ?_, ?_, ?_, ?_⟩
    · simp only [PyData.showableAll, r.sh, h1, Bool.and_self]
    · simp only [PyData.hasDictAll, r.nd, h2, Bool.or_self]
    · simp only [PyData.leavesShortAll, r.lv, h3, Bool.and_self]
    · simp only [PyData.depthAll]; omega
    · simp only [PyData.bulkAll, List.length_cons]; omega
theorem TEnts.repr (e : TEnts K H n vs ds bs) (h : vs.length ≤ 900) : ReprOk (.list ds) := by
  obtain ⟨h1, h2, h3, h4, h5⟩ := e.ready
  have hl := e.len.1
  have hd : (PyData.list ds).depth ≤ 60 := by simp only [PyData.depth]; omega
  have hb : (PyData.list ds).bulk ≤ 100000 := by simp only [PyData.bulk]; omega
  refine ⟨?_, ?_, hd, repr_len2 ?_ hb⟩
  · simpa only [PyData.showable] using h1
  · simpa only [PyData.hasDict] using h2
  · simpa only [PyData.leavesShort] using h3
end
theorem bd_small {x : Int} (h0 : -1000000 < x) (h1 : x < 1000000) : Bd x := by
  unfold Bd
  constructor <;> omega
theorem tent_turn {K : PySem.W.Frag} {H : Hp} {n : Nat} {p : Addr} {h o : Nat} (hp : H p = some (.tup [natV h, natV o])) (g : GoodT n (h, o)) (hn : n ≤ 100) : TEnt K H n (.ref p) (.tuple [.int h, .int o]) true := by
  have hh := g.h
  have ho := g.o
  have e : Ent K H (.ref p) (.tuple [.int (h : Int), .int (o : Int)]) := ent_pair hp (bd_small (by omega) (by have : h < n := hh; omega)) (bd_small (by omega) (by have : o < n := ho; omega))
  exact ⟨fun H' s => .inr (.inr ⟨p, _, _, true, true, rfl, s _ _ hp, whole_int _, whole_int _, g.turn.symm⟩), e.dp, e.sh, e.nd, e.lv, Nat.le_trans e.dt (by omega), Nat.le_trans e.bk (by omega)⟩
end Far
set_option Elab.async false
set_option linter.all false
set_option maxRecDepth 100000
set_option maxHeartbeats 4000000
set_option pp.maxSteps 500
namespace Far
open PySem L2
def spLIsTurn (K : PySem.W.Frag) : Sp := fun vs H Q _ => ∃ (v : V) (n : Nat) (b : Bool), vs = [v, natV n] ∧ 0 < n ∧ n ≤ 100 ∧ TurnIs K H v n b ∧ Q (.bl b) H
def spOdd (K : PySem.W.Frag) : Sp := fun vs H Q _ => ∃ (f : Addr) (n : Nat), vs = [.ref f, natV n] ∧ Two H f ∧ 0 < n ∧ n ≤ 6 ∧ ∀ v d b H' G, Same G H' → (∀ c, c = f ∨ H c ≠ none → G c = none) → TEnt K G n v d b → Two H' f → But f H H' → Q v H'
theorem looks_iff {i j n : Nat} (hi : i < n) (hj : j < n) : (looksL i n).contains j = (decide (n = 1) || !decide (i = j)) := by
  by_cases h1 : n = 1
  · subst h1
    obtain rfl : i = 0 := by omega
    obtain rfl : j = 0 := by omega
    decide +kernel
  · have ne : (othersL i n).isEmpty = false := by
      rw [List.isEmpty_eq_false_iff_exists_mem]
      refine ⟨if i = 0 then 1 else 0, List.mem_filter.mpr ⟨List.mem_range.mpr (by split <;> omega), ?_⟩⟩
      split
      · rw [decide_eq_false (by omega)]; rfl
      · rw [decide_eq_false (by omega)]; rfl
    unfold looksL
    rw [if_neg (by rw [ne]; decide), decide_eq_false h1, Bool.false_or]
    by_cases e : i = j
    · subst e
      rw [decide_eq_true rfl]
      show _ = false
      refine Bool.eq_false_iff.mpr fun z => ?_
      have := (List.mem_filter.mp (List.contains_iff_mem.mp z)).2
      rw [decide_eq_true rfl] at this
      cases this
    · rw [decide_eq_false e]
      show _ = true
      refine List.contains_iff_mem.mpr (List.mem_filter.mpr ⟨List.mem_range.mpr hj, ?_⟩)
      rw [decide_eq_false (fun z => e z.symm)]
      rfl
section
variable {P : Program} {w : World} {K : PySem.W.Frag} {mg : Str → Option Value} {base : Heap} {C : Addr}
abbrev n_lWhole : List Str := ["found"]
theorem sc_lWhole : FnScope n_lWhole ["found"] (defScope sLWhole) := ⟨rfl, rfl, rfl, by decide +kernel, rfl, by decide +kernel, by decide +kernel⟩
theorem ok_lWhole {f : Addr} {fd : FuncData} (F : Fun K "_law_whole" "_law_whole" sLWhole f fd) (T : TxtC K mg C) :
    FnOk P w K mg base CX0 1 f fd ["found"] (spIsWhole K) := by
  refine F.ok sc_lWhole (fun vs H Q E h => ?_) (fun cdv Ar outer s H vs Q E hr h => ?_)
  · obtain ⟨v, b, rfl, _⟩ := h
    rfl
  · obtain ⟨v, b, rfl, ⟨t, bi, bb, ty, k1, k2, rfl, _⟩, q⟩ := h
    refine ⟨_, pss_one (ps_ret (pe_and (pe_callB (cr_isE (T := "int")) rfl T.isinstance (by decide +kernel) (pa_cons (pv 0) (pa_cons (pe_bltn (v := .ty "int") rfl T.int (by decide +kernel) rfl) pa_nil))) (pe_one (pe_not (pe_callB (cr_isE (T := "bool")) rfl T.isinstance (by decide +kernel) (pa_cons (pv 0) (pa_cons (pe_bltn (v := .ty "bool") rfl T.bool (by decide +kernel) rfl) pa_nil))))))), ?_⟩
    refine ⟨_, rfl, _, t, bi, rfl, ty, k1, _, rfl, ?_⟩
    cases bi with
    | false => exact iteF q
    | true =>
      refine iteT ?_
      exact ⟨_, rfl, _, t, bb, rfl, ty, k2 rfl, _, rfl, q⟩
abbrev n_lIsTurn : List Str := ["thing", "hands", "one"]
theorem sc_lIsTurn : FnScope n_lIsTurn ["thing", "hands"] (defScope sLIsTurn) := ⟨rfl, rfl, rfl, by decide +kernel, rfl, by decide +kernel, by decide +kernel⟩
theorem ok_lIsTurn {f : Addr} {fd : FuncData} (F : Fun K "_law_is_turn" "_law_is_turn" sLIsTurn f fd) (T : TxtC K mg C)
    {f__law_whole : Addr} {d__law_whole : FuncData} (G__law_whole : FnOk P w K mg base CX0 1 f__law_whole d__law_whole ["found"] (spIsWhole K)) (b__law_whole : Binds K d__law_whole ["found"] []) (k__law_whole : PySem.W.keepIn K (.ref f__law_whole) = true) (m__law_whole : mg "_law_whole" = some (.ref f__law_whole)) :
    FnOk P w K mg base CX0 2 f fd ["thing", "hands"] (spLIsTurn K) := by
  refine F.ok sc_lIsTurn (fun vs H Q E h => ?_) (fun cdv Ar outer s H vs Q E hr h => ?_)
  · obtain ⟨v, n, b, rfl, _⟩ := h
    rfl
  · obtain ⟨v, n, b, rfl, h0, hn, ht, q⟩ := h
    refine ⟨_, pss_cons (ps_if (PW.pt (pw_or (pt_not (pt_val (pe_callB (cr_isE (T := "tuple")) rfl T.isinstance (by decide +kernel) (pa_cons (pv 0) (pa_cons (pe_bltn (v := .ty "tuple") rfl T.tuple (by decide +kernel) rfl) pa_nil))))) (pw_or1 (pt_cmpR op_ne (pe_callB call_len_seq rfl T.len PySem.boot_len (pa_cons (pv 0) pa_nil)) (pe_int) (nomark _))))) (pss_one (ps_ret (pe_bl))) pss_nil) (pss_cons (ps_for PassesOwn.never rfl (pi_tup (pv 0)) (pg_name (i := 2) sc_lIsTurn.nd rfl (Or.inl rfl)) (pss_one (ps_if (PW.pt (pw_or (pt_not (pt_val (pe_call G__law_whole (hr.mono (by decide)) rfl m__law_whole k__law_whole b__law_whole .nil pass0 (pa_cons (pv 2) pa_nil)))) (pw_or (pt_cmpR op_lt (pv 2) (pe_int) (nomark _)) (pw_or1 (pt_cmpR op_ge (pv 2) (pv 1) (nomark _)))))) (pss_one (ps_ret (pe_bl))) pss_nil))) (pss_one (ps_ret (pe_or (pe_cmpR op_eq (pv 1) (pe_int) (nomark _)) (pe_one (pe_cmpR op_ne (pe_ix ix_tup (pv 0) (pe_int) (fun _ _ => rfl)) (pe_ix ix_tup (pv 0) (pe_int) (fun _ _ => rfl)) (nomark _))))))), ?_⟩
    rcases ht with ⟨t, ty, k, rfl⟩ | ⟨a, xs, rfl, ha, hl, hl2, rfl⟩ | ⟨a, x, o, bx, bo, rfl, ha, hx, ho, rfl⟩
    · refine ⟨_, rfl, _, t, _, rfl, ty, k, _, rfl, ?_⟩
      refine iteT ?_
      exact iteT q
    · refine ⟨_, rfl, _, _, _, rfl, .tup ha, kit_same _, _, rfl, ?_⟩
      refine iteF ?_
      refine ⟨_, rfl, a, xs, rfl, .inr (SqT.of ha), rfl, _, rfl, ?_⟩
      rw [decide_eq_false (fun z => hl (by injection z with z; omega))]
      exact iteT q
    · refine ⟨_, rfl, _, _, _, rfl, .tup ha, kit_same _, _, rfl, ?_⟩
      refine iteF ?_
      refine ⟨_, rfl, a, _, rfl, .inr (SqT.of ha), rfl, _, rfl, ?_⟩
      refine iteF ?_
      refine ⟨_, rfl, a, rfl, ⟨_, SqT.of ha⟩, ?_⟩
      unfold turnB at q
      refine for_tup (K := K) (a := a) (xs := [x, o]) (fun i σ H3 => ∃ v2 : Option V, σ = [some (.ref a), some (natV n), v2] ∧ H3 = H ∧ (1 ≤ i → (bx && handB x n) = true) ∧ (2 ≤ i → (bo && handB o n) = true))
        ⟨none, rfl, rfl, fun z => by omega, fun z => by omega⟩ (fun i σ H3 _ ⟨_, _, e, _⟩ => by rw [e]; exact SqT.of ha) ?_ ?_
      · rintro i y σ H3 hy ⟨v2, rfl, rfl, p1, p2⟩
        have hi2 : i < 2 := (List.getElem?_eq_some_iff.mp hy).1
        obtain ⟨by_, hby, hfin, hnx⟩ : ∃ by_, WholeIs K H3 y by_ ∧ ((by_ && handB y n) = false → ((bx && handB x n) && ((bo && handB o n) && inLooks x o n)) = false) ∧ ((by_ && handB y n) = true → (1 ≤ i + 1 → (bx && handB x n) = true) ∧ (2 ≤ i + 1 → (bo && handB o n) = true)) := by
          match i, hi2 with
          | 0, _ =>
            cases hy
            exact ⟨bx, hx, fun z => by rw [z]; rfl, fun z => ⟨fun _ => z, fun c => by omega⟩⟩
          | 1, _ =>
            cases hy
            exact ⟨bo, ho, fun z => by rw [z, Bool.false_and, Bool.and_false], fun z => ⟨fun _ => p1 (Nat.le_refl _), fun _ => z⟩⟩
        refine ⟨_, rfl, y, by_, rfl, hby, _, rfl, ?_⟩
        cases by_ with
        | false =>
          rw [hfin rfl] at q
          exact iteT (iteT q)
        | true =>
          obtain ⟨_, _, _, _, _, _, _, hint⟩ := hby
          obtain ⟨z, rfl⟩ := hint rfl
          refine iteF ?_
          refine ⟨_, rfl, _, _, rfl, rfl, _, rfl, ?_⟩
          by_cases c0 : z < 0
          · rw [decide_eq_true c0]
            rw [hfin (by show (true && (decide (0 ≤ z) && decide (z < (n : Int)))) = false; rw [decide_eq_false (by omega)]; rfl)] at q
            exact iteT (iteT q)
          · rw [decide_eq_false c0]
            refine iteF ?_
            refine ⟨_, rfl, _, rfl, _, _, rfl, rfl, _, rfl, ?_⟩
            by_cases c1 : (n : Int) ≤ z
            · rw [decide_eq_true c1]
              rw [hfin (by show (true && (decide (0 ≤ z) && decide (z < (n : Int)))) = false; rw [decide_eq_false (show ¬ z < (n : Int) by omega), Bool.and_false]; rfl)] at q
              exact iteT q
            · rw [decide_eq_false c1]
              refine iteF ?_
              exact ⟨_, rfl, rfl, hnx (by show (true && (decide (0 ≤ z) && decide (z < (n : Int)))) = true; rw [decide_eq_true (show (0 : Int) ≤ z by omega), decide_eq_true (show z < (n : Int) by omega)]; rfl)⟩
      · rintro σ H3 ⟨v2, rfl, rfl, p1, p2⟩
        have e1 := p1 (by show 1 ≤ 2; omega)
        have e2 := p2 (Nat.le_refl _)
        rw [e1, e2] at q
        obtain ⟨i, rfl, hi0, hi1⟩ := hand_int hx e1
        obtain ⟨j, rfl, hj0, hj1⟩ := hand_int ho e2
        obtain ⟨i, rfl⟩ := Int.eq_ofNat_of_zero_le hi0
        obtain ⟨j, rfl⟩ := Int.eq_ofNat_of_zero_le hj0
        rw [show inLooks (V.int ((i : Nat) : Int)) (V.int ((j : Nat) : Int)) n = (looksL i n).contains j from rfl, looks_iff (by omega) (by omega)] at q
        have ed : decide (natV n = V.int 1) = decide (n = 1) := by
          by_cases z : n = 1
          · rw [z]; rfl
          · rw [decide_eq_false z, decide_eq_false (fun c => z (by injection c with c; omega))]
        refine ⟨_, rfl, rfl, _, rfl, ?_⟩
        rw [ed]
        by_cases z : n = 1
        · rw [decide_eq_true z] at q ⊢
          exact iteT q
        · rw [decide_eq_false z] at q ⊢
          refine iteF ?_
          refine ⟨_, rfl, a, _, _, _, rfl, rfl, SqT.of ha, atI_nat (j := 0) rfl, _, rfl, a, _, _, _, rfl, rfl, SqT.of ha, atI_nat (j := 1) rfl, rfl, ?_⟩
          rw [show decide (V.int ((i : Nat) : Int) = V.int ((j : Nat) : Int)) = decide (i = j) by
            by_cases z : i = j
            · rw [z, decide_eq_true rfl, decide_eq_true rfl]
            · rw [decide_eq_false z, decide_eq_false (fun c => z (by injection c with c; omega))]]
          exact q
end
end Far
set_option Elab.async false
set_option linter.all false
set_option maxRecDepth 100000
set_option maxHeartbeats 4000000
set_option pp.maxSteps 500
namespace Far
open PySem L2
def newO (f : Addr) (H0 H : Hp) : Hp := fun b => if b = f ∨ (H0 b).isSome = true then none else H b
theorem newO_of {f p : Addr} {H0 H : Hp} {o : HO} (h : H p = some o) (n : H0 p = none) (nf : p ≠ f) : newO f H0 H p = some o := by
  unfold newO
  rw [if_neg (by rw [n]; rintro (z | z); exact nf z; cases z)]
  exact h
theorem newO_same {f : Addr} {H0 H : Hp} : Same (newO f H0 H) H := fun b o e => by
  unfold newO at e
  split at e
  · cases e
  · exact e
theorem newO_none {f c : Addr} {H0 H : Hp} (h : c = f ∨ H0 c ≠ none) : newO f H0 H c = none := by
  unfold newO
  rw [if_pos (h.imp id fun z => by cases q : H0 c with | none => exact absurd q z | some _ => rfl)]
theorem newO_but {f : Addr} {H0 H H' : Hp} (k : But f H H') : Same (newO f H0 H) (newO f H0 H') := fun b o e => by
  unfold newO at e ⊢
  split at e
  · cases e
  · rename_i z
    rw [if_neg z]
    exact k b o e fun y => z (.inl y)
theorem frsh {f p : Addr} {H H' : Hp} (k : But f H H') (t : Two H' f) (e : H' p = none) : H p = none := by
  cases q : H p with
  | none => rfl
  | some o =>
    by_cases z : p = f
    · obtain ⟨x, y, g⟩ := t
      rw [z, g] at e; cases e
    · rw [k p o q z] at e; cases e
section
variable {P : Program} {w : World} {K : PySem.W.Frag} {mg : Str → Option Value} {base : Heap} {C : Addr}
abbrev n_odd : List Str := ["feed", "hands", "hand", "other", "far", "some"]
theorem sc_odd : FnScope n_odd ["feed", "hands"] (defScope sOdd) := ⟨rfl, rfl, rfl, by decide +kernel, rfl, by decide +kernel, by decide +kernel⟩
theorem ok_odd {f : Addr} {fd : FuncData} (F : Fun K "_law_odd" "_law_odd" sOdd f fd) (T : TxtC K mg C)
    {f__law_turn : Addr} {d__law_turn : FuncData} (G__law_turn : FnOk P w K mg base CX0 2 f__law_turn d__law_turn ["feed", "hands"] spTurn) (b__law_turn : Binds K d__law_turn ["feed", "hands"] []) (k__law_turn : PySem.W.keepIn K (.ref f__law_turn) = true) (m__law_turn : mg "_law_turn" = some (.ref f__law_turn))
    {f__law_pick : Addr} {d__law_pick : FuncData} (G__law_pick : FnOk P w K mg base CX0 2 f__law_pick d__law_pick ["feed", "some"] spPick) (b__law_pick : Binds K d__law_pick ["feed", "some"] []) (k__law_pick : PySem.W.keepIn K (.ref f__law_pick) = true) (m__law_pick : mg "_law_pick" = some (.ref f__law_pick)) :
    FnOk P w K mg base CX0 3 f fd ["feed", "hands"] (spOdd K) := by
  refine F.ok sc_odd (fun vs H Q E h => ?_) (fun cdv Ar outer s H vs Q E hr h => ?_)
  · obtain ⟨f, n, rfl, _⟩ := h
    rfl
  · obtain ⟨f, n, rfl, hf, hn, hn6, q⟩ := h
    refine ⟨_, pss_cons (ps_asg (pe_call G__law_turn (hr.mono (by decide)) rfl m__law_turn k__law_turn b__law_turn .nil pass0 (pa_cons (pv 0) (pa_cons (pv 1) pa_nil))) (pg_tup rfl (pgs_cons (pg_name (i := 2) sc_odd.nd rfl (Or.inl rfl)) (pgs_cons (pg_name (i := 3) sc_odd.nd rfl (Or.inl rfl)) pgs_nil)))) (pss_cons (ps_set (i := 4) sc_odd.nd rfl (Or.inl rfl) (pe_call G__law_pick (hr.mono (by decide)) rfl m__law_pick k__law_pick b__law_pick .nil pass0 (pa_cons (pv 0) (pa_cons (pe_lst (pa_cons (pv 1) (pa_cons (pe_un un_neg (pe_int)) (pa_cons (pe_bl) (pa_cons (pe_bl) (pa_cons (pe_non) (pa_cons (pe_str) (pa_cons (pe_op op_pow (pe_int) (pe_int)) (pa_cons (pe_tup (pa_cons (pe_int) pa_nil)) (pa_cons (pe_lst (pa_cons (pe_int) pa_nil)) (pa_cons (pe_op op_add (pv 1) (pe_int)) pa_nil))))))))))) pa_nil)))) (pss_cons (ps_set (i := 5) sc_odd.nd rfl (Or.inl rfl) (pe_lst (pa_cons (pe_tup (pa_cons (pv 4) (pa_cons (pv 3) pa_nil))) (pa_cons (pe_tup (pa_cons (pv 2) (pa_cons (pv 4) pa_nil))) (pa_cons (pe_tup (pa_cons (pv 2) (pa_cons (pv 2) pa_nil))) (pa_cons (pe_tup (pa_cons (pv 2) (pa_cons (pv 3) (pa_cons (pe_int) pa_nil)))) (pa_cons (pe_tup (pa_cons (pv 2) pa_nil)) (pa_cons (pe_lst (pa_cons (pv 2) (pa_cons (pv 3) pa_nil))) (pa_cons (pv 2) (pa_cons (pe_non) (pa_cons (pe_tup (pa_nil)) (pa_cons (pe_str) pa_nil)))))))))))) (pss_one (ps_ret (pe_call G__law_pick (hr.mono (by decide)) rfl m__law_pick k__law_pick b__law_pick .nil pass0 (pa_cons (pv 0) (pa_cons (pe_op op_cat (pv 5) (pe_lst (pa_cons (pe_tup (pa_cons (pv 4) (pa_cons (pv 4) pa_nil))) (pa_cons (pe_tup (pa_cons (pe_tup (pa_cons (pv 2) (pa_cons (pv 3) pa_nil))) pa_nil)) (pa_cons (pe_bl) pa_nil))))) pa_nil))))))), ?_⟩
    refine ⟨_, rfl, _, rfl, f, n, rfl, hf, hn, by omega, fun T0 hd ot H1 eT0 g hf1 b1 hT0 => ?_⟩
    have hh : hd < n := g.h
    have ho : ot < n := g.o
    have bh : Bd (hd : Int) := bd_small (by omega) (by omega)
    have bo : Bd (ot : Int) := bd_small (by omega) (by omega)
    have bn : Bd (n : Int) := bd_small (by omega) (by omega)
    refine ⟨T0, _, rfl, SqT.of hT0, rfl, _, _, rfl, _, _, rfl, rfl, ?_⟩
    refine ⟨_, rfl, _, rfl, _, rfl, ?_⟩
    refine ⟨_, _, rfl, rfl, (by show CPow _ _; exact ⟨by decide, by decide, by decide⟩), ?_⟩
    refine ⟨(by show 1 ≤ sizeLine; decide), fun p0 e0 => ?_⟩
    have w0 := frsh b1 hf1 e0
    have t0 := same_new e0 (.tup [.int 0])
    have g0 : (upd H1 p0 (.tup [.int 0])) p0 = some (.tup [.int 0]) := upd_same
    have hf2 := hf1.same t0
    have b2 : But f H1 _ := But.of t0
    generalize upd H1 p0 (.tup [.int 0]) = H2 at *
    refine ⟨(by show 1 ≤ sizeLine; decide), fun p1 e1 => ?_⟩
    have w1 := frsh (b1.trans b2) hf2 e1
    have t1 := same_new e1 (.lst [.int 0])
    have g1 : (upd H2 p1 (.lst [.int 0])) p1 = some (.lst [.int 0]) := upd_same
    have hf3 := hf2.same t1
    have n1 : p1 ≠ f := (hf2.ne e1).symm
    have g0b := t1 _ _ g0
    generalize upd H2 p1 (.lst [.int 0]) = H3 at *
    refine ⟨_, rfl, _, _, rfl, rfl, ?_⟩
    refine ⟨(by show 10 ≤ sizeLine; decide), fun l0 el0 => ?_⟩
    have t2 : ∀ o, Same H3 (upd H3 l0 o) := fun o => same_new el0 o
    have hf4 := hf3.same (t2 (.lst [natV n, V.int (-1), V.bl true, V.bl false, V.non, V.str "0", V.int (10 ^ (29 : Int).toNat), V.ref p0, V.ref p1, V.int ((n : Int) + 1)]))
    have n2 : l0 ≠ f := (hf3.ne el0).symm
    refine ⟨f, l0, _, rfl, hf4, upd_same, n2, (by show 0 < 10; decide), (by show 10 < 1000; decide), fun v j H5 hv hf5 b5 => ?_⟩
    have g0c := (t2 (.lst [natV n, V.int (-1), V.bl true, V.bl false, V.non, V.str "0", V.int (10 ^ (29 : Int).toNat), V.ref p0, V.ref p1, V.int ((n : Int) + 1)])) _ _ g0b
    have g1c := (t2 (.lst [natV n, V.int (-1), V.bl true, V.bl false, V.non, V.str "0", V.int (10 ^ (29 : Int).toNat), V.ref p0, V.ref p1, V.int ((n : Int) + 1)])) _ _ g1
    have bA : But f H1 H5 := (But.of (t0.trans (t1.trans (t2 _)))).trans b5
    generalize upd H3 l0 (.lst [natV n, V.int (-1), V.bl true, V.bl false, V.non, V.str "0", V.int (10 ^ (29 : Int).toNat), V.ref p0, V.ref p1, V.int ((n : Int) + 1)]) = H4 at *
    obtain ⟨dv, ev⟩ : ∃ dv, Ent K (newO f H H5) v dv := by
      have g0d := newO_of (b5 _ _ g0c (fun z => by obtain ⟨x, y, e⟩ := hf4; rw [z, e] at g0c; cases g0c)) w0 (fun z => by obtain ⟨x, y, e⟩ := hf4; rw [z, e] at g0c; cases g0c)
      have g1d := newO_of (b5 _ _ g1c n1) w1 n1
      have hm := List.mem_of_getElem? hv
      simp only [List.mem_cons, List.not_mem_nil, or_false] at hm
      rcases hm with e | e | e | e | e | e | e | e | e | e
      · rw [e]; exact ⟨_, ent_int bn⟩
      · rw [e]; exact ⟨_, ent_int (by unfold Bd; decide)⟩
      · rw [e]; exact ⟨_, ent_bl true⟩
      · rw [e]; exact ⟨_, ent_bl false⟩
      · rw [e]; exact ⟨_, ent_non⟩
      · rw [e]; exact ⟨_, ent_str⟩
      · rw [e]; exact ⟨_, ent_int (by unfold Bd; decide)⟩
      · rw [e]; exact ⟨_, ent_tup g0d⟩
      · rw [e]; exact ⟨_, ent_lst g1d⟩
      · rw [e]; exact ⟨_, ent_int (bd_small (by omega) (by omega))⟩
    have bf5 : But f H H5 := b1.trans bA
    clear g0 g1 g0b g0c g1c t0 t1 t2 b2 hf2 hf3 hf4 b5 bA
    refine ⟨_, rfl, _, rfl, (by show 2 ≤ sizeLine; decide), fun q1 eq1 => ?_⟩
    have wq1 := frsh bf5 hf5 eq1
    have sq1 := same_new eq1 (.tup [v, natV ot])
    have gq1 : (upd H5 q1 (.tup [v, natV ot])) q1 = some (.tup [v, natV ot]) := upd_same
    have fq1 := hf5.same sq1
    generalize upd H5 q1 (.tup [v, natV ot]) = Hz0 at *
    refine ⟨_, rfl, _, rfl, (by show 2 ≤ sizeLine; decide), fun q2 eq2 => ?_⟩
    have wq2 := frsh (bf5.trans (But.of sq1)) fq1 eq2
    have sq2 := same_new eq2 (.tup [natV hd, v])
    have gq2 : (upd Hz0 q2 (.tup [natV hd, v])) q2 = some (.tup [natV hd, v]) := upd_same
    have fq2 := fq1.same sq2
    generalize upd Hz0 q2 (.tup [natV hd, v]) = Hz1 at *
    refine ⟨_, rfl, _, rfl, (by show 2 ≤ sizeLine; decide), fun q3 eq3 => ?_⟩
    have wq3 := frsh (bf5.trans (But.of (sq1.trans sq2))) fq2 eq3
    have sq3 := same_new eq3 (.tup [natV hd, natV hd])
    have gq3 : (upd Hz1 q3 (.tup [natV hd, natV hd])) q3 = some (.tup [natV hd, natV hd]) := upd_same
    have fq3 := fq2.same sq3
    generalize upd Hz1 q3 (.tup [natV hd, natV hd]) = Hz2 at *
    refine ⟨_, rfl, _, rfl, (by show 3 ≤ sizeLine; decide), fun q4 eq4 => ?_⟩
    have wq4 := frsh (bf5.trans (But.of (sq1.trans (sq2.trans sq3)))) fq3 eq4
    have sq4 := same_new eq4 (.tup [natV hd, natV ot, V.int 0])
    have gq4 : (upd Hz2 q4 (.tup [natV hd, natV ot, V.int 0])) q4 = some (.tup [natV hd, natV ot, V.int 0]) := upd_same
    have fq4 := fq3.same sq4
    generalize upd Hz2 q4 (.tup [natV hd, natV ot, V.int 0]) = Hz3 at *
    refine ⟨_, rfl, (by show 1 ≤ sizeLine; decide), fun q5 eq5 => ?_⟩
    have wq5 := frsh (bf5.trans (But.of (sq1.trans (sq2.trans (sq3.trans sq4))))) fq4 eq5
    have sq5 := same_new eq5 (.tup [natV hd])
    have gq5 : (upd Hz3 q5 (.tup [natV hd])) q5 = some (.tup [natV hd]) := upd_same
    have fq5 := fq4.same sq5
    generalize upd Hz3 q5 (.tup [natV hd]) = Hz4 at *
    refine ⟨_, rfl, _, rfl, (by show 2 ≤ sizeLine; decide), fun q6 eq6 => ?_⟩
    have wq6 := frsh (bf5.trans (But.of (sq1.trans (sq2.trans (sq3.trans (sq4.trans sq5)))))) fq5 eq6
    have sq6 := same_new eq6 (.lst [natV hd, natV ot])
    have gq6 : (upd Hz4 q6 (.lst [natV hd, natV ot])) q6 = some (.lst [natV hd, natV ot]) := upd_same
    have fq6 := fq5.same sq6
    have nq6 : q6 ≠ f := (fq5.ne eq6).symm
    generalize upd Hz4 q6 (.lst [natV hd, natV ot]) = Hz5 at *
    refine ⟨_, rfl, (by show 0 ≤ sizeLine; decide), fun q7 eq7 => ?_⟩
    have wq7 := frsh (bf5.trans (But.of (sq1.trans (sq2.trans (sq3.trans (sq4.trans (sq5.trans sq6))))))) fq6 eq7
    have sq7 := same_new eq7 (.tup [])
    have gq7 : (upd Hz5 q7 (.tup [])) q7 = some (.tup []) := upd_same
    have fq7 := fq6.same sq7
    generalize upd Hz5 q7 (.tup []) = Hz6 at *
    refine ⟨(by show 10 ≤ sizeLine; decide), fun S eS => ?_⟩
    have wS := frsh (bf5.trans (But.of (sq1.trans (sq2.trans (sq3.trans (sq4.trans (sq5.trans (sq6.trans sq7)))))))) fq7 eS
    have sS := same_new eS (.lst [V.ref q1, V.ref q2, V.ref q3, V.ref q4, V.ref q5, V.ref q6, natV hd, V.non, V.ref q7, V.str "01"])
    have gS : (upd Hz6 S (.lst [V.ref q1, V.ref q2, V.ref q3, V.ref q4, V.ref q5, V.ref q6, natV hd, V.non, V.ref q7, V.str "01"])) S = some (.lst [V.ref q1, V.ref q2, V.ref q3, V.ref q4, V.ref q5, V.ref q6, natV hd, V.non, V.ref q7, V.str "01"]) := upd_same
    have fS := fq7.same sS
    have nS : S ≠ f := (fq7.ne eS).symm
    generalize upd Hz6 S (.lst [V.ref q1, V.ref q2, V.ref q3, V.ref q4, V.ref q5, V.ref q6, natV hd, V.non, V.ref q7, V.str "01"]) = Hz7 at *
    refine ⟨_, rfl, _, rfl, _, rfl, _, rfl, (by show 2 ≤ sizeLine; decide), fun q8 eq8 => ?_⟩
    have wq8 := frsh (bf5.trans (But.of (sq1.trans (sq2.trans (sq3.trans (sq4.trans (sq5.trans (sq6.trans (sq7.trans sS))))))))) fS eq8
    have sq8 := same_new eq8 (.tup [v, v])
    have gq8 : (upd Hz7 q8 (.tup [v, v])) q8 = some (.tup [v, v]) := upd_same
    have fq8 := fS.same sq8
    generalize upd Hz7 q8 (.tup [v, v]) = Hz8 at *
    refine ⟨_, rfl, _, rfl, (by show 2 ≤ sizeLine; decide), fun q9 eq9 => ?_⟩
    have wq9 := frsh (bf5.trans (But.of (sq1.trans (sq2.trans (sq3.trans (sq4.trans (sq5.trans (sq6.trans (sq7.trans (sS.trans sq8)))))))))) fq8 eq9
    have sq9 := same_new eq9 (.tup [natV hd, natV ot])
    have gq9 : (upd Hz8 q9 (.tup [natV hd, natV ot])) q9 = some (.tup [natV hd, natV ot]) := upd_same
    have fq9 := fq8.same sq9
    generalize upd Hz8 q9 (.tup [natV hd, natV ot]) = Hz9 at *
    refine ⟨(by show 1 ≤ sizeLine; decide), fun q10 eq10 => ?_⟩
    have wq10 := frsh (bf5.trans (But.of (sq1.trans (sq2.trans (sq3.trans (sq4.trans (sq5.trans (sq6.trans (sq7.trans (sS.trans (sq8.trans sq9))))))))))) fq9 eq10
    have sq10 := same_new eq10 (.tup [V.ref q9])
    have gq10 : (upd Hz9 q10 (.tup [V.ref q9])) q10 = some (.tup [V.ref q9]) := upd_same
    have fq10 := fq9.same sq10
    generalize upd Hz9 q10 (.tup [V.ref q9]) = Hz10 at *
    refine ⟨(by show 3 ≤ sizeLine; decide), fun L2 eL2 => ?_⟩
    have wL2 := frsh (bf5.trans (But.of (sq1.trans (sq2.trans (sq3.trans (sq4.trans (sq5.trans (sq6.trans (sq7.trans (sS.trans (sq8.trans (sq9.trans sq10)))))))))))) fq10 eL2
    have sL2 := same_new eL2 (.lst [V.ref q8, V.ref q10, V.bl true])
    have gL2 : (upd Hz10 L2 (.lst [V.ref q8, V.ref q10, V.bl true])) L2 = some (.lst [V.ref q8, V.ref q10, V.bl true]) := upd_same
    have fL2 := fq10.same sL2
    have nL2 : L2 ≠ f := (fq10.ne eL2).symm
    generalize upd Hz10 L2 (.lst [V.ref q8, V.ref q10, V.bl true]) = Hz11 at *
    have kq1 := (sq2.trans (sq3.trans (sq4.trans (sq5.trans (sq6.trans (sq7.trans (sS.trans (sq8.trans (sq9.trans (sq10.trans sL2)))))))))) _ _ gq1
    have kq2 := (sq3.trans (sq4.trans (sq5.trans (sq6.trans (sq7.trans (sS.trans (sq8.trans (sq9.trans (sq10.trans sL2))))))))) _ _ gq2
    have kq3 := (sq4.trans (sq5.trans (sq6.trans (sq7.trans (sS.trans (sq8.trans (sq9.trans (sq10.trans sL2)))))))) _ _ gq3
    have kq4 := (sq5.trans (sq6.trans (sq7.trans (sS.trans (sq8.trans (sq9.trans (sq10.trans sL2))))))) _ _ gq4
    have kq5 := (sq6.trans (sq7.trans (sS.trans (sq8.trans (sq9.trans (sq10.trans sL2)))))) _ _ gq5
    have kq6 := (sq7.trans (sS.trans (sq8.trans (sq9.trans (sq10.trans sL2))))) _ _ gq6
    have kq7 := (sS.trans (sq8.trans (sq9.trans (sq10.trans sL2)))) _ _ gq7
    have kS := (sq8.trans (sq9.trans (sq10.trans sL2))) _ _ gS
    have kq8 := (sq9.trans (sq10.trans sL2)) _ _ gq8
    have kq9 := (sq10.trans sL2) _ _ gq9
    have kq10 := sL2 _ _ gq10
    have kL2 := gL2
    have sall : Same H5 Hz11 := (sq1.trans (sq2.trans (sq3.trans (sq4.trans (sq5.trans (sq6.trans (sq7.trans (sS.trans (sq8.trans (sq9.trans (sq10.trans sL2)))))))))))
    refine ⟨S, L2, _, _, rfl, rfl, kS, kL2, (by show 13 ≤ sizeLine; decide), fun L3 e3 => ?_⟩
    have s3 := same_new e3 (.lst ([V.ref q1, V.ref q2, V.ref q3, V.ref q4, V.ref q5, V.ref q6, natV hd, V.non, V.ref q7, V.str "01"] ++ [V.ref q8, V.ref q10, V.bl true]))
    have nL3 : L3 ≠ f := (fL2.ne e3).symm
    refine ⟨f, L3, _, rfl, fL2.same s3, upd_same, nL3, (by show 0 < 13; decide), (by show 13 < 1000; decide), fun u j H' hu hf' b' => ?_⟩
    have b5' : But f H5 H' := (But.of (sall.trans s3)).trans b'
    have m5 := newO_but (H0 := H) b5'
    have ev' := ev.same m5
    have eh : Ent K (newO f H H') (natV hd) (.int hd) := ent_int bh
    have eo : Ent K (newO f H H') (natV ot) (.int ot) := ent_int bo
    have tf : ∀ {p : Addr} {xs : List V}, Hz11 p = some (.tup xs) → H p = none → newO f H H' p = some (.tup xs) := fun {p xs} e wp => by
      have e2 := s3 _ _ e
      have np : p ≠ f := fun z => by
        obtain ⟨x, y, e⟩ := fL2.same s3
        rw [z, e] at e2; cases e2
      exact newO_of (b' _ _ e2 np) wp np
    have l6 : newO f H H' q6 = some (.lst [natV hd, natV ot]) := newO_of (b' _ _ (s3 _ _ kq6) nq6) wq6 nq6
    have main : ∃ d b, TEnt K (newO f H H') n u d b := by
      have hm := List.mem_of_getElem? hu
      simp only [List.mem_cons, List.cons_append, List.nil_append, List.not_mem_nil, or_false] at hm
      rcases hm with e | e | e | e | e | e | e | e | e | e | e | e | e
      · rw [e]; exact ⟨_, tent_tup (.cons ev' (.cons eo .nil)) (tf kq1 wq1) (by show 2 ≤ 3; decide)⟩
      · rw [e]; exact ⟨_, tent_tup (.cons eh (.cons ev' .nil)) (tf kq2 wq2) (by show 2 ≤ 3; decide)⟩
      · rw [e]; exact ⟨_, tent_tup (.cons eh (.cons eh .nil)) (tf kq3 wq3) (by show 2 ≤ 3; decide)⟩
      · rw [e]; exact ⟨_, tent_tup (.cons eh (.cons eo (.cons (ent_int (by unfold Bd; decide)) .nil))) (tf kq4 wq4) (by show 3 ≤ 3; decide)⟩
      · rw [e]; exact ⟨_, tent_tup (.cons eh .nil) (tf kq5 wq5) (by show 1 ≤ 3; decide)⟩
      · rw [e]; exact ⟨_, _, tent_lst (.cons eh (.cons eo .nil)) l6 (by show 2 ≤ 3; decide)⟩
      · rw [e]; exact ⟨_, _, tent_sc eh (fun _ _ => .int _) kit_int_tup⟩
      · rw [e]; exact ⟨_, _, tent_sc ent_non (fun _ _ => .non) kit_non_tup⟩
      · rw [e]; exact ⟨_, tent_tup .nil (tf kq7 wq7) (by show 0 ≤ 3; decide)⟩
      · rw [e]; exact ⟨_, _, tent_sc (ent_strs (by decide +kernel) (by decide +kernel) (by decide +kernel)) (fun _ _ => .str _) kit_str_tup⟩
      · rw [e]; exact ⟨_, tent_tup (.cons ev' (.cons ev' .nil)) (tf kq8 wq8) (by show 2 ≤ 3; decide)⟩
      · rw [e]; exact ⟨_, tent_tup (.cons (ent_pair (tf kq9 wq9) bh bo) .nil) (tf kq10 wq10) (by show 1 ≤ 3; decide)⟩
      · rw [e]; exact ⟨_, _, tent_sc (ent_bl true) (fun _ _ => .bl _) kit_bool_tup⟩
    obtain ⟨d, b, te⟩ := main
    exact q u d b H' _ newO_same (fun c hc => newO_none hc) te hf' (bf5.trans b5')
end
end Far
set_option Elab.async false
set_option linter.all false
set_option maxRecDepth 100000
set_option maxHeartbeats 4000000
set_option pp.maxSteps 500
namespace Far
open PySem L2
section
variable {P : Program} {w : World} {K : PySem.W.Frag} {mg : Str → Option Value} {base : Heap} {C : Addr}
abbrev n_hasKid : List Str := ["self", "work", "elder", "lives"]
theorem sc_hasKid : FnScope n_hasKid ["self", "work"] (defScope sHasKid) := ⟨rfl, rfl, rfl, by decide +kernel, rfl, by decide +kernel, by decide +kernel⟩
theorem ok_hasKid {f : Addr} {fd : FuncData} (F : Fun K "has_living_child" "Crew.has_living_child" sHasKid f fd) (T : TxtC K mg C) :
    FnOk P w K mg base CX0 1 f fd ["self", "work"] (spHasKid K C) := by
  refine F.ok sc_hasKid (fun vs H Q E h => ?_) (fun cdv Ar outer s H vs Q E hr h => ?_)
  · obtain ⟨x, J, c, v, rfl, _⟩ := h
    rfl
  · obtain ⟨x, J, c, v, rfl, A, hl, h12, q⟩ := h
    refine ⟨_, pss_one (ps_ret (pe_callB (cr_any rfl) rfl T.any (by decide +kernel) (pa_cons (pe_lc (own := [("elder", 2), ("lives", 3)]) (g := gTup K 2 (gCons (gName 2) (gCons (gName 3) gNil))) (by rfl) sc_hasKid.nd (pi_zip rfl T.zip (pa_cons (pe_fld (pv 0) rfl) (pa_cons (pe_fld (pv 0) rfl) pa_nil))) (blkOk_by (own := [("elder", 2), ("lives", 3)]) (N := n_hasKid) (sc := defScope sHasKid) (by decide +kernel)) (fun _ _ _ _ _ => pg_tup rfl (pgs_cons (pg_name (i := 2) sc_hasKid.nd rfl (Or.inl rfl)) (pgs_cons (pg_name (i := 3) sc_hasKid.nd rfl (Or.inl rfl)) pgs_nil))) (fun _ _ _ _ _ => pts_nil) (fun _ _ _ _ _ => pe_and (pe_cmpR op_eq (pv 2) (pv 1) (nomark _)) (pe_one (pv 3)))) pa_nil))), ?_⟩
    have hpl := parL_len J
    refine ⟨_, rfl, x.p, C, x.dx, _, _, rfl, A.ob, T.cl, T.n_el, f_elders _ _ _, _, rfl, x.p, C, x.dx, _, _, rfl, A.ob, T.cl, T.n_lv, f_lives _ _ _, x.E, x.LV, _, _, rfl, SqL.of A.el, SqL.of A.lv, fun D hD => ?_⟩
    refine lc_zip (K := K) (a := x.E) (b := x.LV) (xs := (parL J).map optV) (ys := c.lives.map V.bl) (by rw [List.length_map, List.length_map]; omega) (fun i H2 => Same H H2 ∧ H2 D = some (.lst ((((parL J).zip c.lives).take i).map fun y => V.bl (decide (y.1 = some v) && y.2))))
      ⟨same_new hD _, upd_same⟩ (fun i H2 _ ⟨s2, _⟩ => ⟨SqL.of (s2 _ _ A.el), SqL.of (s2 _ _ A.lv)⟩) ?_ ?_
    · rintro i y z T1 H2 hy hz hT ⟨s2, hD2⟩
      have hil := (List.getElem?_eq_some_iff.mp hy).1
      rw [List.length_map] at hil
      obtain ⟨o, ho, rfl⟩ := mapAt' hy
      obtain ⟨b, hb, rfl⟩ := mapAt' hz
      have hD3 := same_new hT (.tup [optV o, V.bl b]) _ _ hD2
      have hlen : ((((parL J).zip c.lives).take i).map fun y => V.bl (decide (y.1 = some v) && y.2)).length < sizeLine := by
        rw [List.length_map, List.length_take]
        exact small1000 (by omega)
      have fin : ∀ r : Bool, r = (decide (o = some v) && b) → ∃ acc, (upd H2 T1 (.tup [optV o, V.bl b])) D = some (.lst acc) ∧ acc.length < sizeLine ∧ Same H (upd (upd H2 T1 (.tup [optV o, V.bl b])) D (.lst (acc ++ [V.bl r]))) ∧ (upd (upd H2 T1 (.tup [optV o, V.bl b])) D (.lst (acc ++ [V.bl r]))) D = some (.lst ((((parL J).zip c.lives).take (i + 1)).map fun y => V.bl (decide (y.1 = some v) && y.2))) := by
        rintro r rfl
        refine ⟨_, hD3, hlen, fun e u he => ?_, ?_⟩
        · rw [upd_ne (ne_of_none he hD)]; exact same_new hT _ _ _ (s2 e u he)
        · rw [upd_same, map_take_succ (zip_at ho hb)]
      refine ⟨T1, _, rfl, SqT.of upd_same, rfl, _, _, rfl, _, _, rfl, rfl, rfl, yes_ ?_⟩
      refine iteT ?_
      refine ⟨_, rfl, _, rfl, opt_scal _ _, _, rfl, ?_⟩
      rw [opt_ne]
      cases e : decide (o = some v) with
      | true => exact iteT ⟨_, rfl, fin b (by rw [e]; rfl)⟩
      | false => exact iteF (fin false (by rw [e]; rfl))
    · rintro H2 ⟨s2, hD2⟩
      refine ⟨D, ((parL J).zip c.lives).map fun y => decide (y.1 = some v) && y.2, rfl, SqL.of ?_, ?_⟩
      · rw [hD2, List.length_map, List.take_of_length_le (by rw [List.length_zip]; omega), List.map_map]
        rfl
      · rw [List.any_map]
        exact q H2 s2
abbrev n_waitsOr : List Str := ["self", "work"]
theorem sc_waitsOr : FnScope n_waitsOr ["self", "work"] (defScope sWaitsOr) := ⟨rfl, rfl, rfl, by decide +kernel, rfl, by decide +kernel, by decide +kernel⟩
theorem ok_waitsOr {f : Addr} {fd : FuncData} (F : Fun K "waits_or_none_left" "Crew.waits_or_none_left" sWaitsOr f fd) (T : TxtC K mg C)
    {f_none_left : Addr} {d_none_left : FuncData} (G_none_left : FnOk P w K mg base CX0 1 f_none_left d_none_left ["self", "work"] (spNoneLeft K C)) (b_none_left : Binds K d_none_left ["self", "work"] []) (m_none_left : Meth K C "none_left" f_none_left) :
    FnOk P w K mg base CX0 2 f fd ["self", "work"] (spWaitsOr K C) := by
  refine F.ok sc_waitsOr (fun vs H Q E h => ?_) (fun cdv Ar outer s H vs Q E hr h => ?_)
  · obtain ⟨x, J, c, v, rfl, _⟩ := h
    rfl
  · obtain ⟨x, J, c, v, rfl, A, hl, hv, hn, q⟩ := h
    refine ⟨_, pss_one (ps_ret (pe_or (pe_meth (pv 0) T.cl m_none_left G_none_left (hr.mono (by decide)) b_none_left .nil pass0 (pa_cons (pv 1) pa_nil)) (pe_one (pe_cmpR (op_eqD hr.units) (pe_ix ix_tup (pe_ix ix_tup (pe_ix ix_tup (pe_fld (pv 0) rfl) (pv 1) (fun _ _ => rfl)) (pe_int) (fun _ _ => rfl)) (pe_ix ix_list (pe_fld (pv 0) rfl) (pv 1) (fun _ _ => rfl)) (fun _ _ => rfl)) (pe_tup (pa_cons (pe_str) pa_nil)) (nomark _))))), ?_⟩
    refine ⟨_, rfl, x.p, x.dx, _, rfl, A.ob, f_no _ _ _ (by decide +kernel), _, rfl, x, J, c, v, rfl, A, hl, hv, _, rfl, ?_⟩
    cases e0 : noneLeft J c v with
    | true => exact iteT (by have := q H (Same.refl H); unfold waitsOr at this; rw [e0] at this; exact this)
    | false =>
      refine iteF ?_
      obtain ⟨wk, hwk⟩ : ∃ wk, J[v]? = some wk := ⟨_, List.getElem?_eq_getElem hv⟩
      have hk := nxAt_get (c := c) (h := v) (by omega)
      obtain ⟨a, ws, aw, as, sl, ej, hq, hwv, hw1, hs1, hps⟩ := A.job.wk hwk
      have e2 := sts_of hwk
      have hlt : nxAt c v < wk.2.length := by
        unfold noneLeft at e0
        have := of_decide_eq_false e0
        rw [e2] at this hn
        omega
      obtain ⟨st, hst⟩ : ∃ st, wk.2[nxAt c v]? = some st := ⟨_, List.getElem?_eq_getElem hlt⟩
      obtain ⟨xst, hxst, ast, rfl, hsq⟩ := pget hps hst
      obtain ⟨ds, hds, hsh, heqv⟩ := stp_wait st
      refine ⟨_, rfl, x.p, C, x.dx, _, _, rfl, A.ob, T.cl, T.n_jb, f_job _ _ _, _, rfl, a, _, _, _, ej, rfl, hq, atI_nat hwv, aw, _, _, _, rfl, rfl, hw1, rfl, _, rfl, x.p, C, x.dx, _, _, rfl, A.ob, T.cl, T.n_nx, f_next _ _ _, _, rfl, x.NX, _, _, _, rfl, rfl, SqL.of A.nx, atI_nat (mapAt hk), as, _, _, _, rfl, rfl, hs1, atI_nat hxst, (by show 1 ≤ sizeLine; decide), fun pw epw => ?_⟩
      have s3 : Same H (upd H pw (.tup [.str "wait"])) := same_new epw _
      refine ⟨_, _, hds K _ ast (KT.same s3 _ _ hsq), .tup (SqT.of upd_same) (.cons (.str _) .nil), hsh, (by decide +kernel), ?_⟩
      rw [heqv]
      have := q _ s3
      unfold waitsOr at this
      rw [e0, stepAt_eq, e2, hst, Bool.false_or] at this
      exact this
abbrev n_must : List Str := ["self", "work"]
theorem sc_must : FnScope n_must ["self", "work"] (defScope sMust) := ⟨rfl, rfl, rfl, by decide +kernel, rfl, by decide +kernel, by decide +kernel⟩
theorem ok_must {f : Addr} {fd : FuncData} (F : Fun K "must_leave" "Crew.must_leave" sMust f fd) (T : TxtC K mg C)
    {f_none_left : Addr} {d_none_left : FuncData} (G_none_left : FnOk P w K mg base CX0 1 f_none_left d_none_left ["self", "work"] (spNoneLeft K C)) (b_none_left : Binds K d_none_left ["self", "work"] []) (m_none_left : Meth K C "none_left" f_none_left)
    {f_waits_or_none_left : Addr} {d_waits_or_none_left : FuncData} (G_waits_or_none_left : FnOk P w K mg base CX0 2 f_waits_or_none_left d_waits_or_none_left ["self", "work"] (spWaitsOr K C)) (b_waits_or_none_left : Binds K d_waits_or_none_left ["self", "work"] []) (m_waits_or_none_left : Meth K C "waits_or_none_left" f_waits_or_none_left)
    {f_has_living_child : Addr} {d_has_living_child : FuncData} (G_has_living_child : FnOk P w K mg base CX0 1 f_has_living_child d_has_living_child ["self", "work"] (spHasKid K C)) (b_has_living_child : Binds K d_has_living_child ["self", "work"] []) (m_has_living_child : Meth K C "has_living_child" f_has_living_child) :
    FnOk P w K mg base CX0 3 f fd ["self", "work"] (spMust K C) := by
  refine F.ok sc_must (fun vs H Q E h => ?_) (fun cdv Ar outer s H vs Q E hr h => ?_)
  · obtain ⟨x, J, c, v, rfl, _⟩ := h
    rfl
  · obtain ⟨x, J, c, o, rfl, A, hl, h12, hal, hv, q⟩ := h
    refine ⟨_, pss_cons (ps_if (pt_cmpR op_isN (pv 1) (pe_non) (nomark _)) (pss_one (ps_ret (pe_bl))) pss_nil) (pss_one (ps_ret (pe_or (pe_meth (pv 0) T.cl m_none_left G_none_left (hr.mono (by decide)) b_none_left .nil pass0 (pa_cons (pv 1) pa_nil)) (pe_one (pe_and (pe_meth (pv 0) T.cl m_waits_or_none_left G_waits_or_none_left (hr.mono (by decide)) b_waits_or_none_left .nil pass0 (pa_cons (pv 1) pa_nil)) (pe_one (pe_meth (pv 0) T.cl m_has_living_child G_has_living_child (hr.mono (by decide)) b_has_living_child .nil pass0 (pa_cons (pv 1) pa_nil)))))))), ?_⟩
    refine ⟨_, rfl, rfl, _, rfl, ?_⟩
    cases o with
    | none => exact iteT (q H (Same.refl H))
    | some v =>
      refine iteF ?_
      obtain ⟨hvl, hnx⟩ := hv v rfl
      refine ⟨_, rfl, x.p, x.dx, _, rfl, A.ob, f_no _ _ _ (by decide +kernel), _, rfl, x, J, c, v, rfl, A, hal, hvl, _, rfl, ?_⟩
      cases e0 : noneLeft J c v with
      | true => exact iteT (by have : Q (.bl (noneLeft J c v || (waitsOr J c v && hasKid J c v))) H := q H (Same.refl H); rw [e0] at this; exact this)
      | false =>
        refine iteF ?_
        refine ⟨_, rfl, x.p, x.dx, _, rfl, A.ob, f_no _ _ _ (by decide +kernel), _, rfl, x, J, c, v, rfl, A, hal, hvl, hnx, fun H1 s1 => ⟨_, rfl, ?_⟩⟩
        have A1 := A.same s1
        cases e1 : waitsOr J c v with
        | false => exact iteF (by have : Q (.bl (noneLeft J c v || (waitsOr J c v && hasKid J c v))) H1 := q H1 s1; rw [e0, e1] at this; exact this)
        | true =>
          refine iteT ?_
          refine ⟨_, rfl, x.p, x.dx, _, rfl, A1.ob, f_no _ _ _ (by decide +kernel), _, rfl, x, J, c, v, rfl, A1, hl, h12, fun H2 s2 => ?_⟩
          have : Q (.bl (noneLeft J c v || (waitsOr J c v && hasKid J c v))) H2 := q H2 (s1.trans s2)
          rw [e0, e1, Bool.true_and, Bool.false_or] at this
          exact this
end
end Far
set_option Elab.async false
set_option linter.all false
set_option maxRecDepth 100000
set_option maxHeartbeats 4000000
set_option pp.maxSteps 500
namespace Far
open PySem L2
section
variable {P : Program} {w : World} {K : PySem.W.Frag} {mg : Str → Option Value} {base : Heap} {C : Addr}
theorem isEmpty_map {α β : Type} (f : α → β) (l : List α) : (l.map f).isEmpty = l.isEmpty := by cases l <;> rfl
abbrev n_fore : List Str := ["self", "hand", "other", "work"]
theorem sc_fore : FnScope n_fore ["self", "hand", "other"] (defScope sFore) := ⟨rfl, rfl, rfl, by decide +kernel, rfl, by decide +kernel, by decide +kernel⟩
theorem ok_fore {f : Addr} {fd : FuncData} (F : Fun K "foretold" "Crew.foretold" sFore f fd) (T : TxtC K mg C) :
    FnOk P w K mg base CX0 1 f fd ["self", "hand", "other"] (spFore K C) := by
  refine F.ok sc_fore (fun vs H Q E h => ?_) (fun cdv Ar outer s H vs Q E hr h => ?_)
  · obtain ⟨x, J, c, n, h, o, rfl, _⟩ := h
    rfl
  · obtain ⟨x, J, c, n, h, o, rfl, A, hl, hpl, hh, ho, hw, q⟩ := h
    refine ⟨_, pss_cons (ps_set (i := 3) sc_fore.nd rfl (Or.inl rfl) (pe_ix ix_list (pe_fld (pv 0) rfl) (pv 1) (fun _ _ => rfl))) (pss_cons (ps_if (pt_cmpR op_notN (pv 3) (pe_non) (nomark _)) (pss_one (ps_ret (pe_tup (pa_cons (pe_str) (pa_cons (pv 3) (pa_cons (pe_ix ix_list (pe_fld (pv 0) rfl) (pv 3) (fun _ _ => rfl)) pa_nil)))))) pss_nil) (pss_cons (ps_if (pt_truth (pe_ix ix_list (pe_fld (pv 0) rfl) (pv 1) (fun _ _ => rfl)) (by intro _; rfl)) (pss_one (ps_ret (pe_tup (pa_cons (pe_str) (pa_cons (pe_ix ix_list (pe_ix ix_list (pe_fld (pv 0) rfl) (pv 1) (fun _ _ => rfl)) (pe_un un_neg (pe_int)) (fun _ _ => rfl)) pa_nil))))) pss_nil) (pss_cons (ps_if (pt_truth (pe_ix ix_list (pe_fld (pv 0) rfl) (pv 2) (fun _ _ => rfl)) (by intro _; rfl)) (pss_one (ps_ret (pe_tup (pa_cons (pe_str) (pa_cons (pe_ix ix_list (pe_ix ix_list (pe_fld (pv 0) rfl) (pv 2) (fun _ _ => rfl)) (pe_int) (fun _ _ => rfl)) (pa_cons (pv 2) pa_nil)))))) pss_nil) (pss_one (ps_ret (pe_tup (pa_cons (pe_str) (pa_cons (pv 2) pa_nil)))))))), ?_⟩
    have gh := holdAt_get (c := c) (h := h) (by omega)
    have gp := pileAt_get (c := c) (h := h) (by omega)
    have go := pileAt_get (c := c) (h := o) (by omega)
    obtain ⟨ap, _, hap, hapx⟩ := A.pile gp
    obtain ⟨ao, _, hao, haox⟩ := A.pile go
    unfold foretold at q
    refine ⟨_, rfl, x.p, C, x.dx, _, _, rfl, A.ob, T.cl, T.n_aw, f_at_work _ _ _, _, rfl, x.AW, _, _, _, rfl, rfl, SqL.of A.aw, atI_nat (mapAt gh), ?_⟩
    refine ⟨_, rfl, rfl, _, rfl, ?_⟩
    cases e0 : holdAt c h with
    | some v =>
      refine iteT ?_
      rw [e0] at q
      have gn := nxAt_get (c := c) (h := v) (hw v e0)
      refine ⟨_, rfl, _, rfl, x.p, C, x.dx, _, _, rfl, A.ob, T.cl, T.n_nx, f_next _ _ _, _, rfl, x.NX, _, _, _, rfl, rfl, SqL.of A.nx, atI_nat (mapAt gn), (by show 3 ≤ sizeLine; decide), fun T1 hT1 => ?_⟩
      exact q T1 hT1
    | none =>
      refine iteF ?_
      rw [e0] at q
      refine ⟨_, rfl, x.p, C, x.dx, _, _, rfl, A.ob, T.cl, T.n_pl, f_piles _ _ _, _, rfl, x.PL, _, _, _, rfl, rfl, SqL.of A.pl, atI_nat hapx, _, .inl ⟨_, SqL.of hap, rfl⟩, ?_⟩
      rw [isEmpty_map]
      cases e1 : (pileAt c h).getLast? with
      | some v =>
        obtain ⟨l, hlq⟩ := List.getLast?_eq_some_iff.mp e1
        have ee : (pileAt c h).isEmpty = false := by rw [hlq]; cases l <;> rfl
        rw [ee]
        refine iteT ?_
        rw [hlq, List.map_append] at hap
        simp only [e1] at q
        refine ⟨_, rfl, x.p, C, x.dx, _, _, rfl, A.ob, T.cl, T.n_pl, f_piles _ _ _, _, rfl, x.PL, _, _, _, rfl, rfl, SqL.of A.pl, atI_nat hapx, _, rfl, ap, _, _, _, rfl, rfl, SqL.of hap, atI_last _ _, (by show 2 ≤ sizeLine; decide), fun T1 hT1 => ?_⟩
        exact q T1 hT1
      | none =>
        have e2 : pileAt c h = [] := List.getLast?_eq_none_iff.mp e1
        rw [e2]
        refine iteF ?_
        simp only [e1] at q
        refine ⟨_, rfl, x.p, C, x.dx, _, _, rfl, A.ob, T.cl, T.n_pl, f_piles _ _ _, _, rfl, x.PL, _, _, _, rfl, rfl, SqL.of A.pl, atI_nat haox, _, .inl ⟨_, SqL.of hao, rfl⟩, ?_⟩
        rw [isEmpty_map]
        cases e3 : pileAt c o with
        | cons v l =>
          refine iteT ?_
          rw [e3] at hao q
          refine ⟨_, rfl, x.p, C, x.dx, _, _, rfl, A.ob, T.cl, T.n_pl, f_piles _ _ _, _, rfl, x.PL, _, _, _, rfl, rfl, SqL.of A.pl, atI_nat haox, ao, _, _, _, rfl, rfl, SqL.of hao, atI_nat (j := 0) (v := natV v) rfl, _, rfl, (by show 3 ≤ sizeLine; decide), fun T1 hT1 => ?_⟩
          exact q T1 hT1
        | nil =>
          refine iteF ?_
          rw [e3] at q
          refine ⟨_, rfl, (by show 2 ≤ sizeLine; decide), fun T1 hT1 => ?_⟩
          exact q T1 hT1
abbrev n_sendOff : List Str := ["self", "hand", "child", "work"]
theorem sc_sendOff : FnScope n_sendOff ["self", "hand", "child"] (defScope sSendOff) := ⟨rfl, rfl, rfl, by decide +kernel, rfl, by decide +kernel, by decide +kernel⟩
theorem ok_sendOff {f : Addr} {fd : FuncData} (F : Fun K "send_off" "Crew.send_off" sSendOff f fd) (T : TxtC K mg C)
    {f_waits_or_none_left : Addr} {d_waits_or_none_left : FuncData} (G_waits_or_none_left : FnOk P w K mg base CX0 2 f_waits_or_none_left d_waits_or_none_left ["self", "work"] (spWaitsOr K C)) (b_waits_or_none_left : Binds K d_waits_or_none_left ["self", "work"] []) (m_waits_or_none_left : Meth K C "waits_or_none_left" f_waits_or_none_left)
    {f_begin : Addr} {d_begin : FuncData} (G_begin : FnOk P w K mg base CX0 1 f_begin d_begin ["self", "work"] (spBegin K C)) (b_begin : Binds K d_begin ["self", "work"] []) (m_begin : Meth K C "begin" f_begin) :
    FnOk P w K mg base CX0 3 f fd ["self", "hand", "child"] (spSendOff K C) := by
  refine F.ok sc_sendOff (fun vs H Q E h => ?_) (fun cdv Ar outer s H vs Q E hr h => ?_)
  · obtain ⟨x, J, c, n, h, v, k, rfl, _⟩ := h
    rfl
  · obtain ⟨x, J, c, n, h, v, k, rfl, A, L, hh, hk, hv, e0, hpl, q⟩ := h
    refine ⟨_, pss_cons (ps_set (i := 3) sc_sendOff.nd rfl (Or.inl rfl) (pe_ix ix_list (pe_fld (pv 0) rfl) (pv 1) (fun _ _ => rfl))) (pss_cons (ps_mid (ps_if (pt_val (pe_meth (pv 0) T.cl m_waits_or_none_left G_waits_or_none_left (hr.mono (by decide)) b_waits_or_none_left .nil pass0 (pa_cons (pv 3) pa_nil))) (pss_one (ps_asg (pe_bl) (pg_sub (pe_fld (pv 0) rfl) (pv 3) set_list))) (pss_one (ps_expr (pe_bm PySem.F.plainAttrs_list PySem.F.slot_list_append PySem.F.type_list_append mt_append (pe_ix ix_list (pe_fld (pv 0) rfl) (pv 1) (fun _ _ => rfl)) (pa_cons (pv 3) pa_nil)))))) (pss_cons (ps_expr (pe_meth (pv 0) T.cl m_begin G_begin (hr.mono (by decide)) b_begin .nil pass0 (pa_cons (pv 2) pa_nil))) (pss_one (ps_asg (pv 2) (pg_sub (pe_fld (pv 0) rfl) (pv 1) set_list))))), ?_⟩
    have gh := holdAt_get (c := c) (h := h) (by have := L.hl; omega)
    have gp := pileAt_get (c := c) (h := h) (by have := L.pl; omega)
    rw [e0] at gh
    refine ⟨_, rfl, x.p, C, x.dx, _, _, rfl, A.ob, T.cl, T.n_aw, f_at_work _ _ _, _, rfl, x.AW, _, _, _, rfl, rfl, SqL.of A.aw, atI_nat (mapAt gh), ?_⟩
    refine ⟨fun σ' H2 => σ' = [some (.ref x.p), some (natV h), some (natV k), some (natV v)] ∧ CrewAt K C H2 x J (if waitsOr J c v = true then { c with stands := c.stands.set v true } else { c with piles := c.piles.set h (pileAt c h ++ [v]) }) ∧ KeepC x H H2, ?_, ?_⟩
    · refine ⟨_, rfl, x.p, x.dx, _, rfl, A.ob, f_no _ _ _ (by decide +kernel), _, rfl, x, J, c, v, rfl, A, L.al, hv, L.nxle v, fun H1 s1 => ⟨_, rfl, ?_⟩⟩
      have A1 := A.same s1
      cases e : waitsOr J c v with
      | true =>
        refine iteT ?_
        refine ⟨_, rfl, x.p, C, x.dx, _, _, rfl, A1.ob, T.cl, T.n_st, f_stands _ _ _, _, rfl, x.ST, _, _, v, rfl, rfl, A1.st, ixN_nat (by rw [List.length_map]; have := L.sl; omega), rfl, ?_, (KeepC.of s1).trans (KeepC.put (lst_in (i := 3) rfl) _ _)⟩
        rw [← List.map_set, if_pos rfl]
        exact A1.setST _
      | false =>
        refine iteF ?_
        obtain ⟨ap, hap0, hap, hapx⟩ := A1.pile gp
        refine ⟨_, rfl, x.p, C, x.dx, _, _, rfl, A1.ob, T.cl, T.n_pl, f_piles _ _ _, _, rfl, x.PL, _, _, _, rfl, rfl, SqL.of A1.pl, atI_nat hapx, .inl ⟨rfl, _, SqL.of hap⟩, _, rfl, ap, _, _, rfl, rfl, hap, small1000 (by rw [List.length_map]; omega), rfl, ?_, (KeepC.of s1).trans (KeepC.put (lst_in (i := h + 7) hap0) _ _)⟩
        rw [if_neg (by decide)]
        have A2 := A1.setPile hap0 (pileAt c h ++ [v])
        rw [List.map_append] at A2
        exact A2
    · rintro σ' H2 ⟨rfl, A2, k2⟩
      obtain ⟨c1, hc1⟩ : ∃ c1, (if waitsOr J c v = true then { c with stands := c.stands.set v true } else { c with piles := c.piles.set h (pileAt c h ++ [v]) }) = c1 := ⟨_, rfl⟩
      rw [hc1] at A2
      have hcl : c1.lives = c.lives := by rw [← hc1]; split <;> rfl
      have hch : c1.hold = c.hold := by rw [← hc1]; split <;> rfl
      refine ⟨_, rfl, x.p, x.dx, _, rfl, A2.ob, f_no _ _ _ (by decide +kernel), _, rfl, x, J, c1, k, rfl, A2, hk, by rw [hcl]; exact L.ll, fun H3 A3 k3 => ?_⟩
      have eh : (beginC J c1 k).hold = c.hold := hch
      refine ⟨_, rfl, _, rfl, x.p, C, x.dx, _, _, rfl, A3.ob, T.cl, T.n_aw, f_at_work _ _ _, _, rfl, x.AW, _, _, h, rfl, rfl, A3.aw, ixN_nat (by rw [List.length_map, eh]; have := L.hl; omega), ?_⟩
      refine q _ ?_ (k2.trans (k3.trans (KeepC.put (lst_in (i := 1) rfl) _ _)))
      have A4 := A3.setAW (c.hold.set h (some k))
      rw [eh, show natV k = optV (some k) from rfl, ← List.map_set]
      show CrewAt K C _ x J { beginC J (if waitsOr J c v = true then { c with stands := c.stands.set v true } else { c with piles := c.piles.set h (pileAt c h ++ [v]) }) k with hold := c.hold.set h (some k) }
      rw [hc1]
      exact A4
abbrev n_leave : List Str := ["self", "hand", "work", "elder"]
theorem sc_leave : FnScope n_leave ["self", "hand"] (defScope sLeave) := ⟨rfl, rfl, rfl, by decide +kernel, rfl, by decide +kernel, by decide +kernel⟩
theorem ok_leave {f : Addr} {fd : FuncData} (F : Fun K "leave" "Crew.leave" sLeave f fd) (T : TxtC K mg C)
    {f_has_living_child : Addr} {d_has_living_child : FuncData} (G_has_living_child : FnOk P w K mg base CX0 1 f_has_living_child d_has_living_child ["self", "work"] (spHasKid K C)) (b_has_living_child : Binds K d_has_living_child ["self", "work"] []) (m_has_living_child : Meth K C "has_living_child" f_has_living_child)
    {f_end : Addr} {d_end : FuncData} (G_end : FnOk P w K mg base CX0 1 f_end d_end ["self", "work"] (spEnd K C)) (b_end : Binds K d_end ["self", "work"] []) (m_end : Meth K C "end" f_end) :
    FnOk P w K mg base CX0 2 f fd ["self", "hand"] (spLeave K C) := by
  refine F.ok sc_leave (fun vs H Q E h => ?_) (fun cdv Ar outer s H vs Q E hr h => ?_)
  · obtain ⟨x, J, c, n, h, v, rfl, _⟩ := h
    rfl
  · obtain ⟨x, J, c, n, h, v, rfl, A, L, ok, hh, hv, e0, q⟩ := h
    refine ⟨_, pss_cons (ps_set (i := 2) sc_leave.nd rfl (Or.inl rfl) (pe_ix ix_list (pe_fld (pv 0) rfl) (pv 1) (fun _ _ => rfl))) (pss_cons (ps_asg (pe_non) (pg_sub (pe_fld (pv 0) rfl) (pv 1) set_list)) (pss_cons (ps_if (pt_val (pe_meth (pv 0) T.cl m_has_living_child G_has_living_child (hr.mono (by decide)) b_has_living_child .nil pass0 (pa_cons (pv 2) pa_nil))) (pss_cons (ps_asg (pe_bl) (pg_sub (pe_fld (pv 0) rfl) (pv 2) set_list)) (pss_one (ps_retN))) pss_nil) (pss_cons (ps_expr (pe_meth (pv 0) T.cl m_end G_end (hr.mono (by decide)) b_end .nil pass0 (pa_cons (pv 2) pa_nil))) (pss_cons (ps_set (i := 3) sc_leave.nd rfl (Or.inl rfl) (pe_ix ix_list (pe_fld (pv 0) rfl) (pv 2) (fun _ _ => rfl))) (pss_one (ps_if (PW.pt (pw_and (pt_cmpR op_notN (pv 3) (pe_non) (nomark _)) (pw_and (pt_val (pe_ix ix_list (pe_fld (pv 0) rfl) (pv 3) (fun _ _ => rfl))) (pw_and1 (pt_not (pt_val (pe_meth (pv 0) T.cl m_has_living_child G_has_living_child (hr.mono (by decide)) b_has_living_child .nil pass0 (pa_cons (pv 3) pa_nil)))))))) (pss_cons (ps_asg (pe_bl) (pg_sub (pe_fld (pv 0) rfl) (pv 3) set_list)) (pss_one (ps_asg (pv 3) (pg_sub (pe_fld (pv 0) rfl) (pv 1) set_list)))) pss_nil)))))), ?_⟩
    have gh := holdAt_get (c := c) (h := h) (by have := L.hl; omega)
    rw [e0] at gh
    have h12 : J.length ≤ 12 := ok.len
    unfold leaveW at q
    refine ⟨_, rfl, x.p, C, x.dx, _, _, rfl, A.ob, T.cl, T.n_aw, f_at_work _ _ _, _, rfl, x.AW, _, _, _, rfl, rfl, SqL.of A.aw, atI_nat (mapAt gh), ?_⟩
    refine ⟨_, rfl, x.p, C, x.dx, _, _, rfl, A.ob, T.cl, T.n_aw, f_at_work _ _ _, _, rfl, x.AW, _, _, h, rfl, rfl, A.aw, ixN_nat (by rw [List.length_map]; have := L.hl; omega), ?_⟩
    rw [show V.non = optV none from rfl, ← List.map_set]
    have A1 := A.setAW (c.hold.set h none)
    have k1 : KeepC x H (upd H x.AW (.lst ((c.hold.set h none).map optV))) := KeepC.put (lst_in (i := 1) rfl) _ _
    generalize upd H x.AW (.lst ((c.hold.set h none).map optV)) = H1 at *
    refine ⟨_, rfl, x.p, x.dx, _, rfl, A1.ob, f_no _ _ _ (by decide +kernel), _, rfl, x, J, _, v, rfl, A1, L.ll, h12, fun H2 s2 => ⟨_, rfl, ?_⟩⟩
    have A2 := A1.same s2
    have k2 := k1.trans (KeepC.of s2)
    have ek : hasKid J { c with hold := c.hold.set h none } v = hasKid J c v := rfl
    rw [ek]
    cases e1 : hasKid J c v with
    | true =>
      refine iteT ?_
      rw [if_pos e1] at q
      refine ⟨_, rfl, x.p, C, x.dx, _, _, rfl, A2.ob, T.cl, T.n_st, f_stands _ _ _, _, rfl, x.ST, _, _, v, rfl, rfl, A2.st, ixN_nat (by rw [List.length_map]; have := L.sl; show v < c.stands.length; omega), ?_⟩
      refine q _ ?_ (k2.trans (KeepC.put (lst_in (i := 3) rfl) _ _))
      rw [← List.map_set]
      exact A2.setST _
    | false =>
      refine iteF ?_
      rw [if_neg (by rw [e1]; decide)] at q
      refine ⟨_, rfl, x.p, x.dx, _, rfl, A2.ob, f_no _ _ _ (by decide +kernel), _, rfl, x, J, _, v, rfl, A2, hv, L.ll, fun H3 A3 k3 => ?_⟩
      have k03 := k2.trans k3
      obtain ⟨op, hop⟩ : ∃ op, (parL J)[v]? = some op := ⟨_, List.getElem?_eq_getElem (by rw [parL_len]; exact hv)⟩
      rw [hop] at q
      replace q : ∀ H', CrewAt K C H' x J (retake J (endC J { c with hold := c.hold.set h none } v) h op) → KeepC x H H' → Q V.non H' := q
      obtain ⟨d, hd⟩ : ∃ d, endC J { c with hold := c.hold.set h none } v = d := ⟨_, rfl⟩
      rw [hd] at A3 q
      have dh : d.hold.length = n := by rw [← hd]; show (c.hold.set h none).length = n; rw [List.length_set]; exact L.hl
      have ds : d.stands.length = J.length := by rw [← hd]; exact L.sl
      have dl : d.lives.length = J.length := by rw [← hd]; show (c.lives.set v false).length = _; rw [List.length_set]; exact L.ll
      refine ⟨_, rfl, x.p, C, x.dx, _, _, rfl, A3.ob, T.cl, T.n_el, f_elders _ _ _, _, rfl, x.E, _, _, _, rfl, rfl, SqL.of A3.el, atI_nat (mapAt hop), ?_⟩
      refine ⟨_, rfl, rfl, _, rfl, ?_⟩
      cases op with
      | none =>
        refine iteF ?_
        refine iteF ?_
        exact q H3 A3 k03
      | some e =>
        refine iteT ?_
        have hev : e < v := ok.ups v e hop
        have gs := standsAt_get (c := d) (h := e) (by omega)
        have er : retake J d h (some e) = if (standsAt d e && !hasKid J d e) = true then { d with stands := d.stands.set e false, hold := d.hold.set h (some e) } else d := rfl
        rw [er] at q
        refine ⟨_, rfl, x.p, C, x.dx, _, _, rfl, A3.ob, T.cl, T.n_st, f_stands _ _ _, _, rfl, x.ST, _, _, _, rfl, rfl, SqL.of A3.st, atI_nat (mapAt gs), _, rfl, ?_⟩
        cases e2 : standsAt d e with
        | false =>
          refine iteF ?_
          refine iteF ?_
          rw [e2, if_neg (by rw [Bool.false_and]; decide)] at q
          exact q H3 A3 k03
        | true =>
          refine iteT ?_
          refine ⟨_, rfl, x.p, x.dx, _, rfl, A3.ob, f_no _ _ _ (by decide +kernel), _, rfl, x, J, _, e, rfl, A3, dl, h12, fun H4 s4 => ⟨_, rfl, ?_⟩⟩
          have A4 := A3.same s4
          have k04 := k03.trans (KeepC.of s4)
          rw [e2] at q
          cases e3 : hasKid J d e with
          | true =>
            refine iteF ?_
            rw [e3, if_neg (by decide)] at q
            exact q H4 A4 k04
          | false =>
            refine iteT ?_
            rw [e3, if_pos (by decide)] at q
            refine ⟨_, rfl, x.p, C, x.dx, _, _, rfl, A4.ob, T.cl, T.n_st, f_stands _ _ _, _, rfl, x.ST, _, _, e, rfl, rfl, A4.st, ixN_nat (by rw [List.length_map]; omega), ?_⟩
            rw [← List.map_set]
            have A5 := A4.setST (d.stands.set e false)
            have k05 := k04.trans (KeepC.put (x := x) (lst_in (i := 3) rfl) H4 (.lst ((d.stands.set e false).map V.bl)))
            generalize upd H4 x.ST (.lst ((d.stands.set e false).map V.bl)) = H5 at *
            refine ⟨_, rfl, _, rfl, x.p, C, x.dx, _, _, rfl, A5.ob, T.cl, T.n_aw, f_at_work _ _ _, _, rfl, x.AW, _, _, h, rfl, rfl, A5.aw, ixN_nat (by rw [List.length_map]; show h < d.hold.length; omega), ?_⟩
            refine q _ ?_ (k05.trans (KeepC.put (lst_in (i := 1) rfl) _ _))
            rw [← List.map_set]
            exact A5.setAW _
end
end Far
set_option Elab.async false
set_option linter.all false
set_option maxRecDepth 100000
set_option maxHeartbeats 4000000
set_option pp.maxSteps 500
namespace Far
open PySem L2
section
variable {P : Program} {w : World} {K : PySem.W.Frag} {mg : Str → Option Value} {base : Heap} {C : Addr}
abbrev n_settle : List Str := ["self", "hand"]
theorem sc_settle : FnScope n_settle ["self", "hand"] (defScope sSettle) := ⟨rfl, rfl, rfl, by decide +kernel, rfl, by decide +kernel, by decide +kernel⟩
theorem ok_settle {f : Addr} {fd : FuncData} (F : Fun K "settle" "Crew.settle" sSettle f fd) (T : TxtC K mg C)
    {f_must_leave : Addr} {d_must_leave : FuncData} (G_must_leave : FnOk P w K mg base CX0 3 f_must_leave d_must_leave ["self", "work"] (spMust K C)) (b_must_leave : Binds K d_must_leave ["self", "work"] []) (m_must_leave : Meth K C "must_leave" f_must_leave)
    {f_leave : Addr} {d_leave : FuncData} (G_leave : FnOk P w K mg base CX0 2 f_leave d_leave ["self", "hand"] (spLeave K C)) (b_leave : Binds K d_leave ["self", "hand"] []) (m_leave : Meth K C "leave" f_leave) :
    FnOk P w K mg base CX0 4 f fd ["self", "hand"] (spSettle K C) := by
  refine F.ok sc_settle (fun vs H Q E h => ?_) (fun cdv Ar outer s H vs Q E hr h => ?_)
  · obtain ⟨x, J, c, n, h, rfl, _⟩ := h
    rfl
  · obtain ⟨x, J, c, n, h, rfl, A, ok, hh, I, q⟩ := h
    refine ⟨_, pss_one (ps_while PassesOwn.never (pt_val (pe_meth (pv 0) T.cl m_must_leave G_must_leave (hr.mono (by decide)) b_must_leave .nil pass0 (pa_cons (pe_ix ix_list (pe_fld (pv 0) rfl) (pv 1) (fun _ _ => rfl)) pa_nil))) (pss_one (ps_expr (pe_meth (pv 0) T.cl m_leave G_leave (hr.mono (by decide)) b_leave .nil pass0 (pa_cons (pv 1) pa_nil))))), ?_⟩
    have h12 : J.length ≤ 12 := ok.len
    obtain ⟨W, eW⟩ : ∃ W : Nat → St → Hp → Prop, W = fun m σ' H2 => ∃ c' : Crew, σ' = [some (.ref x.p), some (natV h)] ∧ CrewAt K C H2 x J c' ∧ KeepC x H H2 ∧ CInv J n (fun u => holdAt c' h = some u) c' ∧ (∀ u, holdAt c' h = some u → u < m) ∧ settleC J m c' h = settleC J (J.length + 1) c h := ⟨_, rfl⟩
    have up : ∀ {m : Nat} {σ' : St} {H2 : Hp}, W m σ' H2 → ∃ c' : Crew, σ' = [some (.ref x.p), some (natV h)] ∧ CrewAt K C H2 x J c' ∧ KeepC x H H2 ∧ CInv J n (fun u => holdAt c' h = some u) c' ∧ (∀ u, holdAt c' h = some u → u < m) ∧ settleC J m c' h = settleC J (J.length + 1) c h := fun z => by rw [eW] at z; exact z
    have dn : ∀ {m : Nat} {σ' : St} {H2 : Hp}, (∃ c' : Crew, σ' = [some (.ref x.p), some (natV h)] ∧ CrewAt K C H2 x J c' ∧ KeepC x H H2 ∧ CInv J n (fun u => holdAt c' h = some u) c' ∧ (∀ u, holdAt c' h = some u → u < m) ∧ settleC J m c' h = settleC J (J.length + 1) c h) → W m σ' H2 := fun z => by rw [eW]; exact z
    refine ⟨W, ⟨J.length + 1, dn ⟨c, rfl, A, KeepC.refl x H, I, fun u hu => ?_, rfl⟩⟩, ?_⟩
    · have := lives_lt I (hold_lives I (List.mem_of_getElem? (holdAt_some hu)))
      omega
    rintro m σ' H2 hW
    obtain ⟨c', rfl, A2, k2, I2, hu, hs⟩ := up hW
    have gh := holdAt_get (c := c') (h := h) (by have := I2.hl; omega)
    refine ⟨_, rfl, x.p, x.dx, _, rfl, A2.ob, f_no _ _ _ (by decide +kernel), _, rfl, x.p, C, x.dx, _, _, rfl, A2.ob, T.cl, T.n_aw, f_at_work _ _ _, _, rfl, x.AW, _, _, _, rfl, rfl, SqL.of A2.aw, atI_nat (mapAt gh), x, J, c', holdAt c' h, rfl, A2, I2.ll, h12, I2.al, fun v e => ⟨lives_lt I2 (hold_lives I2 (List.mem_of_getElem? (holdAt_some e))), I2.nxle v⟩, fun H3 s3 => ⟨_, rfl, ?_⟩⟩
    have A3 := A2.same s3
    have k3 := k2.trans (KeepC.of s3)
    cases e : mustLeave J c' (holdAt c' h) with
    | false =>
      refine iteF ?_
      rw [settle_stop m e] at hs
      rw [hs] at A3
      exact q H3 A3 k3
    | true =>
      refine iteT ?_
      refine ⟨fun σ' H' => ∃ m', m' < m ∧ W m' σ' H', fun σ' H' z => z, ?_⟩
      cases e0 : holdAt c' h with
      | none => rw [e0] at e; cases e
      | some v =>
        rw [e0] at e
        have hvm := hu v e0
        obtain ⟨m', rfl⟩ : ∃ m', m = m' + 1 := ⟨m - 1, by omega⟩
        have I2' : CInv J n (fun u => u = v) c' := I2.mono fun u z => by rw [e0] at z; cases z; rfl
        obtain ⟨I3, hpar⟩ := leave_inv ok I2' hh (holdAt_some e0) e
        have hvl := lives_lt I2 (hold_lives I2 (List.mem_of_getElem? (holdAt_some e0)))
        refine ⟨_, rfl, x.p, x.dx, _, rfl, A3.ob, f_no _ _ _ (by decide +kernel), _, rfl, x, J, c', n, h, v, rfl, A3, I2.lens, ok, hh, hvl, e0, fun H4 A4 k4 => ⟨m', by omega, dn ⟨_, rfl, A4, k3.trans k4, I3, fun u z => ?_, ?_⟩⟩⟩
        · have := ok.ups v u (hpar u z)
          omega
        · rw [← hs, settle_go m' e0 e]
abbrev n_doStep : List Str := ["self", "hand", "work", "number", "step"]
theorem sc_doStep : FnScope n_doStep ["self", "hand"] (defScope sDoStep) := ⟨rfl, rfl, rfl, by decide +kernel, rfl, by decide +kernel, by decide +kernel⟩
theorem ok_doStep {f : Addr} {fd : FuncData} (F : Fun K "do_step" "Crew.do_step" sDoStep f fd) (T : TxtC K mg C)
    {f_send_off : Addr} {d_send_off : FuncData} (G_send_off : FnOk P w K mg base CX0 3 f_send_off d_send_off ["self", "hand", "child"] (spSendOff K C)) (b_send_off : Binds K d_send_off ["self", "hand", "child"] []) (m_send_off : Meth K C "send_off" f_send_off)
    {f_settle : Addr} {d_settle : FuncData} (G_settle : FnOk P w K mg base CX0 4 f_settle d_settle ["self", "hand"] (spSettle K C)) (b_settle : Binds K d_settle ["self", "hand"] []) (m_settle : Meth K C "settle" f_settle) :
    FnOk P w K mg base CX0 5 f fd ["self", "hand"] (spDoStep K C) := by
  refine F.ok sc_doStep (fun vs H Q E h => ?_) (fun cdv Ar outer s H vs Q E hr h => ?_)
  · obtain ⟨x, J, c, n, h, v, rfl, _⟩ := h
    rfl
  · obtain ⟨x, J, c, n, h, v, rfl, A, ok, hh, I, e0, q⟩ := h
    refine ⟨_, pss_cons (ps_set (i := 2) sc_doStep.nd rfl (Or.inl rfl) (pe_ix ix_list (pe_fld (pv 0) rfl) (pv 1) (fun _ _ => rfl))) (pss_cons (ps_set (i := 3) sc_doStep.nd rfl (Or.inl rfl) (pe_ix ix_list (pe_fld (pv 0) rfl) (pv 2) (fun _ _ => rfl))) (pss_cons (ps_set (i := 4) sc_doStep.nd rfl (Or.inl rfl) (pe_ix ix_tup (pe_ix ix_tup (pe_ix ix_tup (pe_fld (pv 0) rfl) (pv 2) (fun _ _ => rfl)) (pe_int) (fun _ _ => rfl)) (pv 3) (fun _ _ => rfl))) (pss_cons (ps_expr (pe_bm PySem.F.plainAttrs_list PySem.F.slot_list_append PySem.F.type_list_append mt_append (pe_fld (pv 0) rfl) (pa_cons (pe_tup (pa_cons (pv 2) (pa_cons (pv 3) pa_nil))) pa_nil))) (pss_cons (ps_asg (pe_op op_add (pv 3) (pe_int)) (pg_sub (pe_fld (pv 0) rfl) (pv 2) set_list)) (pss_cons (ps_mid (ps_if (pt_cmpR op_eq (pe_ix ix_tup (pv 4) (pe_int) (fun _ _ => rfl)) (pe_str) (nomark _)) (pss_one (ps_expr (pe_meth (pv 0) T.cl m_send_off G_send_off (hr.mono (by decide)) b_send_off .nil pass0 (pa_cons (pv 1) (pa_cons (pe_ix ix_tup (pv 4) (pe_int) (fun _ _ => rfl)) pa_nil))))) pss_nil)) (pss_one (ps_expr (pe_meth (pv 0) T.cl m_settle G_settle (hr.mono (by decide)) b_settle .nil pass0 (pa_cons (pv 1) pa_nil))))))))), ?_⟩
    have h12 : J.length ≤ 12 := ok.len
    have hgh := holdAt_some e0
    have hvl := lives_lt I (hold_lives I (List.mem_of_getElem? hgh))
    have gn := nxAt_get (c := c) (h := v) (by have := I.al; omega)
    obtain ⟨st, hst⟩ := held_step I hgh
    obtain ⟨wk, hwk⟩ : ∃ wk, J[v]? = some wk := ⟨_, List.getElem?_eq_getElem hvl⟩
    have e2 := sts_of hwk
    have hst' : wk.2[nxAt c v]? = some st := by rw [← e2]; exact hst
    obtain ⟨a, ws, aw, as, sl, ej, hq, hwv, hw1, hs1, hps⟩ := A.job.wk hwk
    obtain ⟨xst, hxst, ast, rfl, hsq⟩ := pget hps hst'
    refine ⟨_, rfl, x.p, C, x.dx, _, _, rfl, A.ob, T.cl, T.n_aw, f_at_work _ _ _, _, rfl, x.AW, _, _, natV v, rfl, rfl, SqL.of A.aw, atI_nat (mapAt hgh), ?_⟩
    refine ⟨_, rfl, x.p, C, x.dx, _, _, rfl, A.ob, T.cl, T.n_nx, f_next _ _ _, _, rfl, x.NX, _, _, _, rfl, rfl, SqL.of A.nx, atI_nat (mapAt gn), ?_⟩
    refine ⟨_, rfl, x.p, C, x.dx, _, _, rfl, A.ob, T.cl, T.n_jb, f_job _ _ _, _, rfl, a, _, _, _, ej, rfl, hq, atI_nat hwv, aw, _, _, _, rfl, rfl, hw1, rfl, _, rfl, as, _, _, _, rfl, rfl, hs1, atI_nat hxst, ?_⟩
    obtain ⟨ss, hss, hpp⟩ := A.sd
    refine ⟨_, rfl, x.p, C, x.dx, _, _, rfl, A.ob, T.cl, T.n_sd, f_done _ _ _, .inl ⟨rfl, _, SqL.of hss⟩, _, rfl, _, rfl, (by show 2 ≤ sizeLine; decide), fun T1 hT1 => ?_⟩
    have s1 := same_new hT1 (.tup [natV v, natV (nxAt c v)])
    have A1 := A.same s1
    refine ⟨x.SD, _, _, rfl, rfl, s1 _ _ hss, small1000 (by have := plen hpp; have := I.done_len ok; omega), ?_⟩
    have A2 := A1.addSD (t := (v, nxAt c v)) (s1 _ _ hss) (show (upd H T1 (.tup [natV v, natV (nxAt c v)])) T1 = some (.tup [natV v, natV (nxAt c v)]) from upd_same)
    have k2 : KeepC x H (upd (upd H T1 (.tup [natV v, natV (nxAt c v)])) x.SD (.lst (ss ++ [.ref T1]))) := (KeepC.of s1).trans (KeepC.put (lst_in (i := 6) rfl) _ _)
    have kt2 : KT K H (upd (upd H T1 (.tup [natV v, natV (nxAt c v)])) x.SD (.lst (ss ++ [.ref T1]))) := A.kt k2
    generalize upd (upd H T1 (.tup [natV v, natV (nxAt c v)])) x.SD (.lst (ss ++ [.ref T1])) = H2 at *
    refine ⟨_, rfl, _, _, rfl, rfl, _, rfl, x.p, C, x.dx, _, _, rfl, A2.ob, T.cl, T.n_nx, f_next _ _ _, _, rfl, x.NX, _, _, v, rfl, rfl, A2.nx, ixN_nat (by rw [List.length_map]; show v < c.nx.length; have := I.al; omega), ?_⟩
    have ev : V.int ((nxAt c v : Nat) + 1 : Int) = natV (nxAt c v + 1) := rfl
    rw [show (fun i j : Int => V.int (i + j)) ((nxAt c v : Nat) : Int) 1 = natV (nxAt c v + 1) from rfl, ← List.map_set]
    have A3 : CrewAt K C (upd H2 x.NX (.lst ((c.nx.set v (nxAt c v + 1)).map natV))) x J (stepped c v) := A2.setNX (c.nx.set v (nxAt c v + 1))
    have k3 : KeepC x H (upd H2 x.NX (.lst ((c.nx.set v (nxAt c v + 1)).map natV))) := k2.trans (KeepC.put (lst_in (i := 5) rfl) _ _)
    have kt3 : KT K H (upd H2 x.NX (.lst ((c.nx.set v (nxAt c v + 1)).map natV))) := A.kt k3
    generalize upd H2 x.NX (.lst ((c.nx.set v (nxAt c v + 1)).map natV)) = H3 at *
    have hsq3 := kt3 _ _ hsq
    have M := mid_inv ok I hh hgh
    rw [stepAt_eq, hst] at M
    have eq : doStep J c h v = settleC J (J.length + 1) (sentC J (stepped c v) h v (kid st)) h := by
      unfold doStep
      rw [stepAt_eq, hst]
      rfl
    rw [eq] at q
    replace M : CInv J n (fun u => holdAt (sentC J (stepped c v) h v (kid st)) h = some u) (sentC J (stepped c v) h v (kid st)) := M
    refine ⟨fun σ' H4 => σ' = [some (.ref x.p), some (natV h), some (natV v), some (natV (nxAt c v)), some (.ref ast)] ∧ CrewAt K C H4 x J (sentC J (stepped c v) h v (kid st)) ∧ KeepC x H H4, ?_, ?_⟩
    · obtain ⟨tx, htx, hdec⟩ := stp_at0 st
      refine ⟨_, rfl, ast, _, _, _, rfl, rfl, hsq3, htx, rfl, _, rfl, ?_⟩
      rw [hdec]
      cases ek : kid st with
      | none =>
        refine iteF ?_
        exact ⟨rfl, A3, k3⟩
      | some k =>
        refine iteT ?_
        have es : st = .snd k := by
          cases st with
          | doo => cases ek
          | wai => cases ek
          | snd j => cases ek; rfl
        have hsd := ok.sends (send_of (J := J) (i := v) (m := nxAt c v) (c := k) (by rw [hst, es]))
        have L : Lens J n (stepped c v) := ⟨I.hl, I.pl, I.sl, I.ll, by show (c.nx.set _ _).length = _; rw [List.length_set]; exact I.al, fun u => by
          rw [stepped_nx I hvl]
          by_cases z : u = v
          · rw [if_pos z, z]
            have := (List.getElem?_eq_some_iff.mp hst).1
            omega
          · rw [if_neg z]; exact I.nxle u⟩
        refine ⟨_, rfl, x.p, x.dx, _, rfl, A3.ob, f_no _ _ _ (by decide +kernel), _, rfl, _, rfl, ast, _, _, _, rfl, rfl, hsq3, stp_at1 ek, x, J, _, n, h, v, k, rfl, A3, L, hh, hsd.2, hvl, e0, ?_, fun H4 A4 k4 => ⟨rfl, A4, k3.trans k4⟩⟩
        have := I.pile_len h
        show (pileAt c h).length ≤ 100
        omega
    · rintro σ' H4 ⟨rfl, A4, k4⟩
      exact ⟨_, rfl, x.p, x.dx, _, rfl, A4.ob, f_no _ _ _ (by decide +kernel), _, rfl, x, J, _, n, h, rfl, A4, ok, hh, M, fun H5 A5 k5 => q H5 A5 (k4.trans k5)⟩
end
end Far
set_option Elab.async false
set_option linter.all false
set_option maxRecDepth 100000
set_option maxHeartbeats 4000000
set_option pp.maxSteps 500
namespace Far
open PySem L2
section
variable {P : Program} {w : World} {K : PySem.W.Frag} {mg : Str → Option Value} {base : Heap} {C : Addr}
theorem last_get {xs : List V} {x : V} : (xs ++ [x])[(xs ++ [x]).length - 1]? = some x := by simp
theorem seq0 (a : V) (l : List V) : seqIndex? 0 (a :: l).length = some 0 := by
  unfold seqIndex?
  simp
theorem told0 (t : Told) : ∃ s : Str, atI (toldV t) 0 = some (.str s) ∧ ((∃ w n, t = .step w n ∧ s = "step") ∨ (∃ w, t = .own w ∧ s = "own") ∨ (∃ w o, t = .took w o ∧ s = "took") ∨ (∃ o, t = .missed o ∧ s = "missed")) := by
  cases t with
  | step w n => exact ⟨_, rfl, .inl ⟨w, n, rfl, rfl⟩⟩
  | own w => exact ⟨_, rfl, .inr (.inl ⟨w, rfl, rfl⟩)⟩
  | took w o => exact ⟨_, rfl, .inr (.inr (.inl ⟨w, o, rfl, rfl⟩))⟩
  | missed o => exact ⟨_, rfl, .inr (.inr (.inr ⟨o, rfl, rfl⟩))⟩
theorem str_dec {a b : Str} (h : a ≠ b) : decide (V.str a = V.str b) = false := decide_eq_false fun z => by injection z with z; exact h z
theorem str_same (a : Str) : decide (V.str a = V.str a) = true := decide_eq_true rfl
abbrev n_takeT : List Str := ["self", "hand", "other", "told"]
theorem sc_takeT : FnScope n_takeT ["self", "hand", "other"] (defScope sTakeT) := ⟨rfl, rfl, rfl, by decide +kernel, rfl, by decide +kernel, by decide +kernel⟩
theorem ok_takeT {f : Addr} {fd : FuncData} (F : Fun K "take_turn" "Crew.take_turn" sTakeT f fd) (T : TxtC K mg C)
    {f_foretold : Addr} {d_foretold : FuncData} (G_foretold : FnOk P w K mg base CX0 1 f_foretold d_foretold ["self", "hand", "other"] (spFore K C)) (b_foretold : Binds K d_foretold ["self", "hand", "other"] []) (m_foretold : Meth K C "foretold" f_foretold)
    {f_do_step : Addr} {d_do_step : FuncData} (G_do_step : FnOk P w K mg base CX0 5 f_do_step d_do_step ["self", "hand"] (spDoStep K C)) (b_do_step : Binds K d_do_step ["self", "hand"] []) (m_do_step : Meth K C "do_step" f_do_step) :
    FnOk P w K mg base CX0 6 f fd ["self", "hand", "other"] (spTakeT K C) := by
  refine F.ok sc_takeT (fun vs H Q E h => ?_) (fun cdv Ar outer s H vs Q E hr h => ?_)
  · obtain ⟨x, J, c, n, h, o, rfl, _⟩ := h
    rfl
  · obtain ⟨x, J, c, n, h, o, rfl, A, ok, hh, ho, I, q⟩ := h
    refine ⟨_, pss_cons (ps_set (i := 3) sc_takeT.nd rfl (Or.inl rfl) (pe_meth (pv 0) T.cl m_foretold G_foretold (hr.mono (by decide)) b_foretold .nil pass0 (pa_cons (pv 1) (pa_cons (pv 2) pa_nil)))) (pss_cons (ps_if (pt_cmpR op_eq (pe_ix ix_tup (pv 3) (pe_int) (fun _ _ => rfl)) (pe_str) (nomark _)) (pss_one (ps_expr (pe_meth (pv 0) T.cl m_do_step G_do_step (hr.mono (by decide)) b_do_step .nil pass0 (pa_cons (pv 1) pa_nil)))) (pss_one (ps_if (pt_cmpR op_eq (pe_ix ix_tup (pv 3) (pe_int) (fun _ _ => rfl)) (pe_str) (nomark _)) (pss_one (ps_asg (pe_bm0 PySem.F.plainAttrs_list PySem.F.slot_list_pop PySem.F.type_list_pop mt_pop (pe_ix ix_list (pe_fld (pv 0) rfl) (pv 1) (fun _ _ => rfl))) (pg_sub (pe_fld (pv 0) rfl) (pv 1) set_list))) (pss_one (ps_if (pt_cmpR op_eq (pe_ix ix_tup (pv 3) (pe_int) (fun _ _ => rfl)) (pe_str) (nomark _)) (pss_one (ps_asg (pe_bm PySem.F.plainAttrs_list PySem.F.slot_list_pop PySem.F.type_list_pop mt_popAt (pe_ix ix_list (pe_fld (pv 0) rfl) (pv 2) (fun _ _ => rfl)) (pa_cons (pe_int) pa_nil)) (pg_sub (pe_fld (pv 0) rfl) (pv 1) set_list))) pss_nil))))) (pss_one (ps_ret (pv 3)))), ?_⟩
    have hgl := I.hl
    have hpl := I.pl
    refine ⟨_, rfl, x.p, x.dx, _, rfl, A.ob, f_no _ _ _ (by decide +kernel), _, rfl, _, rfl, x, J, c, n, h, o, rfl, A, I.hl, I.pl, hh, ho, fun v e => by rw [I.al]; exact lives_lt I (hold_lives I (List.mem_of_getElem? (holdAt_some e))), fun T1 hT1 => ?_⟩
    obtain ⟨tl, etl⟩ : ∃ tl, foretold c h o = tl := ⟨_, rfl⟩
    rw [etl] at q ⊢
    have s1 := same_new hT1 (.tup (toldV tl))
    have A1 := A.same s1
    have k1 := KeepC.of (x := x) s1
    have hT : (upd H T1 (.tup (toldV tl))) T1 = some (.tup (toldV tl)) := upd_same
    generalize upd H T1 (.tup (toldV tl)) = H1 at *
    have keepT : ∀ {H2 : Hp}, KeepC x H1 H2 → H2 T1 = some (.tup (toldV tl)) := fun k => A1.ku k _ _ hT
    obtain ⟨tx, htx, hcases⟩ := told0 tl
    refine ⟨_, rfl, T1, _, _, _, rfl, rfl, SqT.of hT, htx, rfl, _, rfl, ?_⟩
    rcases hcases with ⟨v, k, rfl, rfl⟩ | ⟨v, rfl, rfl⟩ | ⟨v, o', rfl, rfl⟩ | ⟨o', rfl, rfl⟩
    · rw [str_same]
      refine iteT ?_
      have e0 := fore_step etl
      refine ⟨_, rfl, x.p, x.dx, _, rfl, A1.ob, f_no _ _ _ (by decide +kernel), _, rfl, x, J, c, n, h, v, rfl, A1, ok, hh, I, e0, fun H2 A2 k2 => ?_⟩
      exact ⟨_, rfl, q T1 H2 hT1 (keepT k2) A2 (k1.trans k2)⟩
    · rw [str_dec (by decide +kernel)]
      refine iteF ?_
      refine ⟨_, rfl, T1, _, _, _, rfl, rfl, SqT.of hT, htx, rfl, _, rfl, ?_⟩
      rw [str_same]
      refine iteT ?_
      obtain ⟨e0, l, hl⟩ := fore_own etl
      have gp := pileAt_get (c := c) (h := h) (by omega)
      rw [hl] at gp
      obtain ⟨ap, hap0, hap, hapx⟩ := A1.pile gp
      rw [List.map_append] at hap
      refine ⟨_, rfl, x.p, C, x.dx, _, _, rfl, A1.ob, T.cl, T.n_pl, f_piles _ _ _, _, rfl, x.PL, _, _, _, rfl, rfl, SqL.of A1.pl, atI_nat hapx, .inl ⟨rfl, _, SqL.of hap⟩, ap, _, natV v, rfl, rfl, hap, last_get, ?_⟩
      rw [show List.map natV [v] = [natV v] from rfl, List.dropLast_concat]
      have A2 := A1.setPile hap0 l
      have k2 : KeepC x H1 (upd H1 ap (.lst (l.map natV))) := KeepC.put (lst_in (i := h + 7) hap0) _ _
      generalize upd H1 ap (.lst (l.map natV)) = H2 at *
      refine ⟨_, rfl, x.p, C, x.dx, _, _, rfl, A2.ob, T.cl, T.n_aw, f_at_work _ _ _, _, rfl, x.AW, _, _, h, rfl, rfl, A2.aw, ixN_nat (by rw [List.length_map]; show h < c.hold.length; omega), ?_⟩
      have k3 := k2.trans (KeepC.put (x := x) (lst_in (i := 1) rfl) H2 (.lst ((c.hold.map optV).set h (natV v))))
      refine ⟨_, rfl, q T1 _ hT1 (keepT k3) ?_ (k1.trans k3)⟩
      show CrewAt K C _ x J { c with hold := c.hold.set h (some v), piles := c.piles.set h (pileAt c h).dropLast }
      rw [hl, List.dropLast_concat, show natV v = optV (some v) from rfl, ← List.map_set]
      exact A2.setAW _
    · rw [str_dec (by decide +kernel)]
      refine iteF ?_
      refine ⟨_, rfl, T1, _, _, _, rfl, rfl, SqT.of hT, htx, rfl, _, rfl, ?_⟩
      rw [str_dec (by decide +kernel)]
      refine iteF ?_
      refine ⟨_, rfl, T1, _, _, _, rfl, rfl, SqT.of hT, htx, rfl, _, rfl, ?_⟩
      rw [str_same]
      refine iteT ?_
      obtain ⟨rfl, e0, _, l, hl⟩ := fore_took etl
      have gp := pileAt_get (c := c) (h := o') (by omega)
      rw [hl] at gp
      obtain ⟨ap, hap0, hap, hapx⟩ := A1.pile gp
      rw [List.map_cons] at hap
      refine ⟨_, rfl, x.p, C, x.dx, _, _, rfl, A1.ob, T.cl, T.n_pl, f_piles _ _ _, _, rfl, x.PL, _, _, _, rfl, rfl, SqL.of A1.pl, atI_nat hapx, .inl ⟨rfl, _, SqL.of hap⟩, ap, _, _, 0, natV v, rfl, rfl, hap, by decide, by decide, seq0 _ _, rfl, ?_⟩
      rw [show (natV v :: l.map natV).eraseIdx 0 = l.map natV from rfl]
      have A2 := A1.setPile hap0 l
      have k2 : KeepC x H1 (upd H1 ap (.lst (l.map natV))) := KeepC.put (lst_in (i := o' + 7) hap0) _ _
      generalize upd H1 ap (.lst (l.map natV)) = H2 at *
      refine ⟨_, rfl, x.p, C, x.dx, _, _, rfl, A2.ob, T.cl, T.n_aw, f_at_work _ _ _, _, rfl, x.AW, _, _, h, rfl, rfl, A2.aw, ixN_nat (by rw [List.length_map]; show h < c.hold.length; omega), ?_⟩
      have k3 := k2.trans (KeepC.put (x := x) (lst_in (i := 1) rfl) H2 (.lst ((c.hold.map optV).set h (natV v))))
      refine ⟨_, rfl, q T1 _ hT1 (keepT k3) ?_ (k1.trans k3)⟩
      show CrewAt K C _ x J { c with hold := c.hold.set h (some v), piles := c.piles.set o' (pileAt c o').tail }
      rw [hl, List.tail_cons, show natV v = optV (some v) from rfl, ← List.map_set]
      exact A2.setAW _
    · rw [str_dec (by decide +kernel)]
      refine iteF ?_
      refine ⟨_, rfl, T1, _, _, _, rfl, rfl, SqT.of hT, htx, rfl, _, rfl, ?_⟩
      rw [str_dec (by decide +kernel)]
      refine iteF ?_
      refine ⟨_, rfl, T1, _, _, _, rfl, rfl, SqT.of hT, htx, rfl, _, rfl, ?_⟩
      rw [str_dec (by decide +kernel)]
      refine iteF ?_
      exact ⟨_, rfl, q T1 H1 hT1 hT A1 k1⟩
end
end Far
set_option Elab.async false
set_option linter.all false
set_option maxRecDepth 100000
set_option maxHeartbeats 4000000
set_option pp.maxSteps 500
namespace Far
open PySem L2
section
variable {P : Program} {w : World} {K : PySem.W.Frag} {mg : Str → Option Value} {base : Heap} {C : Addr}
theorem JobOk.fits {most : Nat} {J : Job} (o : JobOk most J) (h : most ≤ 12) : Fits J := ⟨Nat.le_trans o.len h, fun w hw => (o.sts w hw).2⟩
theorem JobOk.inside {most : Nat} {J : Job} (o : JobOk most J) : Inside J := fun t ht => (o.sends ht).2
abbrev n_init : List Str := ["self", "job", "hands", "hand"]
theorem sc_init : FnScope n_init ["self", "job", "hands"] (defScope sInit) := ⟨rfl, rfl, rfl, by decide +kernel, rfl, by decide +kernel, by decide +kernel⟩
theorem ok_init {f : Addr} {fd : FuncData} (F : Fun K "__init__" "Crew.__init__" sInit f fd) (T : TxtC K mg C)
    {f_parents : Addr} {d_parents : FuncData} (G_parents : FnOk P w K mg base CX0 3 f_parents d_parents ["job"] (spParents K)) (b_parents : Binds K d_parents ["job"] []) (k_parents : PySem.W.keepIn K (.ref f_parents) = true) (m_parents : mg "parents" = some (.ref f_parents))
    {f_begin : Addr} {d_begin : FuncData} (G_begin : FnOk P w K mg base CX0 1 f_begin d_begin ["self", "work"] (spBegin K C)) (b_begin : Binds K d_begin ["self", "work"] []) (m_begin : Meth K C "begin" f_begin) :
    FnOk P w K mg base CX0 4 f fd ["self", "job", "hands"] (spInit K C) := by
  refine F.ok sc_init (fun vs H Q E h => ?_) (fun cdv Ar outer s H vs Q E hr h => ?_)
  · obtain ⟨p, dx, jv, J, n, rfl, _⟩ := h
    rfl
  · obtain ⟨p, dx, jv, J, n, rfl, hp, hJ, ok, hn, hn2, q⟩ := h
    refine ⟨_, pss_cons (ps_fld (pv 0) (pv 1) rfl) (pss_cons (ps_fld (pv 0) (pe_call G_parents (hr.mono (by decide)) rfl m_parents k_parents b_parents .nil pass0 (pa_cons (pv 1) pa_nil)) rfl) (pss_cons (ps_fld (pv 0) (pe_op op_cat (pe_lst (pa_cons (pe_int) pa_nil)) (pe_op op_rep (pe_lst (pa_cons (pe_non) pa_nil)) (pe_op op_sub (pv 2) (pe_int)))) rfl) (pss_cons (ps_fld (pv 0) (pe_lc (own := [("hand", 3)]) (g := gName 3) (by rfl) sc_init.nd (pi_range1 rfl T.range (pa_cons (pv 2) pa_nil)) (blkOk_by (own := [("hand", 3)]) (N := n_init) (sc := defScope sInit) (by decide +kernel)) (fun _ _ _ _ _ => pg_name (i := 3) sc_init.nd rfl (Or.inl rfl)) (fun _ _ _ _ _ => pts_nil) (fun _ _ _ _ _ => pe_lst (pa_nil))) rfl) (pss_cons (ps_fld (pv 0) (pe_op op_rep (pe_lst (pa_cons (pe_bl) pa_nil)) (pe_callB call_len_seq rfl T.len PySem.boot_len (pa_cons (pv 1) pa_nil))) rfl) (pss_cons (ps_fld (pv 0) (pe_op op_rep (pe_lst (pa_cons (pe_bl) pa_nil)) (pe_callB call_len_seq rfl T.len PySem.boot_len (pa_cons (pv 1) pa_nil))) rfl) (pss_cons (ps_fld (pv 0) (pe_op op_rep (pe_lst (pa_cons (pe_int) pa_nil)) (pe_callB call_len_seq rfl T.len PySem.boot_len (pa_cons (pv 1) pa_nil))) rfl) (pss_cons (ps_fld (pv 0) (pe_lst (pa_nil)) rfl) (pss_cons (ps_fld (pv 0) (pe_int) rfl) (pss_cons (ps_fld (pv 0) (pe_int) rfl) (pss_one (ps_expr (pe_meth (pv 0) T.cl m_begin G_begin (hr.mono (by decide)) b_begin .nil pass0 (pa_cons (pe_int) pa_nil))))))))))))), ?_⟩
    have h12 := ok.len
    have fit := ok.fits (Nat.le_refl _)
    obtain ⟨a, ws, rfl, hq, hpw⟩ := id hJ
    have hwl : ws.length = J.length := plen hpw
    have m0 := Mkg.start hp
    refine ⟨_, rfl, _, rfl, p, C, dx, _, rfl, hp, T.cl, T.n_jb, (by show 0 < 1000; decide), ?_⟩
    rw [show putF "job" (V.ref a) [] = ([("job", V.ref a)] : List (Str × V)) from rfl]
    have m1 := m0.put (.ins C dx [("job", V.ref a)])
    generalize upd H p (.ins C dx [("job", V.ref a)]) = H1 at *
    refine ⟨_, rfl, _, J, rfl, IsJob.kt (m1.kt hp) hJ, fit, ok.inside, fun E1 H2 eE s2 hE => ?_⟩
    have m2 := m1.adds s2 [(E1, .lst ((parL J).map optV))] (by simp) fun e he => by rw [List.mem_singleton.mp he]; exact ⟨hE, eE⟩
    rw [List.singleton_append] at m2
    refine ⟨_, rfl, p, C, dx, _, rfl, m2.ob, T.cl, T.n_el, (by show 1 < 1000; decide), ?_⟩
    rw [show putF "elders" (V.ref E1) [("job", V.ref a)] = ([("job", V.ref a), ("elders", V.ref E1)] : List (Str × V)) from pf_keys ["job"] (by decide +kernel) rfl]
    replace m2 := m2.put (.ins C dx [("job", V.ref a), ("elders", V.ref E1)])
    generalize upd H2 p (.ins C dx [("job", V.ref a), ("elders", V.ref E1)]) = H3 at *
    refine ⟨(by show 1 ≤ sizeLine; decide), fun L1 e1 => ⟨(by show 1 ≤ sizeLine; decide), fun L2 e2 => ?_⟩⟩
    have m3 := m2.new e1 (.lst [.int 0])
    have hL1 : (upd H3 L1 (.lst [.int 0])) L1 = some (.lst [.int 0]) := upd_same
    generalize upd H3 L1 (.lst [.int 0]) = H4 at *
    have m4 := m3.new e2 (.lst [.non])
    have hL1' := same_new e2 (.lst [.non]) _ _ hL1
    have hL2 : (upd H4 L2 (.lst [.non])) L2 = some (.lst [.non]) := upd_same
    generalize upd H4 L2 (.lst [.non]) = H5 at *
    have enn : ((n : Nat) : Int) - 1 = ((n - 1 : Nat) : Int) := by omega
    refine ⟨_, rfl, _, _, rfl, rfl, L2, _, _, rfl, rfl, hL2, by omega, by omega, ?_, fun L3 e3 => ?_⟩
    · show 1 * (((n : Nat) : Int) - 1).toNat ≤ sizeLine
      exact Nat.le_of_lt (small1000 (by omega))
    rw [show (((n : Nat) : Int) - 1).toNat = n - 1 from by omega, rep_flat] at *
    have m5 := m4.new e3 (.lst (List.replicate (n - 1) .non))
    have hL1'' := same_new e3 (.lst (List.replicate (n - 1) .non)) _ _ hL1'
    have hL3 : (upd H5 L3 (.lst (List.replicate (n - 1) .non))) L3 = some (.lst (List.replicate (n - 1) .non)) := upd_same
    generalize upd H5 L3 (.lst (List.replicate (n - 1) .non)) = H6 at *
    refine ⟨L1, L3, _, _, rfl, rfl, hL1'', hL3, ?_, fun AW eAW => ?_⟩
    · rw [List.length_replicate]
      show 1 + (n - 1) ≤ sizeLine
      exact Nat.le_of_lt (small1000 (by omega))
    have eaw : [V.int 0] ++ List.replicate (n - 1) V.non = (some 0 :: List.replicate (n - 1) none : List (Option Nat)).map optV := by
      rw [List.map_cons, List.map_replicate]; rfl
    rw [eaw]
    have m6 := ((((m5.new eAW (.lst ((some 0 :: List.replicate (n - 1) none : List (Option Nat)).map optV))).drop2).drop2).drop2)
    generalize upd H6 AW (.lst ((some 0 :: List.replicate (n - 1) none : List (Option Nat)).map optV)) = H7 at *
    refine ⟨_, rfl, p, C, dx, _, rfl, m6.ob, T.cl, T.n_aw, (by show 2 < 1000; decide), ?_⟩
    rw [show putF "at_work" (V.ref AW) [("job", V.ref a), ("elders", V.ref E1)] = ([("job", V.ref a), ("elders", V.ref E1), ("at_work", V.ref AW)] : List (Str × V)) from pf_keys ["job", "elders"] (by decide +kernel) rfl]
    replace m6 := m6.put (.ins C dx [("job", V.ref a), ("elders", V.ref E1), ("at_work", V.ref AW)])
    generalize upd H7 p (.ins C dx [("job", V.ref a), ("elders", V.ref E1), ("at_work", V.ref AW)]) = H8 at *
    refine ⟨_, rfl, _, rfl, by omega, by omega, fun PL ePL => ?_⟩
    refine lc_range (lo := 0) (n := ((n : Nat) : Int).toNat) (fun i H9 => Same H8 H9 ∧ ∃ ps : List Addr, ps.length = i ∧ H9 PL = some (.lst (ps.map V.ref)) ∧ ps.Nodup ∧ ∀ b ∈ ps, H9 b = some (.lst []) ∧ H8 b = none ∧ b ≠ PL)
      ⟨same_new ePL _, [], rfl, upd_same, List.nodup_nil, fun b z => (nomatch z)⟩ ?_ ?_
    · rintro i H9 hi ⟨s9, ps, hl, hPL, nd, hps⟩
      refine ⟨rfl, yes_ ?_⟩
      refine iteT ?_
      refine ⟨(by show 0 ≤ sizeLine; decide), fun B eB => ?_⟩
      have hBP : B ≠ PL := fun z => by rw [z, hPL] at eB; cases eB
      have nB : H8 B = none := s9.free eB
      have s10 := same_new eB (.lst [])
      refine ⟨_, s10 _ _ hPL, small1000 (by rw [List.length_map]; omega), fun c o e => ?_, ps ++ [B], by rw [List.length_append, hl]; rfl, ?_, ?_, fun b hb => ?_⟩
      · rw [upd_ne (ne_of_none e ePL)]; exact s10 _ _ (s9 c o e)
      · rw [upd_same, List.map_append]; rfl
      · refine List.nodup_append.mpr ⟨nd, by simp, ?_⟩
        rintro c hc d hd rfl
        rw [List.mem_singleton.mp hd] at hc
        have := (hps _ hc).1
        rw [eB] at this
        cases this
      · rcases List.mem_append.mp hb with z | z
        · obtain ⟨h1, h2, h3⟩ := hps b z
          exact ⟨by rw [upd_ne h3]; exact s10 _ _ h1, h2, h3⟩
        · rw [List.mem_singleton.mp z]
          exact ⟨by rw [upd_ne hBP]; exact upd_same, nB, hBP⟩
    rintro H9 ⟨s9, ps, hl, hPL, nd, hps⟩
    rw [Int.toNat_natCast] at hl
    have m7 := m6.adds s9 ((PL, .lst (ps.map V.ref)) :: ps.map fun b => (b, HO.lst [])) (by
      rw [List.map_cons, List.map_map]
      have e : ((fun e : Addr × HO => e.1) ∘ fun b : Addr => (b, HO.lst [])) = id := rfl
      rw [e, List.map_id]
      exact List.nodup_cons.mpr ⟨fun z => (hps _ z).2.2 rfl, nd⟩) (fun e he => by
      rcases List.mem_cons.mp he with z | z
      · rw [z]; exact ⟨hPL, ePL⟩
      · obtain ⟨b, hb, rfl⟩ := List.mem_map.mp z
        exact ⟨(hps b hb).1, (hps b hb).2.1⟩)
    rw [List.cons_append] at m7
    refine ⟨_, rfl, p, C, dx, _, rfl, m7.ob, T.cl, T.n_pl, (by show 3 < 1000; decide), ?_⟩
    rw [show putF "piles" (V.ref PL) [("job", V.ref a), ("elders", V.ref E1), ("at_work", V.ref AW)] = ([("job", V.ref a), ("elders", V.ref E1), ("at_work", V.ref AW), ("piles", V.ref PL)] : List (Str × V)) from pf_keys ["job", "elders", "at_work"] (by decide +kernel) rfl]
    replace m7 := m7.put (.ins C dx [("job", V.ref a), ("elders", V.ref E1), ("at_work", V.ref AW), ("piles", V.ref PL)])
    generalize upd H9 p (.ins C dx [("job", V.ref a), ("elders", V.ref E1), ("at_work", V.ref AW), ("piles", V.ref PL)]) = H10 at *
    refine ⟨(by show 1 ≤ sizeLine; decide), fun L4 e4 => ?_⟩
    have m8 := m7.new e4 (.lst [.bl false])
    have hL4 : (upd H10 L4 (.lst [.bl false])) L4 = some (.lst [.bl false]) := upd_same
    generalize upd H10 L4 (.lst [.bl false]) = H11 at *
    refine ⟨_, rfl, a, ws, rfl, .inr (m8.kt hp _ _ hq), L4, _, _, rfl, rfl, hL4, by omega, by omega, ?_, fun ST eST => ?_⟩
    · show 1 * ((ws.length : Nat) : Int).toNat ≤ sizeLine
      exact Nat.le_of_lt (small1000 (by omega))
    have e8 : (List.replicate ((ws.length : Nat) : Int).toNat ([V.bl false] : List V)).flatten = (List.replicate J.length false).map V.bl := by rw [rep_flat, List.map_replicate, ← hwl]; rfl
    rw [e8]
    replace m8 := (m8.new eST (.lst ((List.replicate J.length false).map V.bl))).drop2
    generalize upd H11 ST (.lst ((List.replicate J.length false).map V.bl)) = H12 at *
    refine ⟨_, rfl, p, C, dx, _, rfl, m8.ob, T.cl, T.n_st, (by show 4 < 1000; decide), ?_⟩
    rw [show putF "stands" (V.ref ST) [("job", V.ref a), ("elders", V.ref E1), ("at_work", V.ref AW), ("piles", V.ref PL)] = ([("job", V.ref a), ("elders", V.ref E1), ("at_work", V.ref AW), ("piles", V.ref PL), ("stands", V.ref ST)] : List (Str × V)) from pf_keys ["job", "elders", "at_work", "piles"] (by decide +kernel) rfl]
    replace m8 := m8.put (.ins C dx [("job", V.ref a), ("elders", V.ref E1), ("at_work", V.ref AW), ("piles", V.ref PL), ("stands", V.ref ST)])
    generalize upd H12 p (.ins C dx [("job", V.ref a), ("elders", V.ref E1), ("at_work", V.ref AW), ("piles", V.ref PL), ("stands", V.ref ST)]) = H13 at *
    refine ⟨(by show 1 ≤ sizeLine; decide), fun L5 e5 => ?_⟩
    have m9 := m8.new e5 (.lst [.bl false])
    have hL5 : (upd H13 L5 (.lst [.bl false])) L5 = some (.lst [.bl false]) := upd_same
    generalize upd H13 L5 (.lst [.bl false]) = H14 at *
    refine ⟨_, rfl, a, ws, rfl, .inr (m9.kt hp _ _ hq), L5, _, _, rfl, rfl, hL5, by omega, by omega, ?_, fun LV eLV => ?_⟩
    · show 1 * ((ws.length : Nat) : Int).toNat ≤ sizeLine
      exact Nat.le_of_lt (small1000 (by omega))
    rw [e8]
    replace m9 := (m9.new eLV (.lst ((List.replicate J.length false).map V.bl))).drop2
    generalize upd H14 LV (.lst ((List.replicate J.length false).map V.bl)) = H15 at *
    refine ⟨_, rfl, p, C, dx, _, rfl, m9.ob, T.cl, T.n_lv, (by show 5 < 1000; decide), ?_⟩
    rw [show putF "lives" (V.ref LV) [("job", V.ref a), ("elders", V.ref E1), ("at_work", V.ref AW), ("piles", V.ref PL), ("stands", V.ref ST)] = ([("job", V.ref a), ("elders", V.ref E1), ("at_work", V.ref AW), ("piles", V.ref PL), ("stands", V.ref ST), ("lives", V.ref LV)] : List (Str × V)) from pf_keys ["job", "elders", "at_work", "piles", "stands"] (by decide +kernel) rfl]
    replace m9 := m9.put (.ins C dx [("job", V.ref a), ("elders", V.ref E1), ("at_work", V.ref AW), ("piles", V.ref PL), ("stands", V.ref ST), ("lives", V.ref LV)])
    generalize upd H15 p (.ins C dx [("job", V.ref a), ("elders", V.ref E1), ("at_work", V.ref AW), ("piles", V.ref PL), ("stands", V.ref ST), ("lives", V.ref LV)]) = H16 at *
    refine ⟨(by show 1 ≤ sizeLine; decide), fun L6 e6 => ?_⟩
    have m10 := m9.new e6 (.lst [.int 0])
    have hL6 : (upd H16 L6 (.lst [.int 0])) L6 = some (.lst [.int 0]) := upd_same
    generalize upd H16 L6 (.lst [.int 0]) = H17 at *
    refine ⟨_, rfl, a, ws, rfl, .inr (m10.kt hp _ _ hq), L6, _, _, rfl, rfl, hL6, by omega, by omega, ?_, fun NX eNX => ?_⟩
    · show 1 * ((ws.length : Nat) : Int).toNat ≤ sizeLine
      exact Nat.le_of_lt (small1000 (by omega))
    have e10 : (List.replicate ((ws.length : Nat) : Int).toNat ([V.int 0] : List V)).flatten = (List.replicate J.length 0).map natV := by rw [rep_flat, List.map_replicate, ← hwl]; rfl
    rw [e10]
    replace m10 := (m10.new eNX (.lst ((List.replicate J.length 0).map natV))).drop2
    generalize upd H17 NX (.lst ((List.replicate J.length 0).map natV)) = H18 at *
    refine ⟨_, rfl, p, C, dx, _, rfl, m10.ob, T.cl, T.n_nx, (by show 6 < 1000; decide), ?_⟩
    rw [show putF "next_steps" (V.ref NX) [("job", V.ref a), ("elders", V.ref E1), ("at_work", V.ref AW), ("piles", V.ref PL), ("stands", V.ref ST), ("lives", V.ref LV)] = ([("job", V.ref a), ("elders", V.ref E1), ("at_work", V.ref AW), ("piles", V.ref PL), ("stands", V.ref ST), ("lives", V.ref LV), ("next_steps", V.ref NX)] : List (Str × V)) from pf_keys ["job", "elders", "at_work", "piles", "stands", "lives"] (by decide +kernel) rfl]
    replace m10 := m10.put (.ins C dx [("job", V.ref a), ("elders", V.ref E1), ("at_work", V.ref AW), ("piles", V.ref PL), ("stands", V.ref ST), ("lives", V.ref LV), ("next_steps", V.ref NX)])
    generalize upd H18 p (.ins C dx [("job", V.ref a), ("elders", V.ref E1), ("at_work", V.ref AW), ("piles", V.ref PL), ("stands", V.ref ST), ("lives", V.ref LV), ("next_steps", V.ref NX)]) = H19 at *
    refine ⟨(by show 0 ≤ sizeLine; decide), fun SD eSD => ?_⟩
    have m11 := m10.new eSD (.lst [])
    generalize upd H19 SD (.lst []) = H20 at *
    refine ⟨_, rfl, p, C, dx, _, rfl, m11.ob, T.cl, T.n_sd, (by show 7 < 1000; decide), ?_⟩
    rw [show putF "steps_done" (V.ref SD) [("job", V.ref a), ("elders", V.ref E1), ("at_work", V.ref AW), ("piles", V.ref PL), ("stands", V.ref ST), ("lives", V.ref LV), ("next_steps", V.ref NX)] = ([("job", V.ref a), ("elders", V.ref E1), ("at_work", V.ref AW), ("piles", V.ref PL), ("stands", V.ref ST), ("lives", V.ref LV), ("next_steps", V.ref NX), ("steps_done", V.ref SD)] : List (Str × V)) from pf_keys ["job", "elders", "at_work", "piles", "stands", "lives", "next_steps"] (by decide +kernel) rfl]
    replace m11 := m11.put (.ins C dx [("job", V.ref a), ("elders", V.ref E1), ("at_work", V.ref AW), ("piles", V.ref PL), ("stands", V.ref ST), ("lives", V.ref LV), ("next_steps", V.ref NX), ("steps_done", V.ref SD)])
    generalize upd H20 p (.ins C dx [("job", V.ref a), ("elders", V.ref E1), ("at_work", V.ref AW), ("piles", V.ref PL), ("stands", V.ref ST), ("lives", V.ref LV), ("next_steps", V.ref NX), ("steps_done", V.ref SD)]) = H21 at *
    refine ⟨_, rfl, p, C, dx, _, rfl, m11.ob, T.cl, T.n_now, (by show 8 < 1000; decide), ?_⟩
    rw [show putF "room_now" (V.int 0) [("job", V.ref a), ("elders", V.ref E1), ("at_work", V.ref AW), ("piles", V.ref PL), ("stands", V.ref ST), ("lives", V.ref LV), ("next_steps", V.ref NX), ("steps_done", V.ref SD)] = ([("job", V.ref a), ("elders", V.ref E1), ("at_work", V.ref AW), ("piles", V.ref PL), ("stands", V.ref ST), ("lives", V.ref LV), ("next_steps", V.ref NX), ("steps_done", V.ref SD), ("room_now", V.int 0)] : List (Str × V)) from pf_keys ["job", "elders", "at_work", "piles", "stands", "lives", "next_steps", "steps_done"] (by decide +kernel) rfl]
    replace m11 := m11.put (.ins C dx [("job", V.ref a), ("elders", V.ref E1), ("at_work", V.ref AW), ("piles", V.ref PL), ("stands", V.ref ST), ("lives", V.ref LV), ("next_steps", V.ref NX), ("steps_done", V.ref SD), ("room_now", V.int 0)])
    generalize upd H21 p (.ins C dx [("job", V.ref a), ("elders", V.ref E1), ("at_work", V.ref AW), ("piles", V.ref PL), ("stands", V.ref ST), ("lives", V.ref LV), ("next_steps", V.ref NX), ("steps_done", V.ref SD), ("room_now", V.int 0)]) = H22 at *
    refine ⟨_, rfl, p, C, dx, _, rfl, m11.ob, T.cl, T.n_most, (by show 9 < 1000; decide), ?_⟩
    obtain ⟨x, hx⟩ : ∃ x : CA, x = ⟨p, dx, V.ref a, E1, AW, PL, ST, LV, NX, SD, ps⟩ := ⟨_, rfl⟩
    have hcf : cflds x 0 0 = ([("job", V.ref a), ("elders", V.ref E1), ("at_work", V.ref AW), ("piles", V.ref PL), ("stands", V.ref ST), ("lives", V.ref LV), ("next_steps", V.ref NX), ("steps_done", V.ref SD), ("room_now", V.int 0), ("room_most", V.int 0)] : List (Str × V)) := by rw [hx]; rfl
    rw [show putF "room_most" (V.int 0) [("job", V.ref a), ("elders", V.ref E1), ("at_work", V.ref AW), ("piles", V.ref PL), ("stands", V.ref ST), ("lives", V.ref LV), ("next_steps", V.ref NX), ("steps_done", V.ref SD), ("room_now", V.int 0)] = cflds x 0 0 from (pf_keys ["job", "elders", "at_work", "piles", "stands", "lives", "next_steps", "steps_done", "room_now"] (by decide +kernel) rfl).trans hcf.symm]
    replace m11 := m11.put (.ins C dx (cflds x 0 0))
    generalize upd H22 p (.ins C dx (cflds x 0 0)) = H23 at *
    have hpm : (lsts x).Perm ((((SD, HO.lst []) :: (NX, HO.lst ((List.replicate J.length 0).map natV)) :: (LV, HO.lst ((List.replicate J.length false).map V.bl)) :: (ST, HO.lst ((List.replicate J.length false).map V.bl)) :: (PL, HO.lst (ps.map V.ref)) :: ((ps.map fun b => (b, HO.lst [])) ++ [(AW, HO.lst ((some 0 :: List.replicate (n - 1) none : List (Option Nat)).map optV)), (E1, HO.lst ((parL J).map optV))])).map (·.1))) := by
      have e : (((ps.map fun b => (b, HO.lst [])) ++ [(AW, HO.lst ((some 0 :: List.replicate (n - 1) none : List (Option Nat)).map optV)), (E1, HO.lst ((parL J).map optV))]).map (·.1)) = ps ++ [AW, E1] := by
        rw [List.map_append, List.map_map]
        have e : ((fun e : Addr × HO => e.1) ∘ fun b : Addr => (b, HO.lst [])) = id := rfl
        rw [e, List.map_id]
        rfl
      rw [List.map_cons, List.map_cons, List.map_cons, List.map_cons, List.map_cons, e, hx]
      refine List.perm_iff_count.mpr fun b => ?_
      show (E1 :: AW :: PL :: ST :: LV :: NX :: SD :: ps).count b = (SD :: NX :: LV :: ST :: PL :: (ps ++ [AW, E1])).count b
      simp only [List.count_cons, List.count_append, List.count_nil]
      omega
    have hfr : ∀ b ∈ lsts x, H b = none := fun b hb => by
      obtain ⟨e, he, rfl⟩ := List.mem_map.mp (hpm.mem_iff.mp hb)
      exact (m11.fr e he).1
    have A0 : CrewAt K C H23 x J (crew00 J n) := by
      refine ⟨by rw [hx] at *; exact m11.ob, by rw [hx]; exact IsJob.kt (m11.kt hp) hJ, by rw [hx]; exact m11.li (E1, _) (by simp), by rw [hx]; exact m11.li (AW, _) (by simp [crew00]), by rw [hx]; exact m11.li (PL, _) (by simp), ?_, by rw [hx]; exact m11.li (ST, _) (by simp [crew00]), by rw [hx]; exact m11.li (LV, _) (by simp [crew00]), by rw [hx]; exact m11.li (NX, _) (by simp [crew00]), ⟨[], by rw [hx]; exact m11.li (SD, _) (by simp), .nil⟩, hpm.nodup_iff.mpr m11.nd⟩
      rw [hx]
      show Paired _ ps (List.replicate n [])
      rw [← hl]
      have : ∀ l : List Addr, (∀ b ∈ l, H23 b = some (.lst [])) → Paired (fun a l => H23 a = some (HO.lst (l.map natV))) l (List.replicate l.length []) := by
        intro l
        induction l with
        | nil => intro _; exact .nil
        | cons b r ih =>
          intro h
          rw [List.length_cons, List.replicate_succ]
          exact .cons (h b List.mem_cons_self) (ih fun c hc => h c (List.mem_cons_of_mem _ hc))
      exact this ps fun b hb => m11.li (b, _) (by simp [hb])
    have hxp : x.p = p := by rw [hx]
    have hxd : x.dx = dx := by rw [hx]
    rw [← hxp]
    refine ⟨_, rfl, x.p, x.dx, _, rfl, A0.ob, f_no _ _ _ (by decide +kernel), x, J, crew00 J n, 0, rfl, A0, ok.pos, List.length_replicate, fun H24 A1 k1 => ?_⟩
    refine q x H24 hxp hxd (by rw [hx]) A1 (fun b o e hb => ?_) hfr
    exact k1 b o (m11.kp b o e hb) (by rw [hxp]; exact hb) fun z => by rw [hfr b z] at e; cases e
end
end Far
set_option Elab.async false
set_option linter.all false
set_option maxRecDepth 100000
set_option maxHeartbeats 4000000
namespace Far
open PySem
def KD {α : Type} : Sem α → Prop
  | .pure _ => True
  | .raise _ => True
  | .unsupported _ => True
  | .finish _ => True
  | .rule _ k => KD (k ())
  | .at _ k => KD (k ())
  | .load _ _ k => ∀ o, KD (k o)
  | .update _ _ f k => (∀ o, (f o).dict = o.dict) ∧ KD (k ())
  | .alloc _ k => ∀ a, KD (k a)
  | .loadIfAlive _ k => ∀ o, KD (k o)
  | .point _ k => KD (k ())
  | .fresh k => ∀ t, KD (k t)
  | .ask k => ∀ x, KD (k x)
  | .choose _ _ k => ∀ x, KD (k x)
  | .os _ _ k => ∀ x, KD (k x)
  | .handled _ k => ∀ x, KD (k x)
  | .genState _ k => ∀ x, KD (k x)
  | .newGen _ k => ∀ x, KD (k x)
  | .stack k => ∀ x, KD (k x)
  | .thread k => KD (k 0)
  | .register _ _ => True
  | .yield _ _ _ _ => True
  | .fork _ _ => True
  | .await _ _ _ _ _ => True
  | .call _ _ _ _ _ => False
  | .resume _ _ _ _ => False
def DK (h h' : Heap) : Prop := ∀ (a : Addr) (o : Obj), h.objs[a]? = some o → ∃ o', h'.objs[a]? = some o' ∧ o'.dict = o.dict
theorem DK.refl (h : Heap) : DK h h := fun _ o e => ⟨o, e, rfl⟩
theorem DK.trans {h1 h2 h3 : Heap} (a : DK h1 h2) (b : DK h2 h3) : DK h1 h3 := fun x o e =>
  let ⟨o1, e1, d1⟩ := a x o e; let ⟨o2, e2, d2⟩ := b x o1 e1; ⟨o2, e2, d2.trans d1⟩
theorem DK.push (h : Heap) (o : Obj) : DK h (h.push o) := fun x o' e => by
  refine ⟨o', ?_, rfl⟩
  show (h.objs.push o)[x]? = some o'
  have hx : x < h.objs.size := by
    rcases Nat.lt_or_ge x h.objs.size with z | z
    · exact z
    · rw [Array.getElem?_eq_none z] at e; cases e
  rw [Array.getElem?_push, if_neg (Nat.ne_of_lt hx)]
  exact e
theorem DK.update (h : Heap) (a : Addr) {f : Obj → Obj} (hf : ∀ o, (f o).dict = o.dict) : DK h (h.update a f) := fun x o e => by
  show ∃ o', (h.objs.modify a f)[x]? = some o' ∧ _
  rw [Array.getElem?_modify]
  by_cases z : a = x
  · rw [if_pos z, e]; exact ⟨_, rfl, hf o⟩
  · rw [if_neg z, e]; exact ⟨_, rfl, rfl⟩
theorem objs_of {h : Heap} {a : Addr} {o : Obj} (e : h.get? a = some o) : h.objs[a]? = some o := by
  unfold Heap.get? at e
  split at e
  · cases e
  · exact e
theorem DK.dict {h h' : Heap} (d : DK h h') {a : Addr} {o o' : Obj} (e : h.get? a = some o) (e' : h'.get? a = some o') : o'.dict = o.dict := by
  obtain ⟨o1, e1, d1⟩ := d a o (objs_of e)
  rw [objs_of e'] at e1
  cases e1
  exact d1
theorem wp_kd {α : Type} {M : Model} {Γ : Ctx} {Q : α → Pos → Shared → Prop} {E : Value → Pos → Shared → Prop} {h0 : Heap} : ∀ (t : Sem α) {p : Pos} {s : Shared}, KD t → DK h0 s.heap → Sem.wp M Γ t Q E p s →
    Sem.wp M Γ t (fun a p s' => Q a p s' ∧ DK h0 s'.heap) (fun e p s' => E e p s' ∧ DK h0 s'.heap) p s := by
  intro t
  induction t with
  | pure a => intro p s _ d h; rw [Sem.wp] at h ⊢; exact ⟨h, d⟩
  | raise e => intro p s _ d h; rw [Sem.wp] at h ⊢; exact ⟨h, d⟩
  | unsupported w => intro p s _ d h; rw [Sem.wp] at h; exact h.elim
  | finish e => intro p s _ d h; rw [Sem.wp] at h; exact h.elim
  | rule t k ih => intro p s hk d h; rw [Sem.wp] at h ⊢; exact ih () hk d h
  | «at» q k ih => intro p s hk d h; rw [Sem.wp] at h ⊢; exact ih () hk d h
  | load a pt k ih => intro p s hk d h; rw [Sem.wp] at h ⊢; obtain ⟨o, e, z⟩ := h; exact ⟨o, e, ih o (hk o) d z⟩
  | update a pt f k ih => intro p s hk d h; rw [Sem.wp] at h ⊢; exact ⟨h.1, ih () hk.2 (d.trans (DK.update _ _ hk.1)) h.2⟩
  | alloc o k ih => intro p s hk d h; rw [Sem.wp] at h ⊢; exact ih _ (hk _) (d.trans (DK.push _ _)) h
  | loadIfAlive a k ih => intro p s hk d h; rw [Sem.wp] at h ⊢; exact ih _ (hk _) d h
  | point l k ih => intro p s hk d h; rw [Sem.wp] at h ⊢; exact ih () hk d h
  | register a k ih => intro p s hk d h; rw [Sem.wp] at h; exact h.elim
  | fresh k ih => intro p s hk d h; rw [Sem.wp] at h ⊢; exact ih _ (hk _) d h
  | ask k ih => intro p s hk d h; rw [Sem.wp] at h ⊢; exact ih _ (hk _) d h
  | choose src n k ih => intro p s hk d h; rw [Sem.wp] at h ⊢; exact ⟨h.1, ih _ (hk _) d h.2⟩
  | os q l k ih => intro p s hk d h; rw [Sem.wp] at h ⊢; exact ih _ (hk _) d h
  | call c hd g l k ih => intro p s hk d h; exact False.elim hk
  | handled o k ih => intro p s hk d h; rw [Sem.wp] at h ⊢; exact ih _ (hk _) d h
  | newGen c k ih => intro p s hk d h; rw [Sem.wp] at h ⊢; exact ih _ (hk _) d h
  | genState g k ih => intro p s hk d h; rw [Sem.wp] at h ⊢; obtain ⟨st, e, z⟩ := h; exact ⟨st, e, ih _ (hk _) d z⟩
  | resume g r l k ih => intro p s hk d h; exact False.elim hk
  | yield v g l k ih => intro p s hk d h; rw [Sem.wp] at h; exact h.elim
  | stack k ih => intro p s hk d h; rw [Sem.wp] at h ⊢; exact ih _ (hk _) d h
  | fork c k ih => intro p s hk d h; rw [Sem.wp] at h; exact h.elim
  | thread k ih => intro p s hk d h; rw [Sem.wp] at h ⊢; exact ih _ hk d h
  | await a t d l k ih => intro p s hk d h; rw [Sem.wp] at h; exact h.elim
theorem wpAny_kd {α : Type} {M : Model} {A : Around} {x : Sem α} {Q : α → Shared → Prop} {E : Value → Shared → Prop} {s : Shared} (k : KD x) (h : wpAny M A x Q E s) :
    wpAny M A x (fun a s' => Q a s' ∧ DK s.heap s'.heap) (fun e s' => E e s' ∧ DK s.heap s'.heap) s := fun Γ p hΓ => wp_kd x k (DK.refl _) (h Γ p hΓ)
theorem KD.bind {α β : Type} : ∀ {x : Sem α} {f : α → Sem β}, KD x → (∀ a, KD (f a)) → KD (x >>= f) := by
  intro x f
  show KD x → _ → KD (Sem.bind x f)
  induction x with
  | pure a => intro _ h; exact h a
  | raise e => intro _ _; trivial
  | unsupported w => intro _ _; trivial
  | finish e => intro _ _; trivial
  | rule t k ih => intro hk h; exact ih () hk h
  | «at» q k ih => intro hk h; exact ih () hk h
  | load a pt k ih => intro hk h o; exact ih o (hk o) h
  | update a pt g k ih => intro hk h; exact ⟨hk.1, ih () hk.2 h⟩
  | alloc o k ih => intro hk h a; exact ih a (hk a) h
  | loadIfAlive a k ih => intro hk h a; exact ih a (hk a) h
  | point l k ih => intro hk h; exact ih () hk h
  | register a k ih => intro _ _; trivial
  | fresh k ih => intro hk h a; exact ih a (hk a) h
  | ask k ih => intro hk h a; exact ih a (hk a) h
  | choose src n k ih => intro hk h a; exact ih a (hk a) h
  | os q l k ih => intro hk h a; exact ih a (hk a) h
  | call c hd g l k ih => intro hk h; exact False.elim hk
  | handled o k ih => intro hk h a; exact ih a (hk a) h
  | newGen c k ih => intro hk h a; exact ih a (hk a) h
  | genState g k ih => intro hk h a; exact ih a (hk a) h
  | resume g r l k ih => intro hk h; exact False.elim hk
  | yield v g l k ih => intro _ _; trivial
  | stack k ih => intro hk h a; exact ih a (hk a) h
  | fork c k ih => intro _ _; trivial
  | thread k ih => intro hk h; exact ih 0 hk h
  | await a t d l k ih => intro _ _; trivial
theorem KD.pure {α : Type} {a : α} : KD (Pure.pure a : Sem α) := trivial
theorem KD.load {a : Addr} : KD (PySem.load a) := fun _ => trivial
theorem KD.loadPart {a : Addr} {p : Option Value} : KD (PySem.loadPart a p) := fun _ => trivial
theorem KD.update' {a : Addr} {f : Obj → Obj} (h : ∀ o, (f o).dict = o.dict) : KD (PySem.update a f) := ⟨h, trivial⟩
theorem KD.uns {α : Type} {w : String} : KD (PySem.unsupported w : Sem α) := trivial
theorem KD.stk : KD PySem.stack := fun _ => trivial
theorem dict_mapFields (f : Array Value → Array Value) (o : Obj) : (Obj.mapFields f o).dict = o.dict := by
  obtain ⟨c, d, dt, s⟩ := o
  cases dt <;> rfl
theorem KD.field (v : Value) (i : Nat) : KD (PySem.field v i) := by
  unfold PySem.field fieldsOf
  repeat (first | exact KD.pure | exact KD.load | exact KD.loadPart | exact KD.uns | exact KD.stk | assumption | (refine KD.bind ?_ fun _ => ?_) | (refine KD.update' fun o => ?_; first | exact dict_mapFields _ o | rfl) | split)
theorem KD.setField (v : Value) (i : Nat) (x : Value) : KD (PySem.setField v i x) := by
  unfold PySem.setField updateField
  repeat (first | exact KD.pure | exact KD.load | exact KD.loadPart | exact KD.uns | exact KD.stk | assumption | (refine KD.bind ?_ fun _ => ?_) | (refine KD.update' fun o => ?_; first | exact dict_mapFields _ o | rfl) | split)
theorem KD.setFlight (v : Value) (l : Option Addr) : KD (PySem.setFlight v l) := by
  unfold PySem.setFlight
  repeat (first | exact KD.field _ _ | exact KD.setField _ _ _ | (first | exact KD.pure | exact KD.load | exact KD.loadPart | exact KD.uns | exact KD.stk | assumption | (refine KD.bind ?_ fun _ => ?_) | (refine KD.update' fun o => ?_; first | exact dict_mapFields _ o | rfl) | split))
theorem KD.behind (e : Env) (l : List Env) : KD (behindIsImport e l) := by
  unfold behindIsImport
  repeat (first | exact KD.field _ _ | (first | exact KD.pure | exact KD.load | exact KD.loadPart | exact KD.uns | exact KD.stk | assumption | (refine KD.bind ?_ fun _ => ?_) | (refine KD.update' fun o => ?_; first | exact dict_mapFields _ o | rfl) | split))
theorem KD.keptBack (e : Env) (b : Bool) : ∀ l, KD (PySem.keptBack e b l)
  | [] => by
    unfold PySem.keptBack underTheClaimsCaller
    repeat (first | exact KD.pure | exact KD.load | exact KD.loadPart | exact KD.uns | exact KD.stk | assumption | (refine KD.bind ?_ fun _ => ?_) | (refine KD.update' fun o => ?_; first | exact dict_mapFields _ o | rfl) | split)
  | _ :: _ => by
    unfold PySem.keptBack
    exact KD.pure
theorem KD.ready : ∀ l, KD (readyFrames l)
  | [] => KD.pure
  | e :: l => by
    have ih := KD.ready l
    unfold readyFrames
    repeat (first | exact ih | exact KD.behind _ _ | exact KD.keptBack _ _ _ | (first | exact KD.pure | exact KD.load | exact KD.loadPart | exact KD.uns | exact KD.stk | assumption | (refine KD.bind ?_ fun _ => ?_) | (refine KD.update' fun o => ?_; first | exact dict_mapFields _ o | rfl) | split))
theorem KD.frameOf (e : Env) : KD (PySem.frameOf e) := by
  unfold PySem.frameOf frameEnvs
  have : ∀ l, KD (frameObject l) := fun l => by
    cases l with
    | nil => exact KD.pure
    | cons a r =>
      unfold frameObject
      repeat (first | exact KD.ready _ | (first | exact KD.pure | exact KD.load | exact KD.loadPart | exact KD.uns | exact KD.stk | assumption | (refine KD.bind ?_ fun _ => ?_) | (refine KD.update' fun o => ?_; first | exact dict_mapFields _ o | rfl) | split))
  repeat (first | exact this _ | (first | exact KD.pure | exact KD.load | exact KD.loadPart | exact KD.uns | exact KD.stk | assumption | (refine KD.bind ?_ fun _ => ?_) | (refine KD.update' fun o => ?_; first | exact dict_mapFields _ o | rfl) | split))
theorem KD.place (f : Addr) (b : Bool) : KD (entryPlaceOf f b) := by
  unfold entryPlaceOf
  repeat (first | exact KD.pure | exact KD.load | exact KD.loadPart | exact KD.uns | exact KD.stk | assumption | (refine KD.bind ?_ fun _ => ?_) | (refine KD.update' fun o => ?_; first | exact dict_mapFields _ o | rfl) | split)
theorem KD.newEntry (a b c d e : Value) (l : List Value) : KD (EntryCells.newEntry a b c d e l) := by
  unfold EntryCells.newEntry newFields newObj newObjAsIs
  have : ∀ o, KD (PySem.alloc o) := fun o _ => trivial
  have reg : ∀ a, KD (PySem.register a) := fun a => trivial
  repeat (first | exact this _ | exact reg _ | (first | exact KD.pure | exact KD.load | exact KD.loadPart | exact KD.uns | exact KD.stk | assumption | (refine KD.bind ?_ fun _ => ?_) | (refine KD.update' fun o => ?_; first | exact dict_mapFields _ o | rfl) | split))
theorem KD.noteFrame (v : Value) (e : Env) : KD (PySem.noteFrame v e) := by
  unfold PySem.noteFrame
  repeat (first | exact KD.field _ _ | exact KD.setField _ _ _ | exact KD.newEntry _ _ _ _ _ _ | exact KD.place _ _ | exact KD.frameOf _ | (first | exact KD.pure | exact KD.load | exact KD.loadPart | exact KD.uns | exact KD.stk | assumption | (refine KD.bind ?_ fun _ => ?_) | (refine KD.update' fun o => ?_; first | exact dict_mapFields _ o | rfl) | split))
theorem KD.leaving (e : Env) (v : Value) : KD (PySem.leaving e v) := by
  unfold PySem.leaving
  exact KD.bind (KD.noteFrame _ _) fun _ => KD.setFlight _ _
end Far
set_option Elab.async false
set_option linter.all false
set_option maxRecDepth 100000
set_option maxHeartbeats 4000000
namespace Far
open PySem L2 HT PySem.Spec PySem.Calls PyProof.Rows
abbrev bmVE : List Value := [.type "ValueError", .type "Exception", .type "BaseException", .type "object"]
structure XC (K : PySem.W.Frag) (C : Addr) : Prop where
  q : PySem.W.excIn K C bmVE "ValueError.__new__" = true
theorem XC.obj {K : PySem.W.Frag} {C : Addr} (x : XC K C) {h : Heap} (X : K.In h) :
    ∃ (tl : List Value) (N : Addr) (nm q : Str) (bs : List Value) (hdct : Bool) (sn : List Str) (sub : List Value) (ab : Bool) (col : Option Bool) (dd : Option Addr) (k0 k1 k2 k3 k5 : Option Value) (mN : Str → Option Value),
      h.get? C = some (excClassObj nm q C N bs tl hdct sn sub ab col dd k0 k1 k2 k3 k5 "ValueError.__new__") ∧ h.Ns N mN ∧ mN "__init__" = none ∧ OwnTail h bmVE tl := by
  have e := x.q
  unfold PySem.W.excIn at e
  split at e
  · rename_i dd cd sl ho
    split at e
    · rename_i C' bm k0 k1 k2 k3 n k5 hm hs
      simp only [Bool.and_eq_true, beq_iff_eq, Bool.not_eq_true'] at e
      obtain ⟨⟨⟨⟨⟨e1, e2⟩, e3⟩, e4⟩, e5⟩, e6⟩ := e
      obtain ⟨nm, bs, mro, ns, qn, hd, sn, sub, ab, col, del⟩ := cd
      obtain ⟨l⟩ := sl
      simp only at hm hs e3 e5 e6
      subst e1 e2 e3 hm hs
      exact ⟨bm, ns, nm, qn, bs, hd, sn, sub, ab, col, dd, k0, k1, k2, k3, k5, _, X _ _ ho, .of_isNs (PySem.W.isNs_of_in X e5), PySem.W.nsMap_none_of_in X e5 e6, PySem.W.tail_of_in X e4⟩
    · cases e
  · cases e
theorem there_of {P : Program} {w : World} {H : Hp} {h : Heap} {a : Addr} {o : HO} (x : ObjOk P w H h a o) : ∃ ob, h.get? a = some ob := by
  cases o with
  | lst xs => obtain ⟨_, _, _, _, e⟩ := x; exact ⟨_, e⟩
  | tup xs => obtain ⟨_, _, _, o, e, _⟩ := x; exact ⟨_, e⟩
  | dK kvs => obtain ⟨_, _, _, _, o, _, _, e, _⟩ := x; exact ⟨_, e⟩
  | dT kvs => obtain ⟨_, _, _, _, o, _, _, e, _⟩ := x; exact ⟨_, e⟩
  | set S n => obtain ⟨o, _, _, _, e, _⟩ := x; exact ⟨_, e⟩
  | ins C dx fs => obtain ⟨_, _, _, e, _⟩ := x; exact ⟨_, e⟩
  | own y => exact x
  | xd fs => obtain ⟨_, ⟨_, _, _, e, _⟩, _⟩ := x; exact ⟨_, e⟩
  | rng lo hi => obtain ⟨_, _, _, e⟩ := x; exact ⟨_, e⟩
  | frz ob u => obtain ⟨e, _⟩ := x; exact ⟨_, e⟩
  | tbl ps => exact ⟨_, x⟩
  | met f y => exact ⟨_, x⟩
  | ext φ => obtain ⟨_, e, _⟩ := x; exact e
theorem un_go {P : Program} {w : World} {fs : List Addr} {H H' : Hp} {h h1 B h2 : Heap} (u : Un fs [] H H' h h1) (ok : HOk P w H' h1) (nf : ∀ b ∈ fs, H' b = none)
    (hB : ∀ b o, ((h.get? b).isSome = true ∨ (H' b).isSome = true) → b ∉ fs → h1.get? b = some o → B.get? b = some o) (st : B.StaysIn h2)
    (up : ∀ b ∈ fs, ∀ o, h1.get? b = some o → ∃ sl, h2.get? b = some { o with slots := sl }) : Un fs [] H H' h h2 ∧ HOk P w H' h2 := by
  refine ⟨⟨fun b o e n hb hx => st b o (hB b o (.inl (by rw [e]; rfl)) hb (u.keep b o e n hb hx)), fun b o e n hb hx => ?_, u.free, fun b o e hx => ?_, u.tups, u.frzs, u.tbls⟩, fun a o e => (ok a o e).stay (fun b ob hb q => ?_) (fun _ z => z) fun _ _ z => z⟩
  · obtain ⟨sl, e1⟩ := u.slot b o e n hb hx
    obtain ⟨sl', e2⟩ := up b hb _ e1
    exact ⟨sl', e2⟩
  · obtain ⟨o', e1⟩ := u.there b o e hx
    by_cases hb : b ∈ fs
    · obtain ⟨sl', e2⟩ := up b hb _ e1
      exact ⟨_, e2⟩
    · exact ⟨o', st b o' (hB b o' (.inl (by rw [e]; rfl)) hb e1)⟩
  · have tr : (H' b).isSome = true := by
      rcases hb with rfl | hb
      · rw [e]; rfl
      · rw [hb]; rfl
    have hb' : b ∉ fs := fun z => by rw [nf b z] at tr; cases tr
    exact st b ob (hB b ob (.inr tr) hb' q)
structure Flies (P : Program) (w : World) (outer : List Env) (H H' : Hp) (s s' : Shared) (e C : Addr) : Prop where
  os : s'.os = s.os
  bare : AllBare s'.gens
  un : Un (frs outer) [] H H' s.heap s'.heap
  hok : HOk P w H' s'.heap
  new : s.heap.get? e = none
  nt : H' e = none
  fly : ∃ (B : Heap) (t : Addr), Heap.FlyingW B outer e (.ref C) (.ref t) s'.heap ∧ ∀ b o, ((s.heap.get? b).isSome = true ∨ (H' b).isSome = true) → b ∉ frs outer → s'.heap.get? b = some o → B.get? b = some o
abbrev CX1 (P : Program) (w : World) : CXT := fun outer H s E e s' => ∃ (a C : Addr) (H' : Hp), e = .ref a ∧ Flies P w outer H H' s s' a C ∧ E (.ref C) none H'
def tRaise (C : Addr) (E : XK) (t : TA) : TS := fun D σ H => t σ H fun vs H1 => vs.length ≤ sizeLine ∧ E (.ref C) none H1
def PassesS (CX : CXT) (X : Cx) (E : L2.St → XK) : Prop := ∀ (pins : List (Addr × Obj)) (σ : L2.St) (H : Hp) (s : Shared) (e : Value) (s' : Shared), Inv X pins σ H s → CX X.stack H s (E σ) e s' → X.xe e s'
section
variable {X : Cx} {CX : CXT} {k : Nat} {f C : Addr} {fd : FuncData} {ps : List Str} {sp : Sp} {dvs : List V} {ds : List Value} {E : L2.St → XK} {x m : Str} {p pos apos : Pos} {e o : Expr} {es : List Expr} {ta : TE} {t : TA}
def tCallS (sp : Sp) (dvs : List V) (E : L2.St → XK) (t : TA) : TE := fun σ H Q => t σ H fun vs H1 => sp (vs ++ dvs) H1 Q (E σ)
def tMethS (C : Addr) (m : Str) (sp : Sp) (dvs : List V) (E : L2.St → XK) (ta : TE) (t : TA) : TE := fun σ H Q => ta σ H fun x H1 => ∃ a dx fs, x = .ref a ∧ H1 a = some (.ins C dx fs) ∧ fs.lookup m = none ∧
  t σ H1 fun vs H2 => sp (x :: (vs ++ dvs)) H2 Q (E σ)
end
theorem inv_re {X : Cx} {A1 A2 : Around} {c1 c2 : Bool} {pn1 pn2 : List (Addr × Obj)} {xe1 xe2 : Value → Shared → Prop} {pins1 pins2 : List (Addr × Obj)} {σ : L2.St} {H : Hp} {s : Shared}
    (I : Inv { X with A := A1, calm := c1, pn := pn1, xe := xe1 } pins1 σ H s) (ok : Cx.Ok { X with A := A2, calm := c2, pn := pn2, xe := xe2 }) (hp : ∀ p ∈ pn2 ++ pins2, p ∈ pn1 ++ pins1) :
    Inv { X with A := A2, calm := c2, pn := pn2, xe := xe2 } pins2 σ H s :=
  ⟨ok, I.os, I.bare, I.base, I.loc, I.cell, I.free, I.freeC, fun p h => I.pin p (hp p h), I.hok, I.len⟩
theorem ok_re {X : Cx} (k : X.Ok) {A2 : Around} {c2 : Bool} {pn2 : List (Addr × Obj)} {xe2 : Value → Shared → Prop} (hf : A2.frames = X.A.frames) (hd : c2 = true → A2.handled = none) : Cx.Ok { X with A := A2, calm := c2, pn := pn2, xe := xe2 } :=
  ⟨k.mod, k.kind, k.glob, k.blt, k.above, k.inj, k.has, k.cab, hd, hf.trans k.frames, k.stk, k.exf, k.bs, k.bsz, k.noex, k.exfs, k.funs, k.frf⟩
def tTry (C : Addr) (tb : (L2.St → XK) → TS) (ts : TS) : TS := fun D σ H => tb (fun σ' v _ H' => v = .ref C ∧ ts D σ' H') D σ H
end Far
set_option Elab.async false
set_option linter.all false
set_option maxRecDepth 100000
set_option maxHeartbeats 4000000
namespace Far
open PySem L2 HT PySem.Spec PySem.Calls PyProof.Rows
section
variable {M : Model} {A : Around} {E : Value → Shared → Prop} {nm q nm0 q0 : Str} {C N C0 N0 : Addr} {bs bm bs0 bm0 : List Value} {hdct hdct0 : Bool} {sn sn0 : List Str} {sub sub0 : List Value} {ab ab0 : Bool} {col col0 : Option Bool} {dd dd0 : Option Addr} {k0 k1 k2 k3 k5 j0 j1 j2 j3 j5 : Option Value} {newId newId0 : String}
theorem excMatches_own {h : Heap} {g : Array GenState} {d : Drawn} {t : Nat} {os : OsState} {e : Addr} {oe : Obj} {Q : Bool → Shared → Prop}
    (hC : h.get? C = some (excClassObj nm q C N bs bm hdct sn sub ab col dd k0 k1 k2 k3 k5 newId)) (hC0 : h.get? C0 = some (excClassObj nm0 q0 C0 N0 bs0 bm0 hdct0 sn0 sub0 ab0 col0 dd0 j0 j1 j2 j3 j5 newId0))
    (he : h.get? e = some oe) (hcls : oe.cls = .ref C) (hbase : bm0.contains (.type "BaseException") = true) (hin : (Value.ref C :: bm).contains (.ref C0) = true)
    (hq : Q true ⟨h, g, d, t, os⟩) : wpAny M A (excMatches (.ref e) (.ref C0)) Q E ⟨h, g, d, t, os⟩ := by
  have hcB : (Value.ref C0 :: bm0).contains (.type "BaseException") = true := by rw [List.contains_cons, hbase, Bool.or_true]
  have f := tc_notTuple
  unfold excMatches
  repeat (first | (with_reducible refine wpAny_loadPart_at he ?_; rw [hcls]) | with_reducible refine wpAny_loadPart_at hC0 ?_ | with_reducible refine wpAny_loadPart_at hC ?_ | (with_reducible refine wpAny_isSubtype_exc hC0 ?_; rw [hcB]) | (with_reducible refine wpAny_isSubtype_exc hC ?_; rw [hin]) | wp_step)
  exact hq
end
def subIn (K : PySem.W.Frag) (C C0 : Addr) : Bool := match K.lookup C with
  | some ⟨_, _, .cls cd, _⟩ => cd.mro.contains (.ref C0)
  | _ => false
theorem sub_of {K : PySem.W.Frag} {C C0 : Addr} (s : subIn K C C0 = true) {h : Heap} (X : K.In h) {nm q : Str} {N : Addr} {bs tl : List Value} {hdct : Bool} {sn : List Str} {sub : List Value} {ab : Bool} {col : Option Bool} {dd : Option Addr} {k0 k1 k2 k3 k5 : Option Value} {newId : String}
    (hC : h.get? C = some (excClassObj nm q C N bs tl hdct sn sub ab col dd k0 k1 k2 k3 k5 newId)) : (Value.ref C :: tl).contains (.ref C0) = true := by
  unfold subIn at s
  split at s
  · rename_i c dd' cd sl ho
    have e := X _ _ ho
    rw [hC] at e
    have e2 := Option.some.inj e
    have e3 : (excClassObj nm q C N bs tl hdct sn sub ab col dd k0 k1 k2 k3 k5 newId).data = .cls cd := by rw [e2]
    have e4 : cd.mro = Value.ref C :: tl := by
      unfold excClassObj at e3
      injection e3 with e3
      rw [← e3]
    rw [← e4]; exact s
  · cases s
section
variable {X : Cx} {pins : List (Addr × Obj)} {σ : L2.St} {H : Hp} {s : Shared}
theorem name_goes {M : Model} {A : Around} {E : Value → Shared → Prop} {i : Nat} {x : Str} {pos : Pos} {Q : Unit → Shared → Prop} (I : Inv X pins σ H s) (hN : X.N.Nodup) (hi : X.N[i]? = some x) (hk : X.env.kindOf x = some .local)
    (h : ∀ s', Inv X pins (σ.set i none) H s' → Q () s') : wpAny M A (do bindName X.env x .none; unbindBehindTheSuite X.env x pos) Q E s := by
  obtain ⟨m, hn, hl⟩ := id I.loc
  have hcls : (X.env.scope.kind == .class || (X.env.scope.kind == .module && X.env.locals != X.env.globals)) = false := by rw [I.ok.kind]; rfl
  have hiσ : i < σ.length := by rw [I.len]; exact (List.getElem?_eq_some_iff.mp hi).1
  have cne := I.cne
  refine wpAny_nameGoes_keeps hk hn hcls fun h' v hn' hs => ?_
  obtain ⟨oL, _, _, hoL, _⟩ := id hn
  refine h _ ⟨I.ok, I.os, I.bare, ⟨fun b o e n hb hx => ?_, fun b o e n hb hx => ?_, I.base.free, fun b o e hx => ?_, I.base.tups, I.base.frzs, I.base.tbls⟩, ⟨_, hn', fun j y v' e1 e2 e3 => ?_⟩, fun y c e => ?_, I.free, I.freeC, fun p hp => ?_, fun b ob e => (I.hok b ob e).stay (fun c w' hc q => (hs.2 c ?_).trans q) (fun _ q => q) fun _ _ q => q, by simpa using I.len⟩
  · exact (hs.2 b (Nat.ne_of_lt (Nat.lt_of_lt_of_le (Heap.lt_size e) I.ok.above))).trans (I.base.keep b o e n hb hx)
  · obtain ⟨sl, e1⟩ := I.base.slot b o e n hb hx
    exact ⟨sl, (hs.2 b (Nat.ne_of_lt (Nat.lt_of_lt_of_le (Heap.lt_size e) I.ok.above))).trans e1⟩
  · obtain ⟨o', e1⟩ := I.base.there b o e hx
    exact ⟨o', (hs.2 b (Nat.ne_of_lt (Nat.lt_of_lt_of_le (Heap.lt_size e) I.ok.above))).trans e1⟩
  · by_cases hj : j = i
    · subst hj
      rw [List.getElem?_set_self hiσ] at e2
      cases e2
    · rw [List.getElem?_set_ne (Ne.symm hj)] at e2
      obtain ⟨u', r', q⟩ := hl j y v' e1 e2 e3
      refine ⟨u', r', ?_⟩
      rcases q with ⟨k, e⟩ | ⟨k, c, e, z⟩
      · refine .inl ⟨k, ?_⟩
        have : y ≠ x := fun e => hj (nodup_ix hN e1 (e ▸ hi))
        simp [this, e]
      · exact .inr ⟨k, c, e, z.sameBut hs (cne y c e)⟩
  · obtain ⟨w', z⟩ := I.cell y c e
    exact ⟨w', z.sameBut hs (cne y c e)⟩
  · obtain ⟨e, n, ne, nf, d⟩ := I.pin p hp
    exact ⟨(hs.2 p.1 ne).trans e, n, ne, nf, d⟩
  · rintro rfl
    rcases hc with rfl | hc
    · rw [I.free] at e; cases e
    · rw [I.free] at hc; cases hc
end
def IsExc (C a : Addr) : Heap → Prop := fun h => ∃ ob, h.get? a = some ob ∧ ob.cls = .ref C
theorem isExc_ok {P : Program} {w : World} {H : Hp} {h : Heap} {C a : Addr} (x : IsExc C a h) : ObjOk P w H h a (.ext (IsExc C a)) :=
  ⟨x, let ⟨ob, e, _⟩ := x; ⟨ob, e⟩, fun _ _ ⟨ob, e, c⟩ k => ⟨ob, k _ e, c⟩⟩
def tTryA (K : PySem.W.Frag) (C0 : Addr) (i : Nat) (tb : (L2.St → XK) → TS) (ts : TS) : TS := fun D σ H =>
  tb (fun σ' v _ H' => ∃ C, v = .ref C ∧ XC K C ∧ subIn K C C0 = true ∧ ∀ a, H' a = none →
    ts { D with nx := fun σ2 H2 => D.nx (σ2.set i none) H2, bk := fun σ2 H2 => D.bk (σ2.set i none) H2, ct := fun σ2 H2 => D.ct (σ2.set i none) H2 } (σ'.set i (some (.ref a))) (upd H' a (.ext (IsExc C a)))) D σ H
theorem un_cut {fs : List Addr} {H H1 H2 : Hp} {h h1 h2 : Heap} {L : Addr} (u : Un fs [] H H1 h h1) (v : Un (L :: fs) [] H1 H2 h1 h2) (hL : h.get? L = none) : Un fs [] H H2 h h2 := by
  have ne : ∀ {b : Addr} {o : Obj}, h.get? b = some o → b ≠ L := fun {b o} e z => by rw [z, hL] at e; cases e
  have nx : ∀ b : Addr, b ∉ ([] : List Addr) := fun b z => by cases z
  refine ⟨fun b o e n hb hx => ?_, fun b o e n hb hx => ?_, fun b o e n hx => ?_, fun b o e hx => ?_, fun b xs e => v.tups b xs (u.tups b xs e), fun b o xs e => v.frzs b o xs (u.frzs b o xs e), fun b ps e => ?_⟩
  · refine v.keep b o (u.keep b o e n hb hx) (u.free b o e n hx) (fun z => ?_) hx
    rcases List.mem_cons.mp z with z | z
    · exact ne e z
    · exact hb z
  · obtain ⟨sl, e1⟩ := u.slot b o e n hb hx
    obtain ⟨sl', e2⟩ := v.slot b _ e1 (u.free b o e n hx) (List.mem_cons_of_mem _ hb) hx
    exact ⟨sl', e2⟩
  · obtain ⟨o', e1⟩ := u.there b o e hx
    exact v.free b o' e1 (u.free b o e n hx) hx
  · obtain ⟨o', e1⟩ := u.there b o e hx
    exact v.there b o' e1 hx
  · obtain ⟨m1, e1⟩ := u.tbls b ps e
    obtain ⟨m2, e2⟩ := v.tbls b _ e1
    exact ⟨m1 ++ m2, by rw [e2, Array.append_assoc]⟩
end Far
set_option Elab.async false
set_option linter.all false
set_option maxRecDepth 100000
set_option maxHeartbeats 4000000
namespace PySem
section
variable {prog : Program} {w : World} {A : Around} {E : Value → Shared → Prop} {h : Heap} {g : Array GenState} {d : Drawn} {t : Nat} {os : OsState} {a : Addr} {o : Obj} {K : PySem.W.Frag}
  {nm q : Str} {C N : Addr} {bs bm bmB : List Value} {hdct : Bool} {sn : List Str} {sub : List Value} {ab : Bool} {col : Option Bool} {dd : Option Addr} {k0 k1 k2 k3 k5 : Option Value} {newId : String}
theorem xcls_get {R : Result → Shared → Prop} (hC : h.get? C = some (excClassObj nm q C N bs bm hdct sn sub ab col dd k0 k1 k2 k3 k5 newId)) (ho : bm.contains (.type "object") = true)
    (hx : h.get? a = some o) (hc : o.cls = .ref C) (hq : R (.ok (.ret (.ref C))) ⟨h, g, d, t, os⟩) :
    codeAny (model prog w) A (.call (.builtin "getset_descriptor.__get__") ⟨[.builtin "object.__class__", .ref a, .ref C], []⟩) R ⟨h, g, d, t, os⟩ := by
  have hT5 : (⟨h, g, d, t, os⟩ : Shared).TypeIs (.builtin "object.__class__") "getset_descriptor" := F.typeOf_object_class
  have hcO : (Value.ref C :: bm).contains (.type (".".intercalate ("object.__class__".cutAt '.').dropLast)) = true := by
    rw [F.owner_object_class, List.contains_cons, ho, Bool.or_true]
  refine codeAny_call_builtin F.slot_gs_get.plain F.entry_gs_get (F.slot_gs_get.check _ _ _ _ _ _ _ _ hT5 (F.args_gs_get _ _ _) ?_)
  repeat (any_goals (first | assumption | (with_reducible refine wpAny_loadPart_at hx ?_; rw [hc]) | (with_reducible refine wpAny_isSubtype_exc hC ?_; rw [hcO]) | wp_step))
  refine ⟨Code.quiet_builtin _ (by decide +kernel), codeAny_builtin F.entry_object_class ?_⟩
  repeat (any_goals (first | assumption | (with_reducible refine wpAny_loadPart_at hx ?_; rw [hc]) | wp_step))
theorem xcls_entry {tk : Tok} {Q : Fin → Shared → Prop} (X : K.In h) (fcl : PySem.W.findIn K (.ref C) "__class__" = some (some (.builtin "object.__class__"))) (hC : h.get? C = some (excClassObj nm q C N bs bm hdct sn sub ab col dd k0 k1 k2 k3 k5 newId)) (ho : bm.contains (.type "object") = true)
    (hx : h.get? a = some o) (hc : o.cls = .ref C) (hq : Q (.done (.ret (.ref C))) ⟨h, g, d, t, os⟩) :
    wpAny (model prog w) A (Builtin.«object.__getattribute__» ⟨[.ref a, .str "__class__" tk], []⟩) Q E ⟨h, g, d, t, os⟩ := by
  have hT5 : (⟨h, g, d, t, os⟩ : Shared).TypeIs (.builtin "object.__class__") "getset_descriptor" := F.typeOf_object_class
  have f5 := F.typeOf_object_class
  have f6 := F.slot_gs_get.lookup
  have f7 := F.slot_gs_set.lookup
  repeat (any_goals (first | assumption | (with_reducible refine wpAny_loadPart_at hx ?_; rw [hc]) | with_reducible refine (PySem.W.looks_findIn X fcl).at ?_ | wp_step))
  refine xcls_get hC ho hx hc ?_
  repeat (any_goals (first | assumption | wp_step))
theorem xcls_check {M : Model} {nameV : Value} {Q : Unit → Shared → Prop} (hC : h.get? C = some (excClassObj nm q C N bs bm hdct sn sub ab col dd k0 k1 k2 k3 k5 newId)) (hb : bm.contains (.type "BaseException") = true)
    (hx : h.get? a = some o) (hc : o.cls = .ref C) (hq : Q () ⟨h, g, d, t, os⟩) : wpAny M A (checkBuiltinCall "BaseException.__getattribute__" ⟨[.ref a, nameV], []⟩) Q E ⟨h, g, d, t, os⟩ := by
  have hk : builtinKind "BaseException.__getattribute__" = some .slot := by decide +kernel
  have hsplit : splitId "BaseException.__getattribute__" = some ("BaseException", "__getattribute__") := by decide +kernel
  have hcB : (Value.ref C :: bm).contains (.type "BaseException") = true := by rw [List.contains_cons, hb, Bool.or_true]
  have ha := F.args_bexc_ga (.ref a) nameV
  simp only [checkBuiltinCall, hk, hsplit]
  refine wpAny_bind ?_
  unfold isInstance
  repeat (first | (with_reducible refine wpAny_loadPart_at hx ?_; rw [hc]) | (with_reducible refine wpAny_isSubtype_exc hC ?_; rw [hcB]) | wp_step)
  exact hq
theorem xcls_call {tk : Tok} {R : Result → Shared → Prop} (X : K.In h) (fcl : PySem.W.findIn K (.ref C) "__class__" = some (some (.builtin "object.__class__"))) (hC : h.get? C = some (excClassObj nm q C N bs bm hdct sn sub ab col dd k0 k1 k2 k3 k5 newId)) (ho : bm.contains (.type "object") = true) (hb : bm.contains (.type "BaseException") = true)
    (hx : h.get? a = some o) (hc : o.cls = .ref C) (hq : R (.ok (.ret (.ref C))) ⟨h, g, d, t, os⟩) :
    codeAny (model prog w) A (.call (.builtin "BaseException.__getattribute__") ⟨[.ref a, .str "__class__" tk], []⟩) R ⟨h, g, d, t, os⟩ :=
  codeAny_call_builtin F.attrBase_ValueError.ga.plain F.entry_bexc_ga (xcls_check hC hb hx hc (xcls_entry X fcl hC ho hx hc hq))
theorem xcls_by {tk : Tok} {Q : Value → Shared → Prop} (X : K.In h) (fga : PySem.W.findIn K (.ref C) "__getattribute__" = some (some (.builtin "BaseException.__getattribute__"))) (fge : PySem.W.findIn K (.ref C) "__getattr__" = some none) (fcl : PySem.W.findIn K (.ref C) "__class__" = some (some (.builtin "object.__class__"))) (hC : h.get? C = some (excClassObj nm q C N bs bm hdct sn sub ab col dd k0 k1 k2 k3 k5 newId)) (ho : bm.contains (.type "object") = true) (hb : bm.contains (.type "BaseException") = true)
    (hx : h.get? a = some o) (hc : o.cls = .ref C) (hq : Q (.ref C) ⟨h, g, d, t, os⟩) : wpAny (model prog w) A (getAttrBy (.ref a) (.str "__class__" tk) false) Q E ⟨h, g, d, t, os⟩ := by
  have f3 := F.attrBase_ValueError.ga.bind (.ref a)
  have hx2 : (Value.builtin "BaseException.__getattribute__" == Value.builtin "object.__getattribute__") = false := by decide +kernel
  have hx1 : (onTheHeap (Value.ref C) && Value.builtin "BaseException.__getattribute__" == Value.builtin "object.__getattribute__") = false := by rw [hx2]; rfl
  repeat (any_goals (first | assumption | (with_reducible refine wpAny_loadPart_at hx ?_; rw [hc]) | with_reducible refine (PySem.W.looks_findIn X fga).at ?_ | with_reducible refine (PySem.W.looks_findIn X fge).at ?_ | wp_step))
  refine xcls_call X fcl hC ho hb hx hc ?_
  repeat (any_goals (first | assumption | wp_step))
theorem xcls_attr {Q : Option Value → Shared → Prop} (X : K.In h) (fga : PySem.W.findIn K (.ref C) "__getattribute__" = some (some (.builtin "BaseException.__getattribute__"))) (fge : PySem.W.findIn K (.ref C) "__getattr__" = some none) (fcl : PySem.W.findIn K (.ref C) "__class__" = some (some (.builtin "object.__class__"))) (hC : h.get? C = some (excClassObj nm q C N bs bm hdct sn sub ab col dd k0 k1 k2 k3 k5 newId)) (ho : bm.contains (.type "object") = true) (hb : bm.contains (.type "BaseException") = true)
    (hx : h.get? a = some o) (hc : o.cls = .ref C) (hq : Q (some (.ref C)) ⟨h, g, d, t + 1, os⟩) : wpAny (model prog w) A (getAttr? (.ref a) "__class__") Q E ⟨h, g, d, t, os⟩ := by
  unfold getAttr? getAttrBy?
  repeat (any_goals (first | assumption | with_reducible apply xcls_by X fga fge fcl hC ho hb hx hc | wp_step))
end
end PySem
namespace Far
open PySem L2 HT PySem.Spec PySem.Calls PyProof.Rows
structure XI (K : PySem.W.Frag) (C : Addr) : Prop where
  xc : XC K C
  fga : PySem.W.findIn K (.ref C) "__getattribute__" = some (some (.builtin "BaseException.__getattribute__"))
  fge : PySem.W.findIn K (.ref C) "__getattr__" = some none
  fcl : PySem.W.findIn K (.ref C) "__class__" = some (some (.builtin "object.__class__"))
def clsOf : V → Option Value
  | .ref C => some (.ref C)
  | .ty T => some (.type T)
  | _ => none
theorem clsOf_rel {v : V} {u c : Value} (r : RelV v u) (e : clsOf v = some c) : u = c := by
  cases v with
  | ref C => cases e; exact r
  | ty T => cases e; exact r
  | _ => cases e
def rIsX (K : PySem.W.Frag) : List V → Hp → VK → Prop := fun vs H Q => ∃ (a C : Addr) (c : V) (cv : Value) (b : Bool), vs = [.ref a, c] ∧ H a = some (.ext (IsExc C a)) ∧ XI K C ∧ clsOf c = some cv ∧ PySem.W.kitOne K (.ref C) cv = some b ∧ Q (.bl b) H
def rIsXT (K : PySem.W.Frag) : List V → Hp → VK → Prop := fun vs H Q => ∃ (a C tp : Addr) (cs : List V) (cvs : List Value) (b : Bool), vs = [.ref a, .ref tp] ∧ H a = some (.ext (IsExc C a)) ∧ XI K C ∧ SqT K H tp cs ∧ cs.map clsOf = cvs.map some ∧ PySem.W.kitAny K (.ref C) cvs = some b ∧ Q (.bl b) H
end Far
set_option Elab.async false
set_option linter.all false
set_option maxRecDepth 100000
set_option maxHeartbeats 4000000
namespace PySem
open PyProof.Rows
section
variable {prog : Program} {w : World} {A : Around} {E : Value → Shared → Prop} {h : Heap} {g : Array GenState} {d : Drawn} {t : Nat} {os : OsState}
variable {nm q : Str} {C N : Addr} {bs bm bmB : List Value} {hdct : Bool} {sn : List Str} {sub : List Value} {ab : Bool} {col : Option Bool} {dd : Option Addr} {k0 k1 k2 k3 k5 : Option Value} {B newId initId : String}
theorem xinit_make (F : ExcBaseFacts B newId initId bmB) (T : OwnTail h bmB bm) {mN : Str → Option Value} {rest : List Value} {fI : Addr} {oI : Obj} {Q : Fin → Shared → Prop}
    (hC : h.get? C = some (excClassObj nm q C N bs bm hdct sn sub ab col dd k0 k1 k2 k3 k5 newId)) (hn : h.Ns N mN) (hi : mN "__init__" = some (.ref fI)) (hfI : h.get? fI = some oI) (hfc : oI.cls = .type "function")
    (hq : ∀ h' e, Heap.MadeExcOf h h' e (.ref C) rest → wpAny (model prog w) A (call (.ref fI) (.ref e :: rest)) (fun r s' => r = .none ∧ Q (.done (.ret (.ref e))) s') E ⟨h', g, d, t, os⟩) (hrest : rest.length ≤ sizeLine := by size_fits) :
    wpAny (model prog w) A (Builtin.«type.__call__» ⟨.ref C :: rest, []⟩) Q E ⟨h, g, d, t, os⟩ := by
  repeat (first | with_reducible refine wpAny_loadPart_at hC ?_ | with_reducible refine wpAny_madeBy_exc hC ?_ | wp_step)
  refine codeAny_call_builtin_code (Code.quiet_builtin _ F.quiet) (wpAny_check_new_subT F T hC ?_)
  refine codeAny_exc_new_subT F T hC ?_ hrest
  show wpAny _ _ _ _ _ _
  have k2' : ∀ b o, h.get? b = some o → ((h.push { cls := .type "tuple", data := .seq rest.toArray }).push { cls := .ref C, data := .fields #[.ref h.objs.size, .none, .none, .none, .bool false, .none] }).get? b = some o :=
    fun b o e => Heap.get?_push_of_some _ (Heap.get?_push_of_some _ e)
  have hget : ((h.push { cls := .type "tuple", data := .seq rest.toArray }).push { cls := .ref C, data := .fields #[.ref h.objs.size, .none, .none, .none, .bool false, .none] }).get? (h.objs.size + 1) = some
      { cls := .ref C, data := .fields #[.ref h.objs.size, .none, .none, .none, .bool false, .none] } := by heap_get
  have hcC : (Value.ref C :: bm).contains (.ref C) = true := by simp
  unfold isInstance
  repeat (first | with_reducible refine wpAny_loadPart_at hget ?_ | (with_reducible refine wpAny_isSubtype_exc (k2' _ _ hC) ?_; rw [hcC]) | wp_step)
  show wpAny _ _ (typeLookup (.ref C) _) _ _ _
  refine wpAny_typeLookup_tail (k2' _ _ hC) (hn.keeps k2') (T.keeps k2') F.mroIs F.init.lookup ?_
  rw [hi]
  refine wpAny_holding (wpAny_bind ?_)
  unfold bindSpecial
  refine wpAny_bind (wpAny_typeOf (T := "function") ⟨_, k2' _ _ hfI, hfc⟩ ?_)
  rw [if_pos (by decide)]
  refine wpAny_pure (wpAny_bind (wpAny_mono (hq _ (h.objs.size + 1) ⟨k2', Heap.get?_none_of_le (Nat.le_succ _), h.objs.size, hget, Heap.get?_none_of_le (Nat.le_refl _), ?_⟩) (fun r s' hr => ?_) fun _ _ x => x))
  · exact Heap.get?_push_of_some _ (Heap.get?_push_at rfl rfl)
  · obtain ⟨rfl, hQ⟩ := hr
    wp_walk
    exact hQ
theorem xinit_call (F : ExcBaseFacts B newId initId bmB) (T : OwnTail h bmB bm) {mN : Str → Option Value} {rest : List Value} {fI : Addr} {oI : Obj} {Q : Value → Shared → Prop}
    (hC : h.get? C = some (excClassObj nm q C N bs bm hdct sn sub ab col dd k0 k1 k2 k3 k5 newId)) (hn : h.Ns N mN) (hi : mN "__init__" = some (.ref fI)) (hfI : h.get? fI = some oI) (hfc : oI.cls = .type "function")
    (hq : ∀ h' e, Heap.MadeExcOf h h' e (.ref C) rest → wpAny (model prog w) (A.under (.builtin "type.__call__" ⟨.ref C :: rest, []⟩)) (call (.ref fI) (.ref e :: rest)) (fun r s' => r = .none ∧ Q (.ref e) s') E ⟨h', g, d, t, os⟩) (hrest : rest.length ≤ sizeLine := by size_fits) :
    wpAny (model prog w) A (call (.ref C) rest) Q E ⟨h, g, d, t, os⟩ := by
  have f1 := tc_lookup
  have f2 := tc_bind (.ref C)
  have hT : (⟨h, g, d, t, os⟩ : Shared).TypeIs (.ref C) "type" := ⟨_, hC, rfl⟩
  refine wpAny_call (codeAny_of_tree ?_)
  show wpAny _ _ (callAny (.ref C) _) _ _ _
  repeat (any_goals (first | assumption | with_reducible refine wpAny_loadPart_at hC ?_ | wp_step))
  refine ⟨rfl, ?_⟩
  refine codeAny_call_builtin_at (Code.quiet_builtin _ (by decide +kernel)) entry_typeCall (wpAny_check_type_call_sub hC (xinit_make (hrest := hrest) F T hC hn hi hfI hfc fun h' e hm => ?_))
  exact hq h' e hm
end
section
variable {M : Model} {A : Around} {E : Value → Shared → Prop} {env : Env} {nm q : Str} {C N : Addr} {bs bm : List Value} {hdct : Bool} {sn : List Str} {sub : List Value} {ab : Bool} {col : Option Bool} {dd : Option Addr} {k0 k1 k2 k3 k5 : Option Value} {newId : String}
theorem xinit_raise {s : Shared} {x : Sem Value} {Q : Flow → Shared → Prop} (hbase : bm.contains (.type "BaseException") = true) (hh : A.handled = none)
    (h : wpAny M A x (fun v s₁ => ∃ (e : Addr) (oc : Value) (od : Option Addr) (vs : Array Value) (osl : Array (Option Value)), v = .ref e ∧ s₁.heap.get? C = some (excClassObj nm q C N bs bm hdct sn sub ab col dd k0 k1 k2 k3 k5 newId) ∧ s₁.heap.get? e = some ⟨oc, od, .fields vs, osl⟩ ∧ oc = .ref C ∧ vs[1]? = some .none ∧ E (.ref e) s₁) E s) :
    wpAny M A (raiseStmt env (some x) none) Q E s := by
  have hcB : (Value.ref C :: bm).contains (.type "BaseException") = true := by rw [List.contains_cons, hbase, Bool.or_true]
  unfold raiseStmt
  refine wpAny_bind (wpAny_mono h (fun v s₁ h₁ => ?_) fun _ _ x => x)
  obtain ⟨e, oc, od, vs, osl, rfl, hC, he, rfl, h1, hE⟩ := h₁
  obtain ⟨hp, g, d, tk, os⟩ := s₁
  repeat (first | with_reducible refine wpAny_loadPart_at he ?_ | with_reducible refine wpAny_loadPart_at hC ?_ | (with_reducible refine wpAny_isSubtype_exc hC ?_; rw [hcB]) | wp_step)
  rw [h1]
  repeat (first | wp_step)
  exact wpAny_raiseNew_none hh hE
end
end PySem
set_option Elab.async false
set_option linter.all false
set_option maxRecDepth 100000
set_option maxHeartbeats 4000000
namespace PySem
open PyProof.Rows
section
variable {prog : Program} {w : World} {A : Around} {E : Value → Shared → Prop} {h : Heap} {g : Array GenState} {d : Drawn} {t : Nat} {os : OsState}
variable {nm q : Str} {C N : Addr} {bs bm bmB : List Value} {hdct : Bool} {sn : List Str} {sub : List Value} {ab : Bool} {col : Option Bool} {dd : Option Addr} {k0 k1 k2 k3 k5 : Option Value} {B newId initId : String}
theorem vinit_run (F : ExcBaseFacts B newId initId bmB) (T : OwnTail h bmB bm) {rest : List Value} {e : Addr} {oe : Obj} {vs : Array Value} {Q : Value → Shared → Prop}
    (hC : h.get? C = some (excClassObj nm q C N bs bm hdct sn sub ab col dd k0 k1 k2 k3 k5 newId)) (he : h.get? e = some oe) (hcls : oe.cls = .ref C) (hd : oe.data = .fields vs) (hv : 0 < vs.size)
    (hq : Q .none ⟨(h.push { cls := .type "tuple", data := .seq rest.toArray }).update e (Obj.mapFields (·.setIfInBounds 0 (.ref h.objs.size))), g, d, t, os⟩) (hrest : rest.length ≤ sizeLine := by size_fits) :
    wpAny (model prog w) A (call (.builtin initId) (.ref e :: rest)) Q E ⟨h, g, d, t, os⟩ := by
  refine wpAny_call (codeAny_call_builtin F.init.plain F.initEntry (wpAny_check_init_subT F T hC he hcls ?_))
  have he2 := Heap.get?_push_of_some (h := h) { cls := .type "tuple", data := .seq rest.toArray } he
  obtain ⟨x, hx⟩ : ∃ x, vs[0]? = some x := ⟨_, Array.getElem?_eq_getElem hv⟩
  repeat (first | with_reducible refine wpAny_loadPart_at he ?_ | wp_step)
  rw [hd]
  refine wpAny_pure ?_
  rw [hx]
  refine wpAny_pure ?_
  refine wpAny_bind (wpAny_setField he2 hd hv ?_)
  have fin : ∀ (y : Value), wpAny (model prog w) A.in1 (match y with | .ref _ => letGo [y] | _ => pure ()) (fun _ s' => s' = ⟨(h.push { cls := .type "tuple", data := .seq rest.toArray }).update e (Obj.mapFields (·.setIfInBounds 0 (.ref h.objs.size))), g, d, t, os⟩) E ⟨(h.push { cls := .type "tuple", data := .seq rest.toArray }).update e (Obj.mapFields (·.setIfInBounds 0 (.ref h.objs.size))), g, d, t, os⟩ := fun y => by
    split
    · unfold letGo
      wp_walk
      rfl
    · exact wpAny_pure rfl
  refine wpAny_mono (fin x) (fun _ s' z => ?_) fun _ _ z => z
  subst z
  exact wpAny_pure hq
end
end PySem
set_option Elab.async false
set_option linter.all false
set_option maxRecDepth 100000
set_option maxHeartbeats 4000000
namespace PySem.W
open PySem PyProof.Rows Builtin Builtin.ObjectAttr
def excMro : List Value → Bool
  | .ref _ :: r => excMro r
  | l => l == [.type "ValueError", .type "Exception", .type "BaseException", .type "object"]
theorem refuse_exc (self : Value) : ∀ (l : List Value), excMro l = true → refuseLoop self "__setattr__" l = pure ()
  | [], e => by unfold excMro at e; cases e
  | v :: r, e => by
    unfold excMro at e
    split at e
    · rename_i c r' q
      injection q with q1 q2
      subst q1 q2
      rw [refuseLoop_ref]
      exact refuse_exc self r e
    · rw [eq_of_beq e]
      exact PySem.F.store_ValueError.passes self
theorem exc_has : ∀ (l : List Value), excMro l = true → l.contains (.type "object") = true
  | [], e => by unfold excMro at e; cases e
  | v :: r, e => by
    unfold excMro at e
    split at e
    · rename_i c r' q
      injection q with q1 q2
      subst q1 q2
      rw [List.contains_cons, exc_has r e, Bool.or_true]
    · rw [eq_of_beq e]
      decide
def excOver (K : Frag) (C : Addr) : Bool := (clsIn K C).any fun cd => excMro cd.mro
section
variable {prog : Program} {w : World} {A : Around} {R : Result → Shared → Prop} {E : Value → Shared → Prop} {s : Shared} {K : Frag} {x C : Addr} {name : Str}
theorem xosa_open {ox : Obj} {od : Option Obj} {tk : Tok} {v : Value} (X : K.In s.heap) (I : InstAt s.heap x ox C od) (hp : excOver K C = true) (ht : takerIn K C name = some none)
    (h : ∀ b, wpAny (model prog w) A.in1 (storeInOwnDict (.ref x) (.ref C) (.str name tk) name v b)
      (fun fin s' => match fin with | .done f => R (.ok f) s' | .again c' => c'.quiet = true ∧ codeAny (model prog w) A c' R s') (fun e s' => R (.error e) s') s) :
    codeAny (model prog w) A (.call (.builtin "object.__setattr__") ⟨[.ref x, .str name tk, v], []⟩) R s := by
  have SF := PySem.F.store_object
  obtain ⟨cd, hc, ho⟩ := any_some hp
  have ne : cd.mro.isEmpty = false := by cases q : cd.mro with | nil => rw [q] at ho; cases ho | cons _ _ => rfl
  have sub : Looks (model prog w) s.heap (isInstance (.ref x) (.type "object")) true := I.type.andThen (looks_mroIn X (by unfold mroIn; rw [hc, Option.bind_some, if_neg (by rw [ne]; decide), exc_has _ ho]))
  refine codeAny_call_builtin SF.slot.plain SF.entry (@check_slot (model prog w) _ _ s "object.__setattr__" "object" "__setattr__" (.ref x) [.str name tk, v] [] _ SF.kind SF.split sub (SF.args (.ref x) (.str name tk) v) ?_)
  obtain ⟨attr, ha, hr⟩ := Option.bind_eq_some_iff.mp ht
  have hm : Looks (model prog w) s.heap (mroOf (.ref C)) cd.mro := (looks_clsIn X hc).andThen .now
  have L3 : Looks (model prog w) s.heap (storeTaker? attr) none := by
    cases attr with
    | none => exact .now
    | some a =>
      obtain ⟨b, hb, e⟩ := Option.map_eq_some_iff.mp hr
      refine (looks_takesIn X hb).andThen ?_
      cases b with
      | true => cases e
      | false => exact .now
  rw [osa_eq, refuse_eq]
  refine wpAny_bind (wpAny_bind (I.type.here (wpAny_bind (hm.here ?_))))
  rw [refuse_exc _ _ ho]
  refine wpAny_pure (wpAny_bind (I.type.here (wpAny_bind ((looks_findIn X ha).here (wpAny_bind (L3.here ?_))))))
  exact h _
theorem xset_first {vs : Array Value} {sl : Array (Option Value)} {v : Value} {Q : Unit → Shared → Prop} (X : K.In s.heap) (hx : s.heap.get? x = some ⟨.ref C, none, .fields vs, sl⟩)
    (hs : findIn K (.ref C) "__setattr__" = some (some (.builtin "object.__setattr__"))) (hp : excOver K C = true) (ht : takerIn K C name = some none) (hh : hasDictIn K C = true)
    (h : ∀ h', h'.get? x = some ⟨.ref C, some s.heap.objs.size, .fields vs, sl⟩ → h'.Ns1 s.heap.objs.size (fun y => if y = name then some v else none) → (∀ b o, b ≠ x → s.heap.get? b = some o → h'.get? b = some o) →
      Q () { s with heap := h', toks := s.toks + 2 }) : wpAny (model prog w) A (setAttr (.ref x) name v) Q E s := by
  have I : InstAt s.heap x ⟨.ref C, none, .fields vs, sl⟩ C none := ⟨hx, rfl, rfl, True.intro⟩
  refine set_plain X I hs (xosa_open (s := { s with toks := s.toks + 1 }) X I hp ht fun b => ?_)
  obtain ⟨cd, hc, hd'⟩ := any_some hh
  have hx₁ : (s.heap.push { cls := .type "dict", data := .dict #[] }).get? x = some ⟨.ref C, none, .fields vs, sl⟩ := Heap.get?_push_of_some _ hx
  have hxs : x ≠ s.heap.objs.size := Nat.ne_of_lt (Heap.lt_size hx)
  refine wpAny_bind (wpAny_pure (wpAny_bind (wpAny_bind (wpAny_loadPart hx (wpAny_bind (PySem.W.Looks.here (s := { s with toks := s.toks + 1 }) (PySem.W.looks_clsIn X hc) ?_))))))
  rw [hd']
  rw [if_neg (by decide)]
  dsimp only
  rw [if_neg (by simp [typeHasDict])]
  refine wpAny_bind (wpAny_alloc' ?_)
  refine wpAny_bind (wpAny_update' hx₁ ?_)
  refine wpAny_pure ?_
  have hgd : ((s.heap.push { cls := .type "dict", data := .dict #[] }).update x fun o => { cls := o.cls, dict := some s.heap.objs.size, data := o.data, slots := o.slots }).get? s.heap.objs.size
      = some { cls := .type "dict", data := .dict #[] } :=
    (Heap.get?_update_ne _ _ _ _ hxs.symm).trans (Heap.get?_push_at rfl rfl)
  have hnd : ((s.heap.push { cls := .type "dict", data := .dict #[] }).update x fun o => { cls := o.cls, dict := some s.heap.objs.size, data := o.data, slots := o.slots }).Ns s.heap.objs.size (fun _ => none) :=
    ⟨_, #[], _, hgd, rfl, fun e he => absurd he (by simp), fun _ => rfl⟩
  show wpAny _ _ (storeInDict s.heap.objs.size (.str name s.toks) name v) _ _ _
  unfold storeInDict newKeyGuard
  refine wpAny_bind (wpAny_pure (wpAny_bind (wpAny_nsSet1 (Heap.Ns1.of_empty hnd) fun h' hn' hs => ?_)))
  obtain ⟨oD, esD, epD, hoD, hdD, hcD⟩ := hn'.count (Within.cons name v Within.nil)
  refine wpAny_bind (wpAny_lookBehind hoD (by rw [hdD]; exact pastItsLine_dict (Nat.le_trans hcD (by rw [List.length_cons, List.length_nil, sizeLine_eq]; omega))) ?_)
  refine wpAny_pure (h h' ((hs.2 x hxs).trans (Heap.get?_update_self _ hx₁ rfl)) hn' fun b o hb e => ?_)
  exact (hs.2 b (Nat.ne_of_lt (Heap.lt_size e))).trans ((Heap.get?_update_ne _ _ _ _ hb).trans (Heap.get?_push_of_some _ e))
end
end PySem.W
set_option Elab.async false
set_option linter.all false
set_option maxRecDepth 100000
set_option maxHeartbeats 4000000
namespace PySem.W
open PySem PyProof.Rows Builtin Builtin.ObjectAttr
theorem exc_base : ∀ (l : List Value), excMro l = true → l.contains (.type "BaseException") = true
  | [], e => by unfold excMro at e; cases e
  | v :: r, e => by
    unfold excMro at e
    split at e
    · rename_i c r' q
      injection q with q1 q2
      subst q1 q2
      rw [List.contains_cons, exc_base r e, Bool.or_true]
    · rw [eq_of_beq e]
      decide
section
variable {prog : Program} {w : World} {A : Around} {R : Result → Shared → Prop} {E : Value → Shared → Prop} {s : Shared} {K : Frag} {x C : Addr} {name : Str}
theorem xget_own {ox : Obj} {od : Option Obj} {v : Value} {expr : Bool} {Q : Value → Shared → Prop} (X : K.In s.heap) (I : InstAt s.heap x ox C od)
    (hga : findIn K (.ref C) "__getattribute__" = some (some (.builtin "BaseException.__getattribute__"))) (hk : findIn K (.ref C) "__getattr__" = some none) (hp : excOver K C = true)
    (hf : findObj K C od name = some (.value v)) (hh : handedIn v = true) (h : Q v { s with toks := s.toks + 1 }) : wpAny (model prog w) A (getAttr (.ref x) name expr) Q E s := by
  obtain ⟨cd, hc, ho⟩ := any_some hp
  have hb : Looks (model prog w) s.heap (hookBefore (.ref C)) none := looks_hook X ((if_pos (show onTheHeap (.ref C) = true from rfl)).trans hk)
  refine wpAny_bind (wpAny_mkText (wpAny_holding (wpAny_bind (I.type _ _ _ _ (fun _ _ e => e) (wpAny_bind (looks_findIn X hga _ _ _ _ (fun _ _ e => e) ?_))))))
  dsimp only
  rw [show (onTheHeap (.ref C) && Value.builtin "BaseException.__getattribute__" == Value.builtin "object.__getattribute__") = false from by rw [show (Value.builtin "BaseException.__getattribute__" == Value.builtin "object.__getattribute__") = false from by decide +kernel, Bool.and_false], if_neg (by decide)]
  refine wpAny_bind (hb _ _ _ _ (fun _ _ e => e) (wpAny_bind (wpAny_attempt (wpAny_holding ?_))))
  unfold callGetattribute
  rw [show (expr && onTheHeap (Value.builtin "BaseException.__getattribute__")) = false from Bool.and_false _, if_neg (by decide)]
  unfold boundAndCalled
  rw [PySem.F.excAttr_ValueError.ga.bind]
  refine wpAny_bind (wpAny_pure ?_)
  show wpAny _ _ (call (.builtin "BaseException.__getattribute__") [.ref x, .str name s.toks]) _ _ _
  refine wpAny_call ?_
  have hbase : cd.mro.contains (.type "BaseException") = true := exc_base _ ho
  have ne : cd.mro.isEmpty = false := by cases q : cd.mro with | nil => rw [q] at ho; cases ho | cons _ _ => rfl
  have sub : Looks (model prog w) s.heap (isInstance (.ref x) (.type "BaseException")) true := I.type.andThen (looks_mroIn X (by unfold mroIn; rw [hc, Option.bind_some, if_neg (by rw [ne]; decide), hbase]))
  refine codeAny_call_builtin PySem.F.excAttr_ValueError.ga.plain PySem.F.entry_bexc_ga ?_
  refine @check_slot (model prog w) _ _ { s with toks := s.toks + 1 } "BaseException.__getattribute__" "BaseException" "__getattribute__" (.ref x) [.str name s.toks] [] _ (by decide +kernel) (by decide +kernel) sub (PySem.F.args_bexc_ga (.ref x) (.str name s.toks)) ?_
  obtain ⟨hh', g, d, t, os⟩ := s
  have L0 := I.type (M := model prog w)
  have L1 := looks_find (M := model prog w) X I hf
  refine wpAny_bind (wpAny_pure (wpAny_bind (wpAny_pure (wpAny_bind (L0.at (wpAny_bind (L1.at ?_)))))))
  refine wpAny_pure ?_
  show wpAny _ _ (handedOut v) _ _ _
  rw [handedOut_of hh]
  exact wpAny_pure h
end
end PySem.W
set_option Elab.async false
set_option linter.all false
set_option maxRecDepth 100000
set_option maxHeartbeats 4000000
namespace Far
open PySem L2 HT PySem.Spec PySem.Calls PyProof.Rows
def XNew (C a : Addr) : Heap → Prop := fun h => ∃ (vs : Array Value) (sl : Array (Option Value)), h.get? a = some ⟨.ref C, none, .fields vs, sl⟩ ∧ (∃ t0 : Addr, vs[0]? = some (.ref t0)) ∧ vs[1]? = some .none
def XOwn (C a dx : Addr) : Heap → Prop := fun h => ∃ (vs : Array Value) (sl : Array (Option Value)), h.get? a = some ⟨.ref C, some dx, .fields vs, sl⟩ ∧ (∃ t0 : Addr, vs[0]? = some (.ref t0)) ∧ vs[1]? = some .none
def XHas (C a dx : Addr) : Heap → Prop := fun h => ∃ (vs : Array Value) (sl : Array (Option Value)), h.get? a = some ⟨.ref C, some dx, .fields vs, sl⟩
section
variable {P : Program} {w : World} {H : Hp} {h : Heap} {C a dx : Addr}
theorem xnew_ok (x : XNew C a h) : ObjOk P w H h a (.ext (XNew C a)) := ⟨x, let ⟨_, _, e, _⟩ := x; ⟨_, e⟩, fun _ _ ⟨vs, sl, e, z⟩ k => ⟨vs, sl, k _ e, z⟩⟩
theorem xown_ok (x : XOwn C a dx h) : ObjOk P w H h a (.ext (XOwn C a dx)) := ⟨x, let ⟨_, _, e, _⟩ := x; ⟨_, e⟩, fun _ _ ⟨vs, sl, e, z⟩ k => ⟨vs, sl, k _ e, z⟩⟩
theorem xhas_ok (x : XHas C a dx h) : ObjOk P w H h a (.ext (XHas C a dx)) := ⟨x, let ⟨_, _, e⟩ := x; ⟨_, e⟩, fun _ _ ⟨vs, sl, e⟩ k => ⟨vs, sl, k _ e⟩⟩
end
structure XO (K : PySem.W.Frag) (C : Addr) : Prop where
  sa : PySem.W.findIn K (.ref C) "__setattr__" = some (some (.builtin "object.__setattr__"))
  po : PySem.W.excOver K C = true
  hd : PySem.W.hasDictIn K C = true
  ga : PySem.W.findIn K (.ref C) "__getattribute__" = some (some (.builtin "BaseException.__getattribute__"))
  gx : PySem.W.findIn K (.ref C) "__getattr__" = some none
section
variable {X : Cx} {pins : List (Addr × Obj)} {σ : L2.St} {H : Hp} {s : Shared} {C a dx : Addr} {f : Str}
theorem xset_ok {y : V} {u : Value} {Q : Unit → Shared → Prop} (I : Inv X pins σ H s) (e : H a = some (.ext (XNew C a))) (c : XO X.K C) (n : NoAttr X.K C f) (ry : RelV y u)
    (h : ∀ s' dx, H dx = none → dx ≠ a → Inv X pins σ (upd (upd H dx (.xd [(f, y)])) a (.ext (XOwn C a dx))) s' → Q () s') : wpAny (model X.prog X.w) X.A (setAttr (.ref a) f u) Q X.xe s := by
  obtain ⟨⟨vs, sl, hx, hv, h1⟩, _, _⟩ := I.hok a _ e
  refine PySem.W.xset_first I.kIn hx c.sa c.po n.taker c.hd fun h' e1 e2 e3 => ?_
  have hdx := I.hok.fresh (Nat.le_refl s.heap.objs.size)
  have ne : s.heap.objs.size ≠ a := fun z => by rw [z, e] at hdx; cases hdx
  refine h _ _ hdx ne ?_
  obtain ⟨od, es, ep, ho, r⟩ := id e2
  have hfr := (Heap.get?_some_iff.mp ho).2
  have p1 : (s.heap.push od).get? s.heap.objs.size = some od := Heap.get?_push_size s.heap hfr
  have I1 : Inv X pins σ (upd H s.heap.objs.size (.xd [(f, y)])) { s with heap := s.heap.push od, toks := s.toks } := I.laid (fun b v q => Heap.get?_push_of_some _ q) (Nat.le_refl _) ⟨_, ⟨od, es, ep, p1, r⟩, fun g => ?_⟩
  · refine I1.write (x := a) (e := a) (t' := s.toks + 2) (by rw [upd_ne (Ne.symm ne), e]; exact True.intro) (.inl rfl) (fun b v hb q => ?_) ⟨_, e1⟩ (xown_ok ⟨vs, sl, e1, hv, h1⟩)
    by_cases z : b = s.heap.objs.size
    · rw [z] at q ⊢
      rw [show (s.heap.push od).get? s.heap.objs.size = some v from q] at p1
      cases p1
      exact ho
    · refine e3 b v hb ?_
      obtain ⟨q1, q2⟩ := Heap.get?_some_iff.mp (show (s.heap.push od).get? b = some v from q)
      refine Heap.get?_some_iff.mpr ⟨?_, q2⟩
      change (s.heap.objs.push od)[b]? = some v at q1
      rw [Array.getElem?_push, if_neg z] at q1
      exact q1
  · show RelO ((putF f y []).lookup g) (if g = f then some u else none)
    rw [lookup_putF]
    by_cases q : g = f
    · rw [if_pos q, if_pos q]; exact ry
    · rw [if_neg q, if_neg q]; exact True.intro
end
def tFstr (c : Str) (t : TE) : TE := fun σ H Q => t σ H fun x H1 => ∃ i : Int, x = .int i ∧ i.natAbs.log2 < 1920 ∧ c.length ≤ 1000 ∧ ∀ y, Q (.str y) H1
theorem pe_fstr {X : Cx} {c : Str} {k : _} {p1 p2 pos : Pos} {e : Expr} {t : TE} (hc : c.length ≤ 1000) (he : PE X e t) : PE X (.JoinedStr [.Constant (.str c) k p1, .FormattedValue e (-1) none p2] pos) (tFstr c t) := by
  intro pins s σ H Q I h
  refine wpAny_JoinedStr ?_
  show wpAny _ _ (eval (.Constant (.str c) k p1) X.env) _ _ _
  refine Calls.Constant_str ⟨c, _, rfl, ?_, ?_⟩
  · rw [strLen_append, sizeLine_eq]
    have : Str.empty.length = 0 := by decide
    omega
  show wpAny _ _ (eval (.FormattedValue e (-1) none p2) X.env) _ _ _
  refine wpAny_FormattedValue_plain (thn (he pins _ σ H _ (I.tok _) h) fun u s2 ⟨x, H1, I1, rx, i, ex, hd, _, q⟩ => ?_)
  subst ex
  obtain ⟨tk, rfl⟩ := rx
  have hl : ((Str.empty ++ c) ++ Str.ofString (toString i)).length ≤ sizeLine := by
    have e := int_text_length_le (k := 1920) (by decide) hd
    rw [strLen_append, strLen_append, PySem.ofString_length, sizeLine_eq]
    have : Str.empty.length = 0 := by decide
    omega
  refine wpAny_formatField_int hd ⟨_, _, rfl, hl, hl, ?_⟩
  exact ⟨.str _, H1, (I1.tok _).tok _, ⟨_, rfl⟩, q _⟩
structure XK' (K : PySem.W.Frag) (C : Addr) : Prop where
  ob : ∀ h : Heap, K.In h → ∃ (tl : List Value) (N : Addr) (nm q : Str) (bs : List Value) (hdct : Bool) (sn : List Str) (sub : List Value) (ab : Bool) (col : Option Bool) (dd : Option Addr) (k0 k1 k2 k3 k5 : Option Value) (mN : Str → Option Value),
      h.get? C = some (excClassObj nm q C N bs tl hdct sn sub ab col dd k0 k1 k2 k3 k5 "ValueError.__new__") ∧ h.Ns N mN ∧ OwnTail h bmVE tl
structure XB (K : PySem.W.Frag) (B : Addr) : Prop where
  sp : PySem.W.specialIn K (.ref B) "__getattribute__" = some (some (.builtin "type.__getattribute__"))
  rd : PySem.W.readsIn K B (.type "type") = true
  fi : PySem.W.findCls K (.ref B) (.type "type") "__init__" = some (.val (.builtin "ValueError.__init__"))
def tVInit (K : PySem.W.Frag) (t : TA) : TE := fun σ H Q => t σ H fun vs H1 => ∃ (a C : Addr) (x : Str), vs = [.ref a, .str x] ∧ H1 a = some (.ext (XNew C a)) ∧ XK' K C ∧ Q .non H1
theorem pe_vinit {X : Cx} {x : Str} {B : Addr} {np apos pos : Pos} {e1 e2 : Expr} {t : TA} {pl : Sem Bool} (xb : XB X.K B) (hg : Gl X x) (hm : X.mg x = some (.ref B)) (ha : PA X [e1, e2] t)
    (hdb : (x == ("__debug__" : Str)) = false := by decide)
    (ht : eval (.Call (.Attribute (.Name x np) "__init__" apos) [e1, e2] [] pos) X.env = (do
      let ov ← eval (.Name x np) X.env
      standAt apos.atName
      let (f, first) ← holding [ov] (getMethod ov "__init__" pl)
      callWith pos f first (backTo pos (starEach [e1, e2] X.env)) (backToKw pos (keywordEach [] X.env))) := by rfl)
    (hs : starEach [e1, e2] X.env = (false, eval e1 X.env) :: starEach [e2] X.env := by rfl) (hpl : (backTo pos (starEach [e2] X.env)).any (·.1) = false := by rfl) :
    PE X (.Call (.Attribute (.Name x np) "__init__" apos) [e1, e2] [] pos) (tVInit X.K t) := by
  intro pins s σ H Q I h
  refine PySem.W.methodCall_KW (pl := pl) (ld_glob I hg hm ?_ hdb) ht
  refine PySem.W.method_cls I.kIn xb.sp (PySem.W.cls_value I.kIn xb.rd xb.fi (by decide +kernel) ?_)
  have I0 := I.tok (s.toks + 1)
  have hA := ha pos pins _ σ H _ I0 h
  rw [hs] at hA ⊢
  refine Calls.callWith_builtin (by show (false || (backTo pos (starEach [e2] X.env)).any (·.1)) = false; rw [hpl] <;> rfl) (Calls.evalArgs_plain ?_)
  refine thn hA fun us s2 ⟨vs, H2, I2, r2, a, C, y, ev, ea, xk, q⟩ => ?_
  subst ev
  obtain ⟨u1, u2, rfl, r1, r3⟩ := Vals.two r2
  obtain rfl : u1 = .ref a := r1
  obtain ⟨tk, rfl⟩ := r3
  obtain ⟨tl, N, nm, q', bs, hdct, sn, sub, ab, col, dd, k0, k1, k2, k3, k5, mN, hC, hN, T⟩ := xk.ob _ I2.kIn
  obtain ⟨⟨vs, sl, hx, hv, h1⟩, _, _⟩ := I2.hok a _ ea
  obtain ⟨hh, g, d, t', os⟩ := s2
  have hv0 : 0 < vs.size := let ⟨_, z⟩ := hv; (Array.getElem?_eq_some_iff.mp z).1
  refine vinit_run PySem.F.excBase_ValueError T hC hx rfl rfl hv0 ?_ (by rw [sizeLine_eq]; show 1 ≤ _; omega)
  have hx2 : (hh.push { cls := .type "tuple", data := .seq [Value.str y tk].toArray }).get? a = some ⟨.ref C, none, .fields vs, sl⟩ := Heap.get?_push_of_some _ hx
  have e1 : ((hh.push { cls := .type "tuple", data := .seq [Value.str y tk].toArray }).update a (Obj.mapFields (·.setIfInBounds 0 (.ref hh.objs.size)))).get? a = some ⟨.ref C, none, .fields (vs.setIfInBounds 0 (.ref hh.objs.size)), sl⟩ := Heap.get?_update_self _ hx2 rfl
  have J := I2.write (x := a) (e := a) (o := .ext (XNew C a)) (t' := t') (h' := (hh.push { cls := .type "tuple", data := .seq [Value.str y tk].toArray }).update a (Obj.mapFields (·.setIfInBounds 0 (.ref hh.objs.size))))
    (by rw [ea]; exact True.intro) (.inl rfl) (fun b u hb q => (Heap.get?_update_other _ _ (Ne.symm hb)).trans (Heap.get?_push_of_some _ q)) ⟨_, e1⟩
    (xnew_ok ⟨_, _, e1, ⟨hh.objs.size, by simp [hv0]⟩, by rw [Array.getElem?_setIfInBounds_ne (by decide)]; exact h1⟩)
  have eH : upd H2 a (.ext (XNew C a)) = H2 := by
    funext b
    unfold upd
    by_cases z : b = a
    · rw [if_pos z, z, ea]
    · rw [if_neg z]
  rw [eH] at J
  exact ⟨.non, H2, J, rfl, q⟩
def tXFld (K : PySem.W.Frag) (ta : TE) (f : Str) : TE := fun σ H Q => ta σ H fun x H1 => ∃ a C dx fs v, x = .ref a ∧ H1 a = some (.ext (XHas C a dx)) ∧ H1 dx = some (.xd fs) ∧ XO K C ∧ NoAttr K C f ∧ fs.lookup f = some v ∧ Q v H1
theorem pe_xfld {X : Cx} {e : Expr} {f : Str} {pos : Pos} {ta : TE} (he : PE X e ta) (hb : attributeBase e f X.env (eval e X.env) = eval e X.env) : PE X (.Attribute e f pos) (tXFld X.K ta f) := by
  intro pins s σ H Q I h
  refine attr_of hb (thn (he pins s σ H _ I h) fun u s1 ⟨x, H1, I1, rx, a, C, dx, fs, v, ex, ea, ed, c, n, l, q⟩ => ?_)
  subst ex
  obtain rfl : u = Value.ref a := rx
  obtain ⟨⟨vs, sl, hx⟩, _, _⟩ := I1.hok a _ ea
  obtain ⟨mA, hn, hr⟩ := I1.hok dx _ ed
  obtain ⟨w', hw, rw'⟩ := RelO.some_of (v := v) (o := mA f) (by rw [← l]; exact hr f)
  obtain ⟨od, ho, hl⟩ := lookIn_ns hn
  have J : PySem.W.InstAt s1.heap a ⟨.ref C, some dx, .fields vs, sl⟩ C (some od) := ⟨hx, rfl, rfl, ho⟩
  exact PySem.W.xget_own I1.kIn J c.ga c.gx c.po (PySem.W.findObj_own c.hd n rfl (by rw [hl, hw])) (handed_of rw') ⟨v, H1, I1.tok _, rw', q⟩
def sXSet (K : PySem.W.Frag) (ta tv : TE) (f : Str) : TS := fun D σ H => tv σ H fun y H1 => ta σ H1 fun x H2 => ∃ a C, x = .ref a ∧ H2 a = some (.ext (XNew C a)) ∧ XO K C ∧ NoAttr K C f ∧
  ∀ dx, H2 dx = none → dx ≠ a → D.nx σ (upd (upd H2 dx (.xd [(f, y)])) a (.ext (XOwn C a dx)))
theorem ps_xset {X : Cx} {o value : Expr} {f : Str} {pos pos' : Pos} {ta tv : TE} (ha : PE X o ta) (hv : PE X value tv) (hs : swapsWith value (some (.Attribute o f pos')) pos.line X.env = pure false) : PS X (.Assign [.Attribute o f pos'] value pos) (sXSet X.K ta tv f) := by
  intro pins s σ H D I h
  refine plainObj_wpAny_Assign_Attribute (thn (hv pins s σ H _ I h) fun u s1 ⟨y, H1, I1, ry, q⟩ => thn (ha pins s1 σ H1 _ I1 q) fun ov s2 ⟨x, H2, I2, rx, a, C, ex, ea, c, n, q2⟩ => ?_) hs
  subst ex
  obtain rfl : ov = Value.ref a := rx
  exact xset_ok I2 ea c n ry fun s3 dx h1 h2 I3 => ⟨σ, _, I3, q2 dx h1 h2⟩
end Far
set_option Elab.async false
set_option linter.all false
set_option maxRecDepth 100000
set_option maxHeartbeats 4000000
namespace Far
open PySem L2 HT PySem.Spec PySem.Calls PyProof.Rows
def excIn2 (K : PySem.W.Frag) (C : Addr) (ini : Option Value) : Bool := match K.lookup C with
  | some ⟨.type "type", _, .cls cd, sl⟩ => (match cd.mro, sl.toList with
    | .ref C' :: bm, [_, _, _, _, some (.builtin n), _] => C' == C && n == "ValueError.__new__" && !cd.hasDel && PySem.W.tailIn K bmVE bm && PySem.W.nsOkIn K cd.ns && PySem.W.nsIn K cd.ns "__init__" == some ini
    | _, _ => false)
  | _ => false
theorem ns_some {K : PySem.W.Frag} {h : Heap} {N : Addr} {mg : Str → Option Value} {n : Str} {r : Option Value} (X : K.In h) (G : h.Ns N mg) (e : PySem.W.nsIn K N n = some r) : mg n = r := by
  obtain ⟨o, es, ep, ho, hd, _, hf⟩ := G
  unfold PySem.W.nsIn at e
  split at e
  · rename_i q
    have e2 := X _ _ q
    rw [ho] at e2
    cases e2
    cases hd
    rw [← hf]
    unfold nsFind findBy
    rw [← Array.find?_toList]
    split at e
    · rename_i he
      rw [he]
      exact Option.some.inj e
    · rename_i he
      rw [he]
      split at e
      · cases e
      · exact Option.some.inj e
  · cases e
theorem exc2_obj {K : PySem.W.Frag} {C : Addr} {ini : Option Value} (e : excIn2 K C ini = true) {h : Heap} (X : K.In h) :
    ∃ (tl : List Value) (N : Addr) (nm q : Str) (bs : List Value) (hdct : Bool) (sn : List Str) (sub : List Value) (ab : Bool) (col : Option Bool) (dd : Option Addr) (k0 k1 k2 k3 k5 : Option Value) (mN : Str → Option Value),
      h.get? C = some (excClassObj nm q C N bs tl hdct sn sub ab col dd k0 k1 k2 k3 k5 "ValueError.__new__") ∧ h.Ns N mN ∧ mN "__init__" = ini ∧ OwnTail h bmVE tl := by
  unfold excIn2 at e
  split at e
  · rename_i dd cd sl ho
    split at e
    · rename_i C' bm k0 k1 k2 k3 n k5 hm hs
      simp only [Bool.and_eq_true, beq_iff_eq, Bool.not_eq_true'] at e
      obtain ⟨⟨⟨⟨⟨e1, e2⟩, e3⟩, e4⟩, e5⟩, e6⟩ := e
      obtain ⟨nm, bs, mro, ns, qn, hd, sn, sub, ab, col, del⟩ := cd
      obtain ⟨l⟩ := sl
      simp only at hm hs e3 e5 e6
      subst e1 e2 e3 hm hs
      refine ⟨bm, ns, nm, qn, bs, hd, sn, sub, ab, col, dd, k0, k1, k2, k3, k5, _, X _ _ ho, .of_isNs (PySem.W.isNs_of_in X e5), ?_, PySem.W.tail_of_in X e4⟩
      exact ns_some X (.of_isNs (PySem.W.isNs_of_in X e5)) e6
    · cases e
  · cases e
def rem (H : Hp) (a : Addr) : Hp := fun b => if b = a then none else H b
theorem rem_ne {H : Hp} {a b : Addr} (h : b ≠ a) : rem H a b = H b := by unfold rem; rw [if_neg h]
theorem rem_same {H : Hp} {a : Addr} : rem H a a = none := by unfold rem; rw [if_pos rfl]
theorem un_rem {fs : List Addr} {H H' : Hp} {h h2 : Heap} {a : Addr} {φ : Heap → Prop} (u : Un fs [] H H' h h2) (ea : H' a = some (.ext φ)) : Un fs [] H (rem H' a) h h2 := by
  refine ⟨u.keep, u.slot, fun b o e n hx => ?_, u.there, fun b xs e => ?_, fun b o xs e => ?_, fun b ps e => ?_⟩
  · by_cases z : b = a
    · rw [z]; exact rem_same
    · rw [rem_ne z]; exact u.free b o e n hx
  · have q := u.tups b xs e
    rw [rem_ne fun z => by rw [z, ea] at q; cases q]; exact q
  · have q := u.frzs b o xs e
    rw [rem_ne fun z => by rw [z, ea] at q; cases q]; exact q
  · obtain ⟨m, q⟩ := u.tbls b ps e
    exact ⟨m, by rw [rem_ne fun z => by rw [z, ea] at q; cases q]; exact q⟩
theorem hok_rem {P : Program} {w : World} {H : Hp} {h : Heap} {a : Addr} {φ : Heap → Prop} (ok : HOk P w H h) (e : H a = some (.ext φ)) : HOk P w (rem H a) h := fun b o q => by
  have hb : b ≠ a := fun z => by rw [z, rem_same] at q; cases q
  rw [rem_ne hb] at q
  exact (ok b o q).stay (fun _ _ _ z => z) (fun c z => by rw [rem_ne fun y => by rw [y, e] at z; cases z]; exact z) fun c xs z => by rw [rem_ne fun y => by rw [y, e] at z; cases z]; exact z
structure XM (K : PySem.W.Frag) (C fI : Addr) : Prop where
  q : excIn2 K C (some (.ref fI)) = true
  fn : PySem.W.isFn K (.ref fI) = true
  kp : PySem.W.keepIn K (.ref C) = true
theorem fn_obj {K : PySem.W.Frag} {f : Addr} (e : PySem.W.isFn K (.ref f) = true) {h : Heap} (X : K.In h) : ∃ o, h.get? f = some o ∧ o.cls = .type "function" := by
  have e1 : PySem.W.typeIn K (.ref f) = some (.type "function") := beq_iff_eq.mp e
  obtain ⟨o, e2, e3⟩ := Option.map_eq_some_iff.mp (show (K.lookup f).map (·.cls) = _ from e1)
  exact ⟨o, X _ _ e2, e3⟩
section
variable {X : Cx} {k : Nat} {f C : Addr} {fd : FuncData} {ps : List Str} {sp : Sp}
theorem run_xmake {pins : List (Addr × Obj)} {σ : L2.St} {H : Hp} {s : Shared} {us : List Value} {vs : List V} {R : Value → Shared → Prop} (M : XM X.K C f) (F : FnOk X.prog X.w X.K X.mg X.base CX0 k f fd ps sp) (hr : Room (k + 1) X.A) (hb : Binds X.K fd ps [])
    (I : Inv X pins σ H s) (r : Vals vs us) (hz : us.length ≤ 1000)
    (h : ∀ a, H a = none → sp (.ref a :: vs) (upd H a (.ext (XNew C a))) (fun y H2 => y = .non ∧ ∃ dx, dx ≠ a ∧ H2 a = some (.ext (XOwn C a dx)) ∧ (∃ o, H2 dx = some o) ∧
      ∀ s', s.heap.get? a = none → Inv X pins σ H2 s' → R (.ref a) s') (fun _ _ _ => False)) :
    wpAny (model X.prog X.w) X.A (call (.ref C) us) R X.xe s := by
  obtain ⟨tl, N, nm, q, bs, hdct, sn, sub, ab, col, dd, k0, k1, k2, k3, k5, mN, hC, hN, hi, T⟩ := exc2_obj M.q I.kIn
  obtain ⟨oI, hfI, hfc⟩ := fn_obj M.fn I.kIn
  obtain ⟨hh, g, d, t, os⟩ := s
  refine xinit_call PySem.F.excBase_ValueError T hC hN hi hfI hfc (fun h' e hm => ?_) (by rw [sizeLine_eq]; omega)
  obtain ⟨ta, he, hta, htt⟩ := hm.there
  have nt : H e = none := by
    cases z : H e with
    | none => rfl
    | some o =>
      obtain ⟨o', ho'⟩ := there_of (I.hok e o z)
      have := hm.new
      rw [show hh.get? e = some o' from ho'] at this; cases this
  have ne : ∀ {b : Addr} {o : HO}, H b = some o → b ≠ e := fun {b o} q z => by rw [z, nt] at q; cases q
  have xn : XNew C e h' := ⟨_, _, he, ⟨ta, rfl⟩, rfl⟩
  have I3 : Inv X pins σ (upd H e (.ext (XNew C e))) ⟨h', g, d, t, os⟩ := by
    refine Inv.un (h' := h') (t' := t) I ⟨fun b o q _ _ _ => hm.keeps b o q, fun b o q _ _ _ => ⟨o.slots, hm.keeps b o q⟩, fun b o q n _ => ?_, fun b o q _ => ⟨o, hm.keeps b o q⟩, fun b xs q => ?_, fun b o u q => ?_, fun b ps' q => ⟨#[], ?_⟩⟩ fun b o q => ?_
    · rw [upd_ne fun z => by have := hm.new; rw [z] at q; rw [show hh.get? e = some o from q] at this; cases this]; exact n
    · rw [upd_ne (ne q)]; exact q
    · rw [upd_ne (ne q)]; exact q
    · rw [upd_ne (ne q)]; simpa using q
    · by_cases z : b = e
      · rw [z, upd_same] at q
        cases q
        rw [z]; exact xnew_ok xn
      · rw [upd_ne z] at q
        exact (I.hok b o q).stay (fun c u _ y => hm.keeps c u y) (fun c y => by rw [upd_ne (ne y)]; exact y) fun c xs y => by rw [upd_ne (ne y)]; exact y
  have hq := h e nt
  have r2 : Vals (V.ref e :: vs) (Value.ref e :: us) := .cons rfl r
  have hl : (Value.ref e :: us ++ []).length = ps.length := by
    have e2 := r2.length
    rw [F.len _ _ _ _ hq] at e2
    rw [List.append_nil]
    exact e2.symm
  have hbs := hb ⟨h', g, d, t, os⟩ (Value.ref e :: us) I3.kIn hl
  rw [List.append_nil] at hbs
  refine wpAny_call (codeAny_mono (F.run _ X.stack _ _ ⟨Value.ref e :: us, []⟩ (Value.ref e :: us) _ _ _ (hr.make C us []) (I3.env0.make C us []) hbs r2 hq) fun r s' hq' => ?_)
  cases r with
  | error e' => exact False.elim hq'
  | ok fl =>
    cases fl with
    | ret u =>
      obtain ⟨v, H', I4, rv, ev, dx, hne, hx, ho, q3⟩ := I3.after hq'
      subst ev
      exact ⟨rv, q3 s' hm.new I4⟩
    | next => exact False.elim hq'
    | brk => exact False.elim hq'
    | cont => exact False.elim hq'
end
end Far
set_option Elab.async false
set_option linter.all false
set_option maxRecDepth 100000
set_option maxHeartbeats 4000000
namespace Far
open PySem L2 HT PySem.Spec PySem.Calls PyProof.Rows
abbrev CX2 (P : Program) (w : World) : CXT := fun outer H s E e s' => ∃ (a C : Addr) (H' : Hp), e = .ref a ∧ Flies P w outer H H' s s' a C ∧
  (E (.ref C) none H' ∨ ∃ dx, (∃ oe, s'.heap.get? a = some oe ∧ oe.dict = some dx) ∧ H' a = none ∧ E (.ref C) (some dx) H')
theorem _root_.L2.Fun.ok2 {P : Program} {w : World} {K : PySem.W.Frag} {mg : Str → Option Value} {base : Heap} {x qual : Str} {st : Stmt} {f : Addr} {fd : FuncData} {N ps : List Str} {k : Nat} {sp : Sp} (F : Fun K x qual st f fd) (S : FnScope N ps (defScope st)) (len : ∀ vs H Q E, sp vs H Q E → vs.length = ps.length)
    (hbody : ∀ (cdv : Value) (A : Around) (outer : List Env) (s : Shared) (H : Hp) (vs : List V) (Q : VK) (E : XK), Room k (A.deeper (envOfC qual (defScope st) s.heap.objs.size f cdv)) → sp vs H Q E →
      ∃ t, PSs (cxOf (CX2 P w) P w K mg base N qual (defScope st) f cdv A outer s H E) (defBody st) t ∧ t { nx := fun _ H' => Q .non H', rt := Q } (start N vs) H) : FnOk P w K mg base (CX2 P w) (k + 1) f fd ps sp := by
  obtain ⟨oc, od, kV, doc, pm, an, cdv, ct, osl, rfl, lk, hcd⟩ := F.ex
  exact fn_of lk hcd S len fun A outer s H vs Q E hr hsp => hbody cdv A outer s H vs Q E hr hsp
def tRaiseI (C : Addr) (sp : Sp) (E : XK) (t : TA) : TS := fun D σ H => t σ H fun vs H1 => vs.length ≤ 1000 ∧ ∀ a, H1 a = none → sp (.ref a :: vs) (upd H1 a (.ext (XNew C a)))
  (fun y H2 => y = .non ∧ ∃ dx, dx ≠ a ∧ H2 a = some (.ext (XOwn C a dx)) ∧ (∃ o, H2 dx = some o) ∧ E (.ref C) (some dx) (rem H2 a)) (fun _ _ _ => False)
theorem ps_raiseI {P : Program} {w : World} {K : PySem.W.Frag} {mg : Str → Option Value} {base : Heap} {N : List Str} {qual : Str} {scope : Scope} {f : Addr} {cd : Value} {A : Around} {outer : List Env} {s : Shared} {H : Hp} {E : XK}
    {x : Str} {C fI : Addr} {fd : FuncData} {k : Nat} {ps : List Str} {sp : Sp} {np cpos pos : Pos} {e : Expr} {es : List Expr} {t : TA} (M : XM K C fI) (F : FnOk P w K mg base CX0 k fI fd ps sp)
    (sple : ∀ vs H (Q Q' : VK) E, (∀ v H', Q v H' → Q' v H') → sp vs H Q E → sp vs H Q' E)
    (hr : Room (k + 1) (cxOf (CX2 P w) P w K mg base N qual scope f cd A outer s H E).A) (hb : Binds K fd ps [])
    (hg : Gl (cxOf (CX2 P w) P w K mg base N qual scope f cd A outer s H E) x) (hm : mg x = some (.ref C))
    (ha : PA (cxOf (CX2 P w) P w K mg base N qual scope f cd A outer s H E) (e :: es) t) (hdb : (x == ("__debug__" : Str)) = false := by decide)
    (he : starEach (e :: es) (envOfC qual scope s.heap.objs.size f cd) = (false, eval e (envOfC qual scope s.heap.objs.size f cd)) :: starEach es (envOfC qual scope s.heap.objs.size f cd) := by rfl)
    (hpl : (backTo cpos (starEach es (envOfC qual scope s.heap.objs.size f cd))).any (·.1) = false := by rfl) :
    PS (cxOf (CX2 P w) P w K mg base N qual scope f cd A outer s H E) (.Raise (some (.Call (.Name x np) (e :: es) [] cpos)) none pos) (tRaiseI C sp E t) := by
  intro pins s1 σ H1 D I h
  obtain ⟨tl, N', nm, q, bs, hdct, sn, sub, ab, col, dd, k0, k1, k2, k3, k5, mN, hC, hN, hi, T⟩ := exc2_obj M.q I.ok.mod.kin
  rw [arm_exec_Raise]
  refine wpAny_bind (wpAny_standAt ?_)
  refine xinit_raise (C := C) (nm := nm) (q := q) (N := N') (bs := bs) (bm := tl) (hdct := hdct) (sn := sn) (sub := sub) (ab := ab) (col := col) (dd := dd) (k0 := k0) (k1 := k1) (k2 := k2) (k3 := k3) (k5 := k5) (newId := "ValueError.__new__")
    (T.hasType PySem.F.excBase_ValueError.hasBase) (I.ok.hd rfl) ?_
  refine wpAny_bind (wpAny_mono (Q := fun v s₁ => ∃ (e : Addr) (oc : Value) (od : Option Addr) (vs : Array Value) (osl : Array (Option Value)), v = .ref e ∧ s₁.heap.get? C = some (excClassObj nm q C N' bs tl hdct sn sub ab col dd k0 k1 k2 k3 k5 "ValueError.__new__") ∧ s₁.heap.get? e = some ⟨oc, od, .fields vs, osl⟩ ∧ oc = .ref C ∧ vs[1]? = some .none ∧ (cxOf (CX2 P w) P w K mg base N qual scope f cd A outer s H E).xe (.ref e) s₁) ?_ (fun v s3 h3 => wpAny_bind (wpAny_standAt (wpAny_pure h3))) fun _ _ z => z)
  refine wpAny_Call_Name_kw (ld_glob I hg hm ?_ hdb)
  refine PySem.W.callWith_K (h₀ := base) I.ok.mod.kin M.kp (thn (ha cpos pins _ σ H1 _ I h) fun us s2 ⟨vs, H2, I2, r, hz, q1⟩ => ⟨I2.kIn, ?_⟩) he hpl
  refine run_xmake (X := cxOf (CX2 P w) P w K mg base N qual scope f cd A outer s H E) M F hr hb I2 r (by show us.length ≤ 1000; rw [← r.length]; exact hz) fun a na => ?_
  refine sple _ _ _ _ _ (fun y H3 ⟨hy, dx, hne, h3, ho, q3⟩ => ⟨hy, dx, hne, h3, ho, fun s3 nw I3 => ?_⟩) (q1 a na)
  obtain ⟨⟨vs3, sl3, hx, ⟨t0, h0⟩, h1⟩, _, _⟩ := I3.hok a _ h3
  refine ⟨a, _, _, vs3, sl3, rfl, I3.bk _ _ hC, hx, rfl, h1, ?_⟩
  have hin : ∀ env ∈ envOfC qual scope s.heap.objs.size f cd :: outer, ∀ b, env.frame = some b → b ∈ a :: frs (envOfC qual scope s.heap.objs.size f cd :: outer) := fun env he b hb => List.mem_cons_of_mem _ (List.mem_filterMap.mpr ⟨env, he, hb⟩)
  have hfe : frs (envOfC qual scope s.heap.objs.size f cd :: outer) = s.heap.objs.size :: frs outer := rfl
  have ab : (PySem.W.hideAll s3.heap (a :: frs (envOfC qual scope s.heap.objs.size f cd :: outer))).get? a = none := PySem.W.hideAll_none _ (.head _)
  show wpAny (model P w) (A.deeper (envOfC qual scope s.heap.objs.size f cd)) (leaving (envOfC qual scope s.heap.objs.size f cd) (.ref a)) (fun _ s'' => CX2 P w outer H s E (.ref a) s'') (fun e' s'' => CX2 P w outer H s E e' s'') s3
  have L := wpAny_leaving_firstW (M := model P w) (A := A.deeper (envOfC qual scope s.heap.objs.size f cd)) (E := fun e' s'' => CX2 P w outer H s E e' s'') (Q := fun _ s' => Heap.LeftW (PySem.W.hideAll s3.heap (a :: frs (envOfC qual scope s.heap.objs.size f cd :: outer))) (envOfC qual scope s.heap.objs.size f cd :: outer) a (.ref C) (.ref t0) s3.heap s'.heap ∧ s'.os = s3.os ∧ s'.gens = s3.gens)
    I3.ok.frames (PySem.W.funFrames_hide I3.stack hin) rfl hx (fun b o q => PySem.W.of_hideAll _ q) ab rfl h1 h0 fun h' hL => ⟨hL, rfl, rfl⟩
  refine wpAny_mono (wpAny_kd (KD.leaving _ _) L) (fun _ s' ⟨⟨hL, hos, hgs⟩, dk⟩ => ?_) fun e' s' z => z.1
  obtain ⟨x1, ⟨_, _, x2⟩, x3, x4⟩ := hL
  have nwS : s.heap.get? a = none := by
    cases z : s.heap.get? a with
    | none => rfl
    | some o =>
      obtain ⟨o', ho'⟩ := I2.base.there a o z (by show a ∉ ([] : List Addr); simp)
      rw [nw] at ho'; cases ho'
  have fr0 : ∀ b ∈ frs outer, rem H3 a b = none := fun b hb => by
    obtain ⟨_, o, ho, _⟩ := I3.ok.funs.mem hb
    by_cases z : b = a
    · rw [z]; exact rem_same
    · rw [rem_ne z]; exact I3.base.free b o ho (I3.ok.frf b hb) (by show b ∉ ([] : List Addr); simp)
  have hB : ∀ b o, ((s.heap.get? b).isSome = true ∨ (rem H3 a b).isSome = true) → b ∉ frs outer → s3.heap.get? b = some o → (PySem.W.hideAll s3.heap (a :: frs (envOfC qual scope s.heap.objs.size f cd :: outer))).get? b = some o := fun b o hb hn e => by
    refine PySem.W.hideAll_get _ e ?_
    rw [hfe]
    intro z
    rcases List.mem_cons.mp z with z | z
    · rw [z] at hb
      rcases hb with hb | hb
      · rw [nwS] at hb; cases hb
      · rw [rem_same] at hb; cases hb
    rcases List.mem_cons.mp z with z | z
    · rcases hb with hb | hb
      · obtain ⟨o', ho'⟩ := Option.isSome_iff_exists.mp hb
        exact absurd (Heap.lt_size ho') (by rw [z]; exact Nat.lt_irrefl _)
      · have fL : H3 s.heap.objs.size = none := I3.free
        have : rem H3 a b = none := by
          by_cases y : b = a
          · rw [y]; exact rem_same
          · rw [rem_ne y, z]; exact fL
        rw [this] at hb; cases hb
    · exact hn z
  have up : ∀ b ∈ frs outer, ∀ o, s3.heap.get? b = some o → ∃ sl, s'.heap.get? b = some { o with slots := sl } := fun b hb o e => by
    obtain ⟨_, o', ho', nf⟩ := I3.funs.mem hb
    rw [ho'] at e; cases e
    exact x4 b _ ho' nf
  obtain ⟨u1, k1'⟩ := un_go (h2 := s'.heap) (un_rem (show Un (frs outer) [] H H3 s.heap s3.heap from I3.base) h3) (hok_rem I3.hok h3) fr0 hB x1 up
  obtain ⟨oe, vse, T', oT, ts, heo, hT'⟩ := id x3
  refine ⟨a, C, rem H3 a, rfl, ⟨hos.trans I3.os, by rw [hgs]; exact I3.bare, u1, k1', nwS, rem_same, _, t0, ⟨x1, ab, x2, x3⟩, fun b o hb hn e => ?_⟩, .inr ⟨dx, ⟨oe, heo, dk.dict hx heo⟩, rem_same, q3⟩⟩
  by_cases hz : ∃ o', s3.heap.get? b = some o'
  · obtain ⟨o', ho'⟩ := hz
    have q1 := hB b o' hb hn ho'
    have q2 := x1 b o' q1
    rw [q2] at e; cases e
    exact q1
  · refine absurd ?_ hz
    rcases hb with hb | hb
    · obtain ⟨o', ho'⟩ := Option.isSome_iff_exists.mp hb
      exact I3.base.there b o' ho' (by show b ∉ ([] : List Addr); simp)
    · obtain ⟨o', ho'⟩ := Option.isSome_iff_exists.mp hb
      by_cases y : b = a
      · rw [y]; exact ⟨_, hx⟩
      · rw [rem_ne y] at ho'
        exact there_of (I3.hok b o' ho')
end Far
set_option Elab.async false
set_option linter.all false
set_option maxRecDepth 100000
set_option maxHeartbeats 4000000
namespace Far
open PySem L2 HT PySem.Spec PySem.Calls PyProof.Rows
def XCau (C a : Addr) : Option Addr → Heap → Prop
  | none => IsExc C a
  | some dx => XHas C a dx
theorem xcau_ok {P : Program} {w : World} {H : Hp} {h : Heap} {C a : Addr} {d : Option Addr} (x : XCau C a d h) : ObjOk P w H h a (.ext (XCau C a d)) := by
  cases d with
  | none => exact isExc_ok x
  | some dx => exact xhas_ok x
theorem un_ext2 {P : Program} {w : World} {fs : List Addr} {H H' : Hp} {h h2 : Heap} {a : Addr} {φ : Heap → Prop} (u : Un fs [] H H' h h2) (ok0 : HOk P w H h) (ok : HOk P w H' h2) (new : h.get? a = none) (nt : H' a = none) (x : ObjOk P w (upd H' a (.ext φ)) h2 a (.ext φ)) :
    Un fs [] H (upd H' a (.ext φ)) h h2 ∧ HOk P w (upd H' a (.ext φ)) h2 := by
  have ne : ∀ {b : Addr} {o : HO}, H b = some o → b ≠ a := fun {b o} e z => by
    obtain ⟨ob, q⟩ := there_of (ok0 b o e)
    rw [z, new] at q; cases q
  refine ⟨⟨u.keep, u.slot, fun b o e n hx => ?_, u.there, fun b xs e => ?_, fun b o xs e => ?_, fun b ps e => ?_⟩, fun b o e => ?_⟩
  · rw [upd_ne fun z => by rw [z, new] at e; cases e]; exact u.free b o e n hx
  · rw [upd_ne (ne e)]; exact u.tups b xs e
  · rw [upd_ne (ne e)]; exact u.frzs b o xs e
  · obtain ⟨m, q⟩ := u.tbls b ps e
    exact ⟨m, by rw [upd_ne (ne e)]; exact q⟩
  · by_cases z : b = a
    · rw [z, upd_same] at e
      cases e
      rw [z]; exact x
    · rw [upd_ne z] at e
      exact (ok b o e).stay (fun _ _ _ q => q) (fun c q => by rw [upd_ne fun y => by rw [y, nt] at q; cases q]; exact q) fun c xs q => by rw [upd_ne fun y => by rw [y, nt] at q; cases q]; exact q
abbrev EndsA (D : Ends) (i : Nat) : Ends := { D with nx := fun σ2 H2 => D.nx (σ2.set i none) H2, bk := fun σ2 H2 => D.bk (σ2.set i none) H2, ct := fun σ2 H2 => D.ct (σ2.set i none) H2 }
def tTryD (K : PySem.W.Frag) (C0 : Addr) (i : Nat) (tb : (L2.St → XK) → TS) (ts : TS) : TS := fun D σ H =>
  tb (fun σ' v d H' => ∃ C, v = .ref C ∧ XK' K C ∧ subIn K C C0 = true ∧ ∀ a, H' a = none → ts (EndsA D i) (σ'.set i (some (.ref a))) (upd H' a (.ext (XCau C a d)))) D σ H
theorem ps_tryD {X : Cx} {body : List Stmt} {b₀ : Stmt} {suite : List Stmt} {x n : Str} {C0 : Addr} {i : Nat} {np hpos pos : Pos} {tb : (L2.St → XK) → TS} {ts : TS} (hst : X.stack = X.env :: X.outer) (hf : X.env.frame = some X.env.locals)
    (xc : XC X.K C0) (hg : Gl X x) (hm : X.mg x = some (.ref C0)) (hN : X.N.Nodup) (hi : X.N[i]? = some n) (hk : X.env.scope.names.lookup n = some .local)
    (hb : ∀ (pn : List (Addr × Obj)) (xe : Value → Shared → Prop) (E : L2.St → XK), PassesS (CX2 X.prog X.w) { X with pn := pn, xe := xe } E → PSs { X with pn := pn, xe := xe } body (tb E))
    (hs : ∀ (A' : Around) (xe : Value → Shared → Prop), PSs { X with A := A', calm := false, xe := xe } (b₀ :: suite) ts) (hdb : (x == ("__debug__" : Str)) = false := by decide) :
    PS X (.Try body [.ExceptHandler (some (.Name x np)) (some n) (b₀ :: suite) hpos] [] [] pos) (tTryD X.K C0 i tb ts) := by
  intro pins s σ H D I h
  refine wpAny_Try_except ?_
  have okI := I.ok
  obtain ⟨xe', hxe⟩ : ∃ xe' : Value → Shared → Prop, xe' = fun e s₁ => wpAny (model X.prog X.w) X.A (noteFrame e X.env) (fun _ s₂ => wpAny (model X.prog X.w) X.A (setFlight e none) (fun _ s₃ =>
      wpAny (model X.prog X.w) X.A (handleBy e X.env [.ExceptHandler (some (.Name x np)) (some n) (b₀ :: suite) hpos]) (SP X pins D) X.xe s₃) X.xe s₂) X.xe s₁ := ⟨_, rfl⟩
  have J : Inv { X with pn := X.pn ++ pins, xe := xe' } [] σ H s :=
    inv_re (X := X) I (ok_re okI rfl okI.hd) fun p hp => by simpa using hp
  have back : ∀ {pins1 : List (Addr × Obj)} {σ' : L2.St} {H' : Hp} {s' : Shared} {xe : Value → Shared → Prop}, Inv { X with pn := X.pn ++ pins, xe := xe } pins1 σ' H' s' → Inv X pins σ' H' s' := fun {_ _ _ _ _} J' =>
    inv_re (X := X) J' okI fun p hp => List.mem_append_left _ hp
  refine wpAny_mono (hb (X.pn ++ pins) xe' (fun σ' v d H' => ∃ C, v = .ref C ∧ XK' X.K C ∧ subIn X.K C C0 = true ∧ ∀ a, H' a = none →
    ts (EndsA D i) (σ'.set i (some (.ref a))) (upd H' a (.ext (XCau C a d)))) ?_ [] s σ H D J h) (fun fl s1 h1 => ?_) fun e s1 z => by rw [hxe] at z; exact z
  · intro pins1 σ1 H1 s1 ev s' I1 ⟨a, C', H', he, F, wish⟩
    subst he
    show xe' (.ref a) s'
    rw [hxe]
    obtain ⟨d, hd, C, hv, xcC, hsub, q⟩ : ∃ d : Option Addr, (∀ dx, d = some dx → ∃ oe, s'.heap.get? a = some oe ∧ oe.dict = some dx) ∧ ∃ C, Value.ref C' = .ref C ∧ XK' X.K C ∧ subIn X.K C C0 = true ∧ ∀ a, H' a = none →
        ts (EndsA D i) (σ1.set i (some (.ref a))) (upd H' a (.ext (XCau C a d))) := by
      rcases wish with z | ⟨dx, ho, _, z⟩
      · exact ⟨none, fun _ y => (by cases y), z⟩
      · exact ⟨some dx, fun dx' y => (by cases y; exact ho), z⟩
    obtain rfl : C' = C := by cases hv; rfl
    obtain ⟨os, bare, un, hok, new, nt, B, t, hfl, hB⟩ := F
    change Un (frs X.stack) [] H1 H' s1.heap s'.heap at un
    change Heap.FlyingW B X.stack a (.ref C') (.ref t) s'.heap at hfl
    change ∀ b o, _ → b ∉ frs X.stack → _ → _ at hB
    have nf : ∀ b ∈ frs X.stack, H' b = none := fun b hb => by
      obtain ⟨_, o, ho, _⟩ := I1.stack.mem hb
      exact un.free b o ho (I1.stkFree b hb) (by simp)
    have hup : ∀ {h2 : Heap}, s'.heap.UpToSlots h2 → ∀ b ∈ frs X.stack, ∀ o, s'.heap.get? b = some o → ∃ sl, h2.get? b = some { o with slots := sl } := fun {h2} up b hb o e => by
      obtain ⟨_, o', ho', nfl⟩ := hfl.2.2.1.mem hb
      rw [ho'] at e; cases e
      exact up b _ ho' nfl
    have inv : ∀ {h2 : Heap} (A2 : Around) (c2 : Bool) (xe2 : Value → Shared → Prop) (_ : A2.frames = X.A.frames) (_ : c2 = true → A2.handled = none), B.StaysIn h2 → s'.heap.UpToSlots h2 → Inv { X with A := A2, calm := c2, xe := xe2 } pins σ1 H' { s' with heap := h2 } := fun {h2} A2 c2 xe2 hA hc st up => by
      obtain ⟨u2, k2⟩ := un_go (h2 := h2) un hok nf hB st (hup up)
      have I2 := I1.call' (s' := { s' with heap := h2 }) (ch := []) os u2 k2 bare (fun b z => absurd z (by simp))
      exact inv_re (X := X) (back I2) (ok_re okI hA hc) fun p hp => hp
    have invE : ∀ {h2 : Heap} (A2 : Around) (c2 : Bool) (xe2 : Value → Shared → Prop) (_ : A2.frames = X.A.frames) (_ : c2 = true → A2.handled = none), B.StaysIn h2 → s'.heap.UpToSlots h2 → XCau C' a d h2 → Inv { X with A := A2, calm := c2, xe := xe2 } pins σ1 (upd H' a (.ext (XCau C' a d))) { s' with heap := h2 } := fun {h2} A2 c2 xe2 hA hc st up ix => by
      obtain ⟨u2, k2⟩ := un_go (h2 := h2) un hok nf hB st (hup up)
      obtain ⟨u3, k3⟩ := un_ext2 u2 I1.hok k2 new nt (xcau_ok ix)
      have I2 := I1.call' (s' := { s' with heap := h2 }) (ch := []) os u3 k3 bare (fun b z => absurd z (by simp))
      exact inv_re (X := X) (back I2) (ok_re okI hA hc) fun p hp => hp
    have hfl' := hfl
    rw [hst] at hfl'
    refine wpAny_mono (wpAny_kd (KD.noteFrame _ _) (wpAny_looks_onW (L := X.env.locals) (Q := fun _ s4 => ∃ h4, s4 = { s' with heap := h4 } ∧ Heap.HeldW B (X.env :: X.outer) a (.ref C') (.ref t) X.env.locals h4 ∧ s'.heap.UpToSlots h4) (by rw [← hst]; exact okI.frames) hf hfl' fun h4 p1 p2 => ⟨h4, rfl, p1, p2⟩)) (fun _ s4 ⟨⟨h4, e4, held4, sm4⟩, dk4⟩ => ?_) fun _ _ z => z.1
    subst e4
    refine wpAny_mono (wpAny_kd (KD.setFlight _ _) (wpAny_landsW (Q := fun _ s5 => ∃ h5, s5 = { s' with heap := h5 } ∧ Heap.FlyingW B (X.env :: X.outer) a (.ref C') (.ref t) h5 ∧ h4.UpToSlots h5) held4 fun h5 p1 p2 => ⟨h5, rfl, p1, p2⟩)) (fun _ s5 ⟨⟨h5, e5, hfl5, sm5⟩, dk5⟩ => ?_) fun _ _ z => z.1
    subst e5
    have I5 := inv (h2 := h5) (X.A.mark (some (.ref a))) false X.xe rfl (fun z => nomatch z) hfl5.1 (sm4.trans sm5)
    obtain ⟨ob, hob, hobc⟩ := hfl5.there
    refine wpAny_handleBy_cons (codeAny_handlers_test (ld_glob I5 hg hm ?_ hdb)) (by intro z; cases z)
    obtain ⟨tl, N', nm, q', bs, hdct, sn, sub, ab, col, dd, k0, k1, k2, k3, k5, mN, hC, hNs, T⟩ := xcC.ob _ I5.kIn
    obtain ⟨tl0, N0', nm0, q0', bs0, hdct0, sn0, sub0, ab0, col0, dd0, j0, j1, j2, j3, j5, mN0, hC0, hNs0, hni0, T0⟩ := xc.obj I5.kIn
    refine excMatches_own hC hC0 hob hobc (T0.hasType (by decide)) (sub_of hsub I5.kIn hC) (codeAny_handlers_suite_as ?_)
    refine wpAny_mono (wpAny_kd (KD.setFlight _ _) (lands_againW (Q := fun _ s6 => ∃ h6, s6 = { s' with heap := h6 } ∧ Heap.FlyingW B (X.env :: X.outer) a (.ref C') (.ref t) h6 ∧ h5.UpToSlots h6) hfl5 fun h6 p1 p2 => ⟨h6, rfl, p1, p2⟩)) (fun _ s6 ⟨⟨h6, e6, hfl6, sm6⟩, dk6⟩ => ?_) fun _ _ z => z.1
    subst e6
    have dk : DK s'.heap h6 := (dk4.trans dk5).trans dk6
    have ix : XCau C' a d h6 := by
      obtain ⟨_, _, _, oe, vse, T', oT, ts', heo, hcls, hdt, _⟩ := id hfl6
      cases d with
      | none => exact ⟨oe, heo, hcls.1⟩
      | some dx =>
        obtain ⟨o1, g1, e1⟩ := hd dx rfl
        have e2 := dk.dict g1 heo
        rw [e1] at e2
        obtain ⟨oc, od, odt, osl⟩ := oe
        simp only at e2 hdt
        obtain ⟨hc1, _⟩ := hcls
        simp only at hc1
        subst e2 hdt hc1
        exact ⟨vse, osl, heo⟩
    have I6 := invE (h2 := h6) (X.A.mark (some (.ref a))) false (fun (y : Value) (s₃ : Shared) => True) rfl (fun z => nomatch z) hfl6.1 ((sm4.trans sm5).trans sm6) ix
    refine store_ok (X := X) (v := .ref a) (inv_re (X := X) I6 okI fun p hp => hp) hN hi (.inl hk) rfl (fun s7 I7 => ?_) (.inr hk)
    refine wpAny_mono (hs (X.A.mark (some (.ref a))) _ pins s7 _ _ _ (inv_re (X := X) I7 (ok_re okI rfl fun z => nomatch z) fun p hp => hp) (q a nt)) (fun fl s8 h8 => ?_) fun _ _ z => z
    have bk : ∀ {σ' : L2.St} {H'' : Hp} {xe : Value → Shared → Prop} {A2 : Around}, Inv { X with A := A2, calm := false, xe := xe } pins σ' H'' s8 → Inv X pins σ' H'' s8 := fun {_ _ _ _} J' =>
      inv_re (X := X) J' okI fun p hp => hp
    cases fl with
    | next => obtain ⟨σ', H'', J', z⟩ := h8; exact name_goes (bk J') hN hi hk fun s9 J9 => ⟨_, H'', J9, z⟩
    | brk => obtain ⟨σ', H'', J', z⟩ := h8; exact name_goes (bk J') hN hi hk fun s9 J9 => ⟨_, H'', J9, z⟩
    | cont => obtain ⟨σ', H'', J', z⟩ := h8; exact name_goes (bk J') hN hi hk fun s9 J9 => ⟨_, H'', J9, z⟩
    | ret u => obtain ⟨v, σ', H'', J', r, z⟩ := h8; exact name_goes (bk J') hN hi hk fun s9 J9 => ⟨v, _, H'', J9, r, z⟩
  · cases fl with
    | next => obtain ⟨σ', H'', J', z⟩ := h1; exact wpAny_execs_nil ⟨σ', H'', back J', z⟩
    | brk => obtain ⟨σ', H'', J', z⟩ := h1; exact ⟨σ', H'', back J', z⟩
    | cont => obtain ⟨σ', H'', J', z⟩ := h1; exact ⟨σ', H'', back J', z⟩
    | ret u => obtain ⟨v, σ', H'', J', r, z⟩ := h1; exact ⟨v, σ', H'', back J', r, z⟩
end Far
set_option Elab.async false
set_option linter.all false
set_option maxRecDepth 100000
set_option maxHeartbeats 4000000
namespace Far
open PySem L2 HT PySem.Spec PySem.Calls PyProof.Rows
theorem XCau.exc {C a : Addr} {d : Option Addr} {h : Heap} (x : XCau C a d h) : IsExc C a h := by
  cases d with
  | none => exact x
  | some dx => obtain ⟨vs, sl, e⟩ := x; exact ⟨_, e, rfl⟩
structure XI2 (K : PySem.W.Frag) (C : Addr) : Prop where
  xk : XK' K C
  fga : PySem.W.findIn K (.ref C) "__getattribute__" = some (some (.builtin "BaseException.__getattribute__"))
  fge : PySem.W.findIn K (.ref C) "__getattr__" = some none
  fcl : PySem.W.findIn K (.ref C) "__class__" = some (some (.builtin "object.__class__"))
theorem kitx_cau {K : PySem.W.Frag} {C a : Addr} {d : Option Addr} (x : XI2 K C) : PySem.W.KitX K (.ref a) (.ref C) (XCau C a d) where
  ty := fun M h X I => by
    obtain ⟨ob, e, c⟩ := XCau.exc I
    exact c ▸ (PySem.W.Looks.ld e).andThen .now
  it := fun M h X I => by
    obtain ⟨tl, N', nm, q', bs, hdct, sn, sub, ab, col, dd, k0, k1, k2, k3, k5, mN, hC, hNs, T⟩ := x.xk.ob _ X
    intro A' Q' E' s' k q
    unfold isType loadHead
    exact wpAny_bind (wpAny_loadPart (k _ _ hC) (wpAny_pure q))
  ne := fun h tp dd its n sl X htp => by
    obtain ⟨tl, N', nm, q', bs, hdct, sn, sub, ab, col, dd, k0, k1, k2, k3, k5, mN, hC, hNs, T⟩ := x.xk.ob _ X
    refine Bool.eq_false_iff.mpr fun q => ?_
    have e : C = tp := Value.ref.inj (beq_iff_eq.mp q)
    subst e
    have z := congrArg Obj.cls (Option.some.inj (hC.symm.trans htp))
    have z2 : Value.type "type" = Value.type "tuple" := z
    injection z2 with z3
    exact absurd z3 (by decide)
  ca := fun {prog w A E Q s} X I k => by
    obtain ⟨h, g, d', t, os⟩ := s
    obtain ⟨tl, N', nm, q', bs, hdct, sn, sub, ab, col, dd, k0, k1, k2, k3, k5, mN, hC, hNs, T⟩ := x.xk.ob _ X
    obtain ⟨ob, e, c⟩ := XCau.exc I
    exact xcls_attr X x.fga x.fge x.fcl hC (T.hasType (by decide)) (T.hasType (by decide)) e c k
def rIsC (K : PySem.W.Frag) : List V → Hp → VK → Prop := fun vs H Q => ∃ (a C : Addr) (d : Option Addr) (c : V) (cv : Value) (b : Bool), vs = [.ref a, c] ∧ H a = some (.ext (XCau C a d)) ∧ XI2 K C ∧ clsOf c = some cv ∧ PySem.W.kitOne K (.ref C) cv = some b ∧ Q (.bl b) H
theorem cr_isC {X : Cx} : CallR X (.builtin "isinstance") (rIsC X.K) := by
  intro pins s σ H vs us Q I r h
  obtain ⟨a, C, d, c, cv, b, rfl, hH, xi, ec, e, q⟩ := h
  obtain ⟨u, v, rfl, ru, rv⟩ := Vals.two r
  cases (show u = Value.ref a from ru)
  rw [clsOf_rel rv ec]
  exact PySem.W.kia_one (kitx_cau xi) I.kIn (I.hok a _ hH).1 e (by intro z; cases z) fun tk => ⟨.bl b, H, I.tok tk, rfl, q⟩
def rIsCT (K : PySem.W.Frag) : List V → Hp → VK → Prop := fun vs H Q => ∃ (a C tp : Addr) (d : Option Addr) (cs : List V) (cvs : List Value) (b : Bool), vs = [.ref a, .ref tp] ∧ H a = some (.ext (XCau C a d)) ∧ XI2 K C ∧ SqT K H tp cs ∧ cs.map clsOf = cvs.map some ∧ PySem.W.kitAny K (.ref C) cvs = some b ∧ Q (.bl b) H
theorem XM.xk {K : PySem.W.Frag} {C f : Addr} (m : XM K C f) : XK' K C := ⟨fun h X => by
  obtain ⟨tl, N', nm, q', bs, hdct, sn, sub, ab, col, dd, k0, k1, k2, k3, k5, mN, hC, hNs, _, T⟩ := exc2_obj m.q X
  exact ⟨tl, N', nm, q', bs, hdct, sn, sub, ab, col, dd, k0, k1, k2, k3, k5, mN, hC, hNs, T⟩⟩
theorem XC.xk {K : PySem.W.Frag} {C : Addr} (m : XC K C) : XK' K C := ⟨fun h X => by
  obtain ⟨tl, N', nm, q', bs, hdct, sn, sub, ab, col, dd, k0, k1, k2, k3, k5, mN, hC, hNs, _, T⟩ := m.obj X
  exact ⟨tl, N', nm, q', bs, hdct, sn, sub, ab, col, dd, k0, k1, k2, k3, k5, mN, hC, hNs, T⟩⟩
end Far
set_option Elab.async false
set_option linter.all false
set_option maxRecDepth 100000
set_option maxHeartbeats 4000000
set_option pp.maxSteps 500
namespace Far
open PySem L2
def spXInit (C : Addr) : Sp := fun vs H Q _ => ∃ (a : Addr) (i : Int), vs = [.ref a, .int i] ∧ H a = some (.ext (XNew C a)) ∧ i.natAbs.log2 < 1920 ∧ ∀ dx, H dx = none → dx ≠ a → Q .non (upd (upd H dx (.xd [("place", .int i)])) a (.ext (XOwn C a dx)))
abbrev n_ntInit : List Str := ["self", "place"]
theorem sc_ntInit : FnScope n_ntInit ["self", "place"] (defScope sNTInit) := ⟨rfl, rfl, rfl, by decide +kernel, rfl, by decide +kernel, by decide +kernel⟩
theorem xinit_le {CN : Addr} (vs : List V) (H : Hp) (Q Q' : VK) (E : XK) (h : ∀ v H', Q v H' → Q' v H') (s : spXInit CN vs H Q E) : spXInit CN vs H Q' E := by
  obtain ⟨a, i, e, ha, hi, q⟩ := s
  exact ⟨a, i, e, ha, hi, fun dx h1 h2 => h _ _ (q dx h1 h2)⟩
def noneF : List Bool → Nat → List Nat
  | [], _ => []
  | b :: r, i => if b = true then noneF r (i + 1) else i :: noneF r (i + 1)
theorem noneF_app : ∀ (a c : List Bool) (i : Nat), noneF (a ++ c) i = noneF a i ++ noneF c (i + a.length)
  | [], c, i => by show noneF c i = [] ++ noneF c (i + 0); rw [List.nil_append, Nat.add_zero]
  | b :: a, c, i => by
    show (if b = true then noneF (a ++ c) (i + 1) else i :: noneF (a ++ c) (i + 1)) = (if b = true then noneF a (i + 1) else i :: noneF a (i + 1)) ++ noneF c (i + (a.length + 1))
    rw [noneF_app a c (i + 1), show i + 1 + a.length = i + (a.length + 1) by omega]
    split <;> rfl
theorem noneF_lt : ∀ {bs : List Bool} {i j : Nat}, j ∈ noneF bs i → j < i + bs.length
  | b :: r, i, j, h => by
    unfold noneF at h
    rw [List.length_cons]
    split at h
    · have := noneF_lt h
      omega
    · rcases List.mem_cons.mp h with e | h
      · omega
      · have := noneF_lt h
        omega
theorem turn_true {K : PySem.W.Frag} {H : Hp} {v : V} {n : Nat} (t : TurnIs K H v n true) : ∃ tb h o, v = .ref tb ∧ H tb = some (.tup [natV h, natV o]) ∧ h < n ∧ o < n := by
  rcases t with ⟨_, _, _, z⟩ | ⟨_, _, _, _, _, _, z⟩ | ⟨a, x, o, bx, bo, e, ha, hx, ho, z⟩
  · cases z
  · cases z
  · unfold turnB at z
    have z := z.symm
    have z1 : (bx && handB x n) = true := (Bool.and_eq_true _ _ ▸ z : _ ∧ _).1
    have z2 : ((bo && handB o n) && inLooks x o n) = true := (Bool.and_eq_true _ _ ▸ z : _ ∧ _).2
    have z3 : (bo && handB o n) = true := (Bool.and_eq_true _ _ ▸ z2 : _ ∧ _).1
    obtain ⟨i, rfl, hi0, hi1⟩ := hand_int hx z1
    obtain ⟨j, rfl, hj0, hj1⟩ := hand_int ho z3
    obtain ⟨i, rfl⟩ := Int.eq_ofNat_of_zero_le hi0
    obtain ⟨j, rfl⟩ := Int.eq_ofNat_of_zero_le hj0
    exact ⟨a, i, j, e, ha, by omega, by omega⟩
def spWovenE (K : PySem.W.Frag) (CN : Addr) : Sp := fun vs H Q E => ∃ (jv : V) (J : Job) (n : Nat) (Wa : Addr) (us : List V) (bs : List Bool), vs = [jv, natV n, .ref Wa] ∧ IsJob K H jv J ∧ JobOk 12 J ∧ 0 < n ∧ n ≤ 100 ∧ H Wa = some (.lst us) ∧ us.length ≤ 100000 ∧
  Paired (fun u b => ∀ H', Same H H' → TurnIs K H' u n b) us bs ∧
  (noneF bs 0 = [] → ∀ v H', Same H H' → Q v H') ∧ (∀ i r, noneF bs 0 = i :: r → ∀ (dx : Addr) H', Same H H' → H dx = none → H' dx = some (.xd [("place", .int (i : Int))]) → E (.ref CN) (some dx) H')
section
variable {P : Program} {w : World} {K : PySem.W.Frag} {mg : Str → Option Value} {base : Heap} {C : Addr}
theorem ok_ntInit {f : Addr} {fd : FuncData} (F : Fun K "__init__" "NoTurn.__init__" sNTInit f fd) {CN CF : Addr} (mF : mg "FarError" = some (.ref CF)) (xb : XB K CF) (xk : XK' K CN) (xo : XO K CN) (na : NoAttr K CN "place") :
    FnOk P w K mg base CX0 1 f fd ["self", "place"] (spXInit CN) := by
  refine F.ok sc_ntInit (fun vs H Q E h => ?_) (fun cdv Ar outer s H vs Q E hr h => ?_)
  · obtain ⟨a, i, rfl, _⟩ := h
    rfl
  · obtain ⟨a, i, rfl, ha, hi, q⟩ := h
    refine ⟨_, pss_cons (ps_expr (pe_vinit xb rfl mF (pa_cons (pv 0) (pa_cons (pe_fstr (by decide) (pv 1)) pa_nil)))) (pss_one (ps_xset (pv 0) (pv 1) rfl)), ?_⟩
    exact ⟨_, rfl, _, rfl, i, rfl, hi, by decide, fun y => ⟨a, CN, y, rfl, ha, xk, _, rfl, _, rfl, a, CN, rfl, ha, xo, na, fun dx h1 h2 => q dx h1 h2⟩⟩
abbrev n_woven : List Str := ["job", "hands", "weaving", "crew", "told", "place", "turn", "hand", "other"]
theorem sc_woven : FnScope n_woven ["job", "hands", "weaving"] (defScope sWoven) := ⟨rfl, rfl, rfl, by decide +kernel, rfl, by decide +kernel, by decide +kernel⟩
theorem ok_wovenE {f : Addr} {fd : FuncData} (F : Fun K "woven" "woven" sWoven f fd) (T : TxtC K mg C) {CN f_NoTurn : Addr} {d_NoTurn : FuncData} (M_NoTurn : XM K CN f_NoTurn) (G_NoTurn : FnOk P w K mg base CX0 1 f_NoTurn d_NoTurn ["self", "place"] (spXInit CN)) (b_NoTurn : Binds K d_NoTurn ["self", "place"] []) (mg_NoTurn : mg "NoTurn" = some (.ref CN))
    {f_Crew : Addr} {d_Crew : FuncData} (G_Crew : FnOk P w K mg base CX0 4 f_Crew d_Crew ["self", "job", "hands"] (spInit K C)) (b_Crew : Binds K d_Crew ["self", "job", "hands"] []) (M_Crew : Mk K C f_Crew)
    {f_is_turn : Addr} {d_is_turn : FuncData} (G_is_turn : FnOk P w K mg base CX0 3 f_is_turn d_is_turn ["thing", "hands"] (spIsTurn K)) (b_is_turn : Binds K d_is_turn ["thing", "hands"] []) (k_is_turn : PySem.W.keepIn K (.ref f_is_turn) = true) (m_is_turn : mg "is_turn" = some (.ref f_is_turn))
    {f_take_turn : Addr} {d_take_turn : FuncData} (G_take_turn : FnOk P w K mg base CX0 6 f_take_turn d_take_turn ["self", "hand", "other"] (spTakeT K C)) (b_take_turn : Binds K d_take_turn ["self", "hand", "other"] []) (m_take_turn : Meth K C "take_turn" f_take_turn)
    {f_all_ended : Addr} {d_all_ended : FuncData} (G_all_ended : FnOk P w K mg base CX0 1 f_all_ended d_all_ended ["self"] (spEnded K C)) (b_all_ended : Binds K d_all_ended ["self"] []) (m_all_ended : Meth K C "all_ended" f_all_ended) :
    FnOk P w K mg base (CX2 P w) 7 f fd ["job", "hands", "weaving"] (spWovenE K CN) := by
  refine F.ok2 sc_woven (fun vs H Q E h => ?_) (fun cdv Ar outer s H vs Q E hr h => ?_)
  · obtain ⟨jv, J, n, Wa, us, bs, rfl, _⟩ := h
    rfl
  · obtain ⟨jv, J, n, Wa, tvs, bs, rfl, hJ, ok, hn, hn2, hW, hlen, hp, q, qe⟩ := h
    refine ⟨_, pss_cons (ps_set (i := 3) sc_woven.nd rfl (Or.inl rfl) (pe_make M_Crew G_Crew (hr.mono (by decide)) rfl T.mgCrew b_Crew .nil pass0 (pa_cons (pv 0) (pa_cons (pv 1) pa_nil)))) (pss_cons (ps_set (i := 4) sc_woven.nd rfl (Or.inl rfl) (pe_lst (pa_nil))) (pss_cons (ps_for PassesOwn.leaving rfl (pi_enum rfl T.enumerate (pa_cons (pv 2) pa_nil)) (pg_tup rfl (pgs_cons (pg_name (i := 5) sc_woven.nd rfl (Or.inl rfl)) (pgs_cons (pg_name (i := 6) sc_woven.nd rfl (Or.inl rfl)) pgs_nil))) (pss_cons (ps_if (pt_not (pt_val (pe_call G_is_turn (hr.mono (by decide)) rfl m_is_turn k_is_turn b_is_turn .nil pass0 (pa_cons (pv 6) (pa_cons (pv 1) pa_nil))))) (pss_one (ps_raiseI M_NoTurn G_NoTurn xinit_le (hr.mono (by decide)) b_NoTurn rfl mg_NoTurn (pa_cons (pv 5) pa_nil))) pss_nil) (pss_cons (ps_asg (pv 6) (pg_tup rfl (pgs_cons (pg_name (i := 7) sc_woven.nd rfl (Or.inl rfl)) (pgs_cons (pg_name (i := 8) sc_woven.nd rfl (Or.inl rfl)) pgs_nil)))) (pss_one (ps_expr (pe_bm PySem.F.plainAttrs_list PySem.F.slot_list_append PySem.F.type_list_append mt_append (pv 4) (pa_cons (pe_meth (pv 3) T.cl m_take_turn G_take_turn (hr.mono (by decide)) b_take_turn .nil pass0 (pa_cons (pv 7) (pa_cons (pv 8) pa_nil))) pa_nil))))))) (pss_one (ps_ret (pe_tup (pa_cons (pv 4) (pa_cons (pe_meth0 (pv 3) T.cl m_all_ended G_all_ended (hr.mono (by decide)) b_all_ended .nil pass0) pa_nil))))))), ?_⟩
    have htl : tvs.length = bs.length := Paired.length hp
    refine ⟨_, rfl, _, rfl, fun xp dx nx ndx nex => ?_⟩
    have s0 : Same H (upd (upd H dx (.own xp)) xp (.ins C dx [])) := fun b o e => by
      rw [upd_ne (ne_of_none e nx), upd_ne (ne_of_none e ndx)]
      exact e
    refine ⟨xp, dx, jv, J, n, rfl, upd_same, IsJob.kt (KT.same s0) hJ, ok, hn, hn2, fun x H1 hxp hxd hxj A1 k1 hfr => ⟨rfl, ?_⟩⟩
    have s1 : Same H H1 := fun b o e => k1 b o (s0 b o e) (ne_of_none e nx)
    have fr0 : ∀ a ∈ lsts x, H a = none := fun a ha => s0.free (hfr a ha)
    have frp : H x.p = none := by rw [hxp]; exact nx
    refine ⟨(by show 0 ≤ sizeLine; decide), fun L eL => ?_⟩
    have s2 := s1.trans (same_new eL (.lst []))
    have A2 := A1.same (same_new eL (.lst []))
    have hL2 : (upd H1 L (.lst [])) L = some (.lst []) := upd_same
    have nL : H L = none := s1.free eL
    have hLx : L ≠ x.p ∧ L ∉ lsts x := by
      refine ⟨fun z => ?_, fun z => ?_⟩
      · rw [z, A1.ob] at eL; cases eL
      · obtain ⟨l, e⟩ := A1.lst_ z
        rw [e] at eL; cases eL
    generalize upd H1 L (.lst []) = H2 at *
    rw [← hxp]
    refine ⟨_, rfl, Wa, tvs, rfl, SqL.of (s2 _ _ hW), ?_⟩
    refine for_enum (K := K) (a := Wa) (xs := tvs) (fun i σ H3 => ∃ (ls : List V) (c : Crew) (v5 v6 v7 v8 : Option V), σ = [some jv, some (natV n), some (.ref Wa), some (.ref x.p), some (.ref L), v5, v6, v7, v8] ∧ Same H H3 ∧ CrewAt K C H3 x J c ∧ CInv J n (fun _ => False) c ∧ H3 L = some (.lst ls) ∧ ls.length = i ∧ noneF (bs.take i) 0 = [])
      ⟨[], _, none, none, none, none, rfl, s2, A2, crew0_inv ok hn, hL2, rfl, rfl⟩ (fun i σ H3 _ ⟨_, _, _, _, _, _, _, s3, _⟩ => SqL.of (s3 _ _ hW)) ?_ ?_
    · rintro i y T1 σ H3 hy ⟨ls, c, v5, v6, v7, v8, rfl, s3, A3, I3, hL3, hl3, hw3⟩ hT1
      obtain ⟨b, hb, hyb⟩ := pgetL hp hy
      have hil := (List.getElem?_eq_some_iff.mp hb).1
      have s4 := same_new hT1 (.tup [V.int ((i : Nat) : Int), y])
      have s34 := s3.trans s4
      have A4 := A3.same s4
      have hL4 := s4 _ _ hL3
      have hT4 : (upd H3 T1 (.tup [V.int ((i : Nat) : Int), y])) T1 = some (.tup [V.int ((i : Nat) : Int), y]) := upd_same
      generalize upd H3 T1 (.tup [V.int ((i : Nat) : Int), y]) = H4 at *
      refine ⟨T1, _, rfl, SqT.of hT4, rfl, _, _, rfl, _, _, rfl, rfl, ?_⟩
      refine ⟨_, rfl, _, rfl, _, n, b, rfl, hn2, hyb H4 s34, fun H5 s5 => ⟨_, rfl, ?_⟩⟩
      have s35 := s34.trans s5
      have hbs : bs = bs.take i ++ b :: bs.drop (i + 1) := by
        rw [show b :: bs.drop (i + 1) = bs.drop i by
          rw [List.drop_eq_getElem_cons hil]
          congr 1
          exact Option.some.inj (hb.symm.trans (List.getElem?_eq_getElem hil))]
        exact (List.take_append_drop i bs).symm
      have hwl : noneF bs 0 = noneF (b :: bs.drop (i + 1)) i := by
        conv => lhs; rw [hbs]
        rw [noneF_app, hw3, List.nil_append, List.length_take, Nat.zero_add, Nat.min_eq_left (Nat.le_of_lt hil)]
      cases b with
      | false =>
        refine iteT ?_
        have e1 : noneF bs 0 = i :: noneF (bs.drop (i + 1)) (i + 1) := by rw [hwl]; rfl
        have hi6 : i < 100000 := by omega
        refine ⟨_, rfl, (by show 1 ≤ 1000; omega), fun a na => ⟨a, ((i : Nat) : Int), rfl, upd_same, ?_, fun dx' h1 h2 => ⟨rfl, dx', h2, upd_same, ⟨_, by rw [upd_ne h2]; exact upd_same⟩, qe i _ e1 dx' _ (fun c o e => ?_) ?_ ?_⟩⟩⟩
        · have : ((i : Nat) : Int).natAbs.log2 ≤ 100000 := by rw [Int.natAbs_natCast]; exact Nat.le_trans (Nat.log2_le_self i) (by omega)
          have h17 : ((i : Nat) : Int).natAbs.log2 < 17 := by
            rw [Int.natAbs_natCast]
            by_cases z : i = 0
            · rw [z]; decide
            · exact (Nat.log2_lt z).mpr (by omega)
          omega
        · have e4 := s35 c o e
          have n1 : c ≠ a := fun z => by rw [z, na] at e4; cases e4
          have n2 : c ≠ dx' := fun z => by rw [z] at e4; rw [upd_ne h2, e4] at h1; cases h1
          rw [rem_ne n1, upd_ne n1, upd_ne n2, upd_ne n1]
          exact e4
        · rw [upd_ne h2] at h1
          exact s35.free h1
        · rw [rem_ne h2, upd_ne h2]; exact upd_same
      | true =>
        refine iteF ?_
        have A5 := A4.same s5
        obtain ⟨tb, h, o, rfl, htb, hh, ho⟩ := turn_true (hyb H5 s35)
        refine ⟨_, rfl, tb, _, rfl, SqT.of htb, rfl, _, _, rfl, _, _, rfl, rfl, ?_⟩
        refine ⟨_, rfl, .inl ⟨rfl, _, SqL.of (s5 _ _ hL4)⟩, _, rfl, x.p, x.dx, _, rfl, A5.ob, f_no _ _ _ (by decide +kernel), _, rfl, _, rfl, x, J, _, n, h, o, rfl, A5, ok, hh, ho, I3, fun T2 H6 eT2 hT2 A6 k6 => ?_⟩
        have hL5 := s5 _ _ hL4
        have hL6 : H6 L = some (.lst ls) := k6 _ _ hL5 hLx.1 hLx.2
        have hlsl : ls.length < sizeLine := by
          rw [sizeLine_eq]
          omega
        refine ⟨L, _, _, rfl, rfl, hL6, hlsl, ls ++ [.ref T2], _, _, _, _, _, rfl, fun b o e => ?_, ?_, turn_inv ok I3 hh ho, upd_same, by rw [List.length_append, hl3]; rfl, ?_⟩
        · have nb : b ≠ L := fun z => by rw [z, nL] at e; cases e
          rw [upd_ne nb]
          refine k6 b o (s35 b o e) (fun z => ?_) (fun z => ?_)
          · rw [z, frp] at e; cases e
          · rw [fr0 b z] at e; cases e
        · exact CrewAt.keepOut A6 hLx.1 hLx.2 hL6
        · rw [List.take_add_one, hb, noneF_app, hw3]
          rfl
    · rintro σ H3 ⟨ls, c, v5, v6, v7, v8, rfl, s3, A3, I3, hL3, hl3, hw3⟩
      rw [htl, List.take_length] at hw3
      refine ⟨_, rfl, _, rfl, x.p, x.dx, _, rfl, A3.ob, f_no _ _ _ (by decide +kernel), x, J, _, rfl, A3, by rw [I3.ll]; exact ok.pos, (by show 2 ≤ sizeLine; decide), fun T3 e3 => ?_⟩
      exact q hw3 _ _ (s3.trans (same_new e3 _))
end
end Far
set_option Elab.async false
set_option linter.all false
set_option maxRecDepth 100000
set_option maxHeartbeats 4000000
namespace Far
open PySem L2
def IsCell (H : Hp) (v : V) : Option (Nat × Nat) → Prop
  | none => v = .non
  | some t => ∃ T, v = .ref T ∧ H T = some (.tup [natV t.1, natV t.2])
theorem IsCell.ku {H H' : Hp} (k : KU H H') {v : V} {o : Option (Nat × Nat)} (h : IsCell H v o) : IsCell H' v o := by
  cases o with
  | none => exact h
  | some t => obtain ⟨T, e, g⟩ := h; exact ⟨T, e, k _ _ g⟩
def cellD : Option (Nat × Nat) → PyData
  | none => .none
  | some t => prD t
def rCountN (K : PySem.W.Frag) : V → List V → Hp → VK → Prop := fun x xs H Q => ∃ (a : Addr) (vs : List V) (l : List (Option (Nat × Nat))), x = V.ref a ∧ xs = [.non] ∧ SqL K H a vs ∧ Paired (IsCell H) vs l ∧ Q (natV (l.count none)) H
def isNoneU : Value → Bool
  | .none => true
  | _ => false
section
variable {X : Cx}
end
end Far
set_option Elab.async false
set_option linter.all false
set_option maxRecDepth 100000
set_option maxHeartbeats 4000000
namespace L2
open PySem PySem.Spec PyProof.Rows
abbrev Cx.gen (X : Cx) (A : Around) (s : Shared) (H : Hp) (cenv : Env) (fp : List Addr) (pn : List (Addr × Obj)) : Cx := { X with A := A, s_0 := s, H_0 := H, env := cenv, outer := X.stack, stack := cenv :: X.stack, ex := fp, fn := fun _ => false, calm := true, pn := pn, xe := fun _ _ => False }
section
variable {X : Cx} {pins : List (Addr × Obj)} {σ : St} {H : Hp} {s : Shared}
end
abbrev genC (elt tgt iter : Expr) (scope : Scope) (pos : Pos) (it : Addr) (ce : Env) : Code := .compLoop (.GeneratorExp elt [⟨tgt, iter, [], 0⟩] scope pos) 0 (.ref it) .none ce
def genR (X : Cx) (σ : St) (fp : List Addr) (Qt : Hp → Prop) : Nat → Shared → Shared → Prop := fun _ _ s1 => ∃ H', Inv X [] σ H' s1 ∧ Qt H'
def genY (X : Cx) (σ : St) (fp : List Addr) (Qf : Hp → Prop) : Protocol := fun _ _ v s kap => ∃ b H', v = .bool b ∧ Inv X [] σ H' s ∧ (b = false → Qf H') ∧
  (b = true → ∀ s'' : Shared, s''.heap = s.heap → s''.os = s.os → AllBare s''.gens → kap (.send .none) s'')
theorem Inv.other {X : Cx} {pins : List (Addr × Obj)} {σ : St} {H : Hp} {s s' : Shared} (I : Inv X pins σ H s) (hh : s'.heap = s.heap) (ho : s'.os = s.os) (hg : AllBare s'.gens) : Inv X pins σ H s' := by
  obtain ⟨h, g, d, t, o⟩ := s'
  obtain rfl : h = s.heap := hh
  obtain rfl : o = s.os := ho
  exact ⟨I.ok, I.os, hg, I.base, I.loc, I.cell, I.free, I.freeC, I.pin, I.hok, I.len⟩
section
variable {X : Cx} {A : Around} {elt tgt iter : Expr} {scope : Scope} {pos : Pos} {it : Addr} {fp : List Addr} {tn : Nat → Heap → Prop} {J : It} {g : TG} {te : TE} {vs : List Nat} {σ : St} {W : Nat → Nat → Hp → Prop} {Qt Qf : Hp → Prop}
end
end L2
namespace PySem
namespace Sem
end Sem
section
variable {prog : Program} {w : World} {A : Around}
end
end PySem
namespace L2
open PySem PySem.Spec PyProof.Rows
section
variable {X : Cx} {pins : List (Addr × Obj)} {σ : St} {H : Hp} {s : Shared}
def tAllG (P : Addr) (wi : TI) (g : TG) (te : TE) (vs : List Nat) : TE := fun σ H Q => wi σ H fun J H1 => ∃ ps, H1 P = some (.tbl ps) ∧ TriplesOk ps.toList ∧ ∀ more, TriplesOk (ps ++ more).toList →
  ∃ W : Nat → Nat → Hp → Prop, (∃ m, W 0 m (upd H1 P (.tbl (ps ++ more)))) ∧ ∀ i m H, W i m H → (J.stop i H ∧ Q (.bl true) H) ∨ (J.go i H ∧ ∀ y H', J.yld i H y H' → g y (wipe σ vs) H' fun σ2 H2 => wipe σ2 vs = wipe σ vs ∧
    te σ2 H2 fun v H3 => ∃ b, v = .bl b ∧ (b = true → ∃ m', m' < m ∧ W (i + 1) m' H3) ∧ (b = false → Q (.bl false) H3))
structure BltMod (base : Heap) (mg : Str → Option Value) (bm : Addr) : Prop where
  name : mg "__builtins__" = some (.ref bm)
  ne : bm ≠ builtinsNs
  obj : ∃ ob, base.get? bm = some ob ∧ ob.cls = .type "module" ∧ ob.dict = some builtinsNs ∧ ob.data = .plain
end
end L2
set_option Elab.async false
set_option linter.all false
set_option maxRecDepth 100000
set_option maxHeartbeats 4000000
namespace Far
open PySem L2 HT PySem.Spec PySem.Calls PyProof.Rows
def baseL (X : Cx) (H : Hp) (h : Heap) : Heap := PySem.W.hideAll h (trk h H ++ frs X.stack)
theorem baseL_get {X : Cx} {H : Hp} {h : Heap} {b : Addr} {o : Obj} (e : h.get? b = some o) (n : H b = none) (hf : b ∉ frs X.stack) : (baseL X H h).get? b = some o :=
  PySem.W.hideAll_get _ e fun hm => by
    rcases List.mem_append.mp hm with hm | hm
    · have q : (H b).isSome = true := (List.mem_filter.mp hm).2
      rw [n] at q; simp at q
    · exact hf hm
theorem of_baseL {X : Cx} {H : Hp} {h : Heap} {b : Addr} {o : Obj} (e : (baseL X H h).get? b = some o) : h.get? b = some o ∧ H b = none ∧ b ∉ frs X.stack := by
  have e' : h.get? b = some o := PySem.W.of_hideAll _ e
  have nm : b ∉ trk h H ++ frs X.stack := fun hm => by
    have z : (baseL X H h).get? b = none := PySem.W.hideAll_none _ hm
    rw [z] at e; cases e
  refine ⟨e', ?_, fun hm => nm (List.mem_append_right _ hm)⟩
  cases q : H b with
  | none => rfl
  | some x => exact absurd (List.mem_append_left _ (List.mem_filter.mpr ⟨List.mem_range.mpr (Heap.lt_size e'), by simp [q]⟩)) nm
section
variable {X : Cx} {pins : List (Addr × Obj)} {σ : L2.St} {H : Hp} {s : Shared}
theorem base_baseL (I : Inv X pins σ H s) {b : Addr} {o : Obj} (e : X.base.get? b = some o) : (baseL X H s.heap).get? b = some o := by
  refine baseL_get (I.bk b o e) (I.bs b o e).2 fun hb => ?_
  rcases List.mem_cons.mp (I.stkSub b hb) with z | z
  · exact absurd (Nat.lt_of_lt_of_le (Heap.lt_size e) (Nat.le_trans I.ok.bsz I.ok.above)) (by rw [z]; exact Nat.lt_irrefl _)
  · exact I.ok.nofr e z
theorem mod_baseL (I : Inv X pins σ H s) : Mod X.K X.mg (baseL X H s.heap) :=
  ⟨I.mod.kin.keeps fun _ _ e => base_baseL I e, I.mod.glob.keeps fun _ _ e => base_baseL I e, let ⟨mb, h1, h2⟩ := I.mod.blt; ⟨mb, h1.keeps fun _ _ e => base_baseL I e, h2⟩, I.mod.nolimit.keeps fun _ _ e => base_baseL I e⟩
theorem blt_baseL {bm : Addr} (I : Inv X pins σ H s) (B : BltMod X.base X.mg bm) : BltMod (baseL X H s.heap) X.mg bm :=
  ⟨B.name, B.ne, let ⟨ob, h1, h2⟩ := B.obj; ⟨ob, base_baseL I h1, h2⟩⟩
theorem env_baseL (I : Inv X pins σ H s) : Env0 X.prog X.w X.K X.mg (baseL X H s.heap) X.A X.stack s H :=
  ⟨I.ok.frames, mod_baseL I, fun _ _ e => ⟨(of_baseL e).1, (of_baseL e).2.1⟩, Nat.le_of_eq (PySem.W.hideAll_size _ _),
    PySem.W.funFrames_hide I.stack fun env he a ha => List.mem_append_right _ (List.mem_filterMap.mpr ⟨env, he, ha⟩), I.stkFree, I.hok, I.bare⟩
end
def IsCode (c : Addr) (qual : Str) (h : Heap) : Prop := h.CodeRec (.ref c) qual
theorem isCode_ok {P : Program} {w : World} {H : Hp} {h : Heap} {c : Addr} {qual : Str} (x : h.CodeRec (.ref c) qual) : ObjOk P w H h c (.ext (IsCode c qual)) := by
  refine ⟨x, ?_, fun h1 h2 y k => ?_⟩
  · obtain ⟨c', oc, vs, t, e, hoc, _⟩ := x
    cases e
    exact ⟨oc, hoc⟩
  · obtain ⟨c', oc, vs, t, e, hoc, hd, hv⟩ := y
    cases e
    exact ⟨c, oc, vs, t, rfl, k oc hoc, hd, hv⟩
def LamT (H : Hp) (P : Addr) (qual : Str) : Prop := ∃ ps, H P = some (.tbl ps) ∧ TriplesOk ps.toList ∧ ∀ pos, codeAmong pos ps.toList = none ∨ ∃ c, codeAmong pos ps.toList = some (.ref c) ∧ H c = some (.ext (IsCode c qual))
theorem LamT.same {H H' : Hp} {P : Addr} {qual : Str} (x : LamT H P qual) (s : ∀ b o, H b = some o → H' b = some o) : LamT H' P qual :=
  let ⟨ps, h1, h2, h3⟩ := x
  ⟨ps, s _ _ h1, h2, fun pos => (h3 pos).imp id fun ⟨c, a, b⟩ => ⟨c, a, s _ _ b⟩⟩
theorem LamT.start {H : Hp} {P : Addr} {qual : Str} (h : H P = some (.tbl #[])) : LamT H P qual := ⟨#[], h, trivial, fun _ => .inl rfl⟩
theorem codeAmong_app {pos : Pos} (l m : List Value) (h : TriplesOk l) : codeAmong pos (l ++ m) = match codeAmong pos l with | some c => some c | none => codeAmong pos m := by
  fun_induction TriplesOk l with
  | case1 => simp [codeAmong]
  | case2 a t b u x rest ih =>
    simp only [List.cons_append, codeAmong]
    split
    · rfl
    · exact ih h
  | case3 l h1 h2 => exact h.elim
theorem codeAmong_one {pos : Pos} {a b : Int} {c : Value} : codeAmong pos [rawInt a, rawInt b, c] = none ∨ codeAmong pos [rawInt a, rawInt b, c] = some c := by
  simp only [rawInt, codeAmong]
  split
  · exact .inr rfl
  · exact .inl rfl
section
variable {X : Cx} {pins : List (Addr × Obj)} {σ : L2.St} {H : Hp} {s : Shared}
theorem inv_code {P c : Addr} {qual : Str} {ps more : Array Value} {h' : Heap} {t' : Nat} (I : Inv X pins σ H s) (hP : H P = some (.tbl ps)) (hx : Heap.ExtBut P s.heap h') (ht : h'.get? P = some { cls := .none, data := .fields (ps ++ more) })
    (hc : s.heap.objs.size ≤ c) (hr : h'.CodeRec (.ref c) qual) : Inv X pins σ (upd (upd H P (.tbl (ps ++ more))) c (.ext (IsCode c qual))) { s with heap := h', toks := t' } := by
  have nP : ∀ b, H b = none → b ≠ P := fun b e z => by rw [z, hP] at e; cases e
  have hcn : H c = none := I.hok.fresh hc
  have nc : ∀ b o, s.heap.get? b = some o → b ≠ c := fun b o e => Nat.ne_of_lt (Nat.lt_of_lt_of_le (Heap.lt_size e) hc)
  have ncT : ∀ b o, H b = some o → b ≠ c := fun b o e => ne_of_none e hcn
  have neT : ∀ b o, H b = some o → (∀ q, o ≠ .tbl q) → b ≠ P := fun b o e hne z => by
    rw [z, hP] at e
    cases e
    exact hne _ rfl
  have one : ∀ b o, H b = some o → (∀ q, o ≠ .tbl q) → upd (upd H P (.tbl (ps ++ more))) c (.ext (IsCode c qual)) b = some o := fun b o e n => by rw [upd_ne (ncT b o e), upd_ne (neT b o e n)]; exact e
  refine I.un ⟨fun b o e n _ _ => hx b o (nP b n) e, fun b o e n _ _ => ⟨o.slots, hx b o (nP b n) e⟩, fun b o e n _ => by rw [upd_ne (nc b o e), upd_ne (nP b n)]; exact n, fun b o e _ => ?_, fun b xs e => one b _ e (fun _ z => nomatch z), fun b o u e => one b _ e (fun _ z => nomatch z), fun b qs e => ?_⟩ fun b o e => ?_
  · by_cases z : b = P
    · exact ⟨_, by rw [z]; exact ht⟩
    · exact ⟨o, hx b o z e⟩
  · by_cases z : b = P
    · subst z
      rw [hP] at e
      cases e
      exact ⟨more, by rw [upd_ne (ncT _ _ hP), upd_same]⟩
    · exact ⟨#[], by rw [upd_ne (ncT b _ e), upd_ne z, e, Array.append_empty]⟩
  · by_cases z : b = c
    · subst z
      rw [upd_same] at e
      cases e
      exact isCode_ok hr
    rw [upd_ne z] at e
    by_cases z : b = P
    · subst z
      rw [upd_same] at e
      cases e
      exact ht
    · rw [upd_ne z] at e
      refine (I.hok b o e).stay (fun d u hd q => hx d u ?_ q) (fun d q => one d _ q (fun _ z => nomatch z)) fun d xs q => one d _ q (fun _ z => nomatch z)
      rcases hd with rfl | hd
      · exact z
      · exact neT d _ hd (fun _ z => nomatch z)
theorem lam_made {M : Model} {A : Around} {E : Value → Shared → Prop} {c P bm : Addr} {qual : Str} {params : Arguments} {body : Expr} {scope : Scope} {lpos : Pos} {Q : Value → Shared → Prop} (I : Inv X pins σ H s) (B : BltMod X.base X.mg bm)
    (hcode : X.env.code = .ref c) (hK : PySem.W.codeHdIn X.K c P = true) (hq : X.env.qual ++ "<lambda>" = qual) (hfree : ∀ y ∈ scope.names, y.2 = .free → X.env.scope.names.lookup y.1 = some .cell) (hdef : defaultsOf params X.env = ([], [])) (T : LamT H P qual)
    (h : ∀ (f c' : Addr) (ctv pm : Value) (s1 : Shared) (H1 : Hp), Inv X pins σ H1 s1 → s1.heap.get? f = some (PySem.W.kla_obj "<lambda>" qual params body scope (cloFrom X.env.cells scope.names []) pm c' ctv) → H1 f = none → f ∉ frs X.stack → H1 c' = some (.ext (IsCode c' qual)) → LamT H1 P qual → But P H H1 → Q (.ref f) s1) :
    wpAny M A (eval (.Lambda params body scope lpos) X.env) Q E s := by
  obtain ⟨ps, hP, tr, hps⟩ := T
  have hd := PySem.W.codeHd_of_K I.kIn hK
  have hob : s.heap.get? P = some { cls := .none, data := .fields ps } := I.hok P _ hP
  have hcl := closure_ok (scope := scope) (env := X.env) fun y hy e => I.ok.has _ (.inl (hfree y hy e))
  have hg := I.mod.glob.keeps I.bk
  have nob : ∀ b o, X.base.get? b = some o → b ≠ P := fun b o e z => by
    have := (I.bs b o e).2
    rw [z, hP] at this; cases this
  obtain ⟨og, eg, epg, hog, hdg, hrg⟩ := id I.mod.glob
  obtain ⟨ob, hbo, hb1, hb2, hb3⟩ := B.obj
  have hBA : s.heap.BuiltinsAt X.mg P := ⟨bm, ob, B.name, B.ne, (fun z => by rw [z, hog] at hbo; cases hbo; rw [hdg] at hb3; cases hb3), nob _ _ hbo, I.bk _ _ hbo, hb1, hb2, hb3⟩
  have fin : ∀ (s1 : Shared) (H1 : Hp) (c' : Addr) (ctv : Value), Inv X pins σ H1 s1 → s.heap.objs.size ≤ s1.heap.objs.size → H1 c' = some (.ext (IsCode c' qual)) → LamT H1 P qual → But P H H1 →
      Q (.ref s1.heap.objs.size) { s1 with heap := s1.heap.push (PySem.W.kla_obj "<lambda>" qual params body scope (cloFrom X.env.cells scope.names []) ((X.mg "__name__").getD .none) c' ctv) } := fun s1 H1 c' ctv I1 hsz hc' T1 b1 => by
    refine h s1.heap.objs.size c' ctv _ _ H1 (I1.kept (t' := s1.toks) fun b o e => Heap.get?_push_of_some _ e) (Heap.get?_push_size _ rfl) (I1.hok.fresh (Nat.le_refl _)) (fun hb => ?_) hc' T1 b1
    obtain ⟨_, o, ho, _⟩ := I1.stack.mem hb
    exact absurd (Heap.lt_size ho) (Nat.lt_irrefl _)
  refine PySem.W.kla_eval hdef ?_
  rw [hq]
  rcases hps lpos with hnf | ⟨c', hf, hc'⟩
  · refine PySem.W.kla_makeFunction (mg := X.mg) hcl I.ok.glob hg hcode hd hob tr hnf (nob _ _ hog) hBA fun c' ctv h' tk hx hge hlt hrec htb => ?_
    have I1 := inv_code (t' := tk) I hP hx htb hge hrec
    have hcn : H c' = none := I.hok.fresh hge
    have ncP : P ≠ c' := ne_of_none hP hcn
    have tr2 : TriplesOk (ps ++ #[rawInt lpos.line, rawInt lpos.col, .ref c']).toList := by
      rw [Array.toList_append]
      exact TriplesOk_snoc _ _ _ _ tr
    refine fin _ _ c' ctv I1 (Nat.le_trans hge (Nat.le_of_lt hlt)) upd_same ⟨_, by rw [upd_ne ncP, upd_same], tr2, fun pos => ?_⟩ fun b o e n => by rw [upd_ne (ne_of_none e hcn), upd_ne n]; exact e
    rw [Array.toList_append, codeAmong_app _ _ tr]
    rcases hps pos with z | ⟨d, z, hd'⟩
    · rw [z]
      show codeAmong pos [rawInt lpos.line, rawInt lpos.col, .ref c'] = none ∨ _
      rcases codeAmong_one (pos := pos) (a := lpos.line) (b := lpos.col) (c := .ref c') with y | y
      · exact .inl y
      · exact .inr ⟨c', y, upd_same⟩
    · rw [z]
      refine .inr ⟨d, rfl, ?_⟩
      rw [upd_ne (ne_of_none hd' hcn), upd_ne fun y => by rw [y, hP] at hd'; cases hd']
      exact hd'
  · refine PySem.W.kla_makeFunctionHit (mg := X.mg) hcl I.ok.glob hg hcode hd hob tr hf hBA fun ctv h' tk hk hsz => ?_
    exact fin { s with heap := h', toks := tk } H c' ctv (I.kept (t' := tk) hk) hsz hc' ⟨ps, hP, tr, hps⟩ (But.refl _ _)
end
end Far
set_option Elab.async false
set_option linter.all false
set_option maxRecDepth 100000
set_option maxHeartbeats 4000000
namespace Far
open PySem L2 HT PySem.Spec PySem.Calls PyProof.Rows
abbrev cxLam (CX : CXT) (P : Program) (w : World) (K : PySem.W.Frag) (mg : Str → Option Value) (base : Heap) (N : List Str) (env : Env) (A : Around) (outer : List Env) (s : Shared) (H : Hp) (E : XK) : Cx where
  prog := P
  w := w
  K := K
  mg := mg
  base := base
  A := A.deeper env
  N := N
  s_0 := s
  H_0 := H
  env := env
  outer := outer
  stack := env :: outer
  ex := []
  fn := fun _ => false
  calm := true
  pn := []
  xe := fun e s' => wpAny (model P w) (A.deeper env) (leaving env e) (fun _ s'' => CX outer H s E e s'') (fun e' s'' => CX outer H s E e' s'') s'
abbrev lamEnv (qual : Str) (scope : Scope) (s : Shared) (f c : Addr) (cl : List (Str × Addr)) : Env := PySem.W.envX qual scope s.heap.objs.size f (.ref c) cl
theorem passL {P : Program} {w : World} {K : PySem.W.Frag} {mg : Str → Option Value} {base : Heap} {N : List Str} {qual : Str} {scope : Scope} {f c : Addr} {cl : List (Str × Addr)} {A : Around} {outer : List Env} {s : Shared} {H : Hp} {E E' : XK} (hE : ∀ v d H', E' v d H' → E v d H') :
    Passes (CX2 P w) (cxLam (CX2 P w) P w K mg base N (lamEnv qual scope s f c cl) A outer s H E) E' := by
  intro pins σ1 H1 s1 ev s' I1 ⟨a, C, H', he, F, q⟩
  subst he
  obtain ⟨os, bare, un, hok, new, nt, B, t, hfl, hB⟩ := F
  have hL0 : s.heap.get? s.heap.objs.size = none := Heap.get?_none_of_le (Nat.le_refl _)
  have hLt : ∃ o, s1.heap.get? s.heap.objs.size = some o := by
    obtain ⟨m, ⟨o, _, _, ho, _⟩, _⟩ := I1.loc
    exact ⟨o, ho⟩
  obtain ⟨oL, hoL⟩ := hLt
  have un' : Un (s.heap.objs.size :: frs outer) [] H1 H' s1.heap s'.heap := un
  have u12 : Un (frs outer) [] H H' s.heap s'.heap := un_cut (show Un (frs outer) [] H H1 s.heap s1.heap from I1.base) un' hL0
  have nL : H' s.heap.objs.size = none := un'.free _ oL hoL I1.free (by simp)
  have nf : ∀ b ∈ frs outer, H' b = none := fun b hb => by
    obtain ⟨_, o, ho, _⟩ := I1.ok.funs.mem hb
    exact u12.free b o ho (I1.ok.frf b hb) (by simp)
  have hfl' : Heap.FlyingW B (lamEnv qual scope s f c cl :: outer) a (.ref C) (.ref t) s'.heap := hfl
  have hB' : ∀ b o, ((s.heap.get? b).isSome = true ∨ (H' b).isSome = true) → b ∉ frs outer → s'.heap.get? b = some o → B.get? b = some o := fun b o hb hn e => by
    refine hB b o ?_ (fun z => ?_) e
    · rcases hb with hb | hb
      · obtain ⟨o', ho'⟩ := Option.isSome_iff_exists.mp hb
        obtain ⟨o2, ho2⟩ := I1.base.there b o' ho' (by show b ∉ ([] : List Addr); simp)
        exact .inl (by rw [ho2]; rfl)
      · exact .inr hb
    · rcases List.mem_cons.mp (show b ∈ s.heap.objs.size :: frs outer from z) with z | z
      · rcases hb with hb | hb
        · rw [z, hL0] at hb; cases hb
        · rw [z, nL] at hb; cases hb
      · exact hn z
  show wpAny (model P w) (A.deeper (lamEnv qual scope s f c cl)) (leaving (lamEnv qual scope s f c cl) (.ref a)) (fun _ s'' => CX2 P w outer H s E (.ref a) s'') (fun e' s'' => CX2 P w outer H s E e' s'') s'
  refine wpAny_mono (wpAny_kd (KD.leaving _ _) (wpAny_leaves_onW (L := s.heap.objs.size) (Q := fun _ s2 => ∃ h', s2 = { s' with heap := h' } ∧ Heap.FlyingW B outer a (.ref C) (.ref t) h' ∧ s'.heap.UpToSlots h') I1.ok.frames rfl hfl' fun h' p1 p2 => ⟨h', rfl, p1, p2⟩)) (fun _ s2 ⟨⟨h', e2, x1, x2⟩, dk⟩ => ?_) fun _ _ z => z.1
  subst e2
  have up : ∀ b ∈ frs outer, ∀ o, s'.heap.get? b = some o → ∃ sl, h'.get? b = some { o with slots := sl } := fun b hb o e => by
    obtain ⟨_, o', ho', nfl⟩ := hfl'.2.2.1.mem (List.mem_filterMap.mpr (by
      obtain ⟨env, h1, h2⟩ := List.mem_filterMap.mp hb
      exact ⟨env, List.mem_cons_of_mem _ h1, h2⟩))
    rw [ho'] at e; cases e
    exact x2 b _ ho' nfl
  obtain ⟨u3, k3⟩ := un_go (h2 := h') u12 hok nf hB' x1.1 up
  have nw : s.heap.get? a = none := by
    cases z : s.heap.get? a with
    | none => rfl
    | some o =>
      obtain ⟨o', ho'⟩ := I1.base.there a o z (by show a ∉ ([] : List Addr); simp)
      have : s1.heap.get? a = some o' := ho'
      rw [new] at this; cases this
  have hdk : ∀ (dx : Addr) (o1 : Obj), s'.heap.get? a = some o1 → o1.dict = some dx → ∃ oe, h'.get? a = some oe ∧ oe.dict = some dx := fun dx o1 g1 e1 => by
    obtain ⟨oe, heo, _⟩ := x1.there
    exact ⟨oe, heo, (dk.dict g1 heo).trans e1⟩
  refine ⟨a, C, H', rfl, ⟨os.trans I1.os, bare, u3, k3, nw, nt, B, t, x1, fun b o hb hn e => ?_⟩, q.elim (fun z => .inl (hE _ _ _ z)) fun ⟨dx, ⟨o1, g1, e1⟩, n1, z⟩ => .inr ⟨dx, hdk dx o1 g1 e1, n1, hE _ _ _ z⟩⟩
  by_cases hz : ∃ o', s'.heap.get? b = some o'
  · obtain ⟨o', ho'⟩ := hz
    have q1 := hB' b o' hb hn ho'
    have q2 := x1.1 b o' q1
    change h'.get? b = some o at e
    rw [q2] at e; cases e
    exact q1
  · refine absurd ?_ hz
    rcases hb with hb | hb
    · obtain ⟨o', ho'⟩ := Option.isSome_iff_exists.mp hb
      exact u12.there b o' ho' (by simp)
    · obtain ⟨o', ho'⟩ := Option.isSome_iff_exists.mp hb
      exact there_of (hok b o' ho')
theorem lam_ok {CX : CXT} {P : Program} {w : World} {K : PySem.W.Frag} {mg : Str → Option Value} {base : Heap} {N : List Str} {σ : L2.St} {k : Nat} {qual : Str} {params : Arguments} {body : Expr} {scope : Scope} {cl : List (Str × Addr)} {pm ctv : Value} {f c' : Addr} {te : XK → TE}
    (hf : base.get? f = some (PySem.W.kla_obj "<lambda>" qual params body scope cl pm c' ctv)) (hk : scope.kind = .function) (hco : scope.isCoroutine = false) (hgen : scope.isGenerator = false) (hnl : ∀ y ∈ scope.names, y.2 ≠ .local ∧ y.2 ≠ .cell)
    (hhas : ∀ x, scope.names.lookup x = some .free → ∃ c, cl.lookup x = some c) (hinj : ∀ x y c, cl.lookup x = some c → cl.lookup y = some c → x = y) (hcell : ∀ x c, cl.lookup x = some c → ∃ v, base.IsCell c v)
    (hvis : ∀ (i : Nat) (x : Str) (v : V), N[i]? = some x → σ[i]? = some (some v) → scope.names.lookup x = some .free → ∃ u c, RelV v u ∧ cl.lookup x = some c ∧ base.IsCell c (some u)) (hlen : σ.length = N.length)
    (hbody : ∀ (A : Around) (outer : List Env) (s : Shared) (H : Hp) (E : XK), Room k (A.deeper (lamEnv qual scope s f c' cl)) → PE (cxLam CX P w K mg base N (lamEnv qual scope s f c' cl) A outer s H E) body (te E)) :
    FnOk P w K mg base CX (k + 1) f (PySem.W.kla_fn "<lambda>" qual params body scope cl pm (.ref c') ctv) [] (fun vs H Q E => vs = [] ∧ H c' = some (.ext (IsCode c' qual)) ∧ te E σ H Q) := by
  refine ⟨fun vs H Q E h => by rw [h.1]; rfl, fun A outer s H args us vs Q E hr e0 hb r ⟨hv, hc, hq⟩ => ?_⟩
  subst hv
  cases r
  have bk : ∀ b o, base.get? b = some o → s.heap.get? b = some o := fun b o e => (e0.bs b o e).1
  have lim : s.heap.NoLimit := e0.mod.nolimit.keeps bk
  have hcd : s.heap.CodeRec (.ref c') qual := (e0.hok c' _ hc).1
  refine PySem.W.kla_callFunE hr.depth (bk _ _ hf) rfl hco hgen rfl hcd (hb _ _ _ _ ?_)
  refine wpAny_newFunctionEnv (fun y hy => (hnl y hy).2) (fun y hy => by cases hy) (fun h₁ hns hsb => ⟨lim.keeps fun b o e => hsb.extBut b o (Nat.ne_of_lt (Heap.lt_size e)) (Heap.get?_push_of_some _ e), ?_⟩) hk
  show codeAny _ _ (.expr body (lamEnv qual scope s f c' cl)) _ _
  have hk1 : ∀ b o, s.heap.get? b = some o → h₁.get? b = some o := fun b o e => hsb.extBut b o (Nat.ne_of_lt (Heap.lt_size e)) (Heap.get?_push_of_some _ e)
  have I : Inv (cxLam CX P w K mg base N (lamEnv qual scope s f c' cl) A outer s H E) [] σ H { s with heap := h₁, toks := s.toks + 0 } := by
    refine ⟨⟨e0.mod, hk, rfl, rfl, Nat.le_refl _, hinj, fun y hy => ?_, (fun y c z _ => by cases z), fun _ => (hr.deeper _).hd, Around.frames_deeper e0.frames, .inr ⟨rfl, rfl⟩, (fun b z => by cases z), e0.bs, e0.bsz, (fun b _ _ z => by cases z), (fun b z => by cases z), e0.funs, e0.frf⟩,
      rfl, e0.bare, Un.kept hk1, ⟨_, hns, fun i x v h1 h2 h3 => ?_⟩, fun y c h => ?_, e0.hok.fresh (Nat.le_refl _), fun y c h => ?_, (fun p hp => by cases hp), e0.hok.kept hk1, hlen⟩
    · have hy : scope.names.lookup y = some .cell ∨ scope.names.lookup y = some .free := hy
      rcases hy with hy | hy
      · exact absurd rfl (hnl _ (PySem.mem_of_lookup hy)).2
      · exact hhas y hy
    · have h3 : Vis scope x := h3
      rcases h3 with h3 | h3 | h3
      · exact absurd rfl (hnl _ (PySem.mem_of_lookup h3)).1
      · exact absurd rfl (hnl _ (PySem.mem_of_lookup h3)).2
      · obtain ⟨u, c, r, hl, z⟩ := hvis i x v h1 h2 h3
        exact ⟨u, r, .inr ⟨.inr h3, c, hl, (z.keeps bk).keeps hk1⟩⟩
    · obtain ⟨v, z⟩ := hcell y c h
      exact ⟨v, (z.keeps bk).keeps hk1⟩
    · obtain ⟨v, o, ho, _⟩ := hcell y c h
      exact (e0.bs _ _ ho).2
  refine PySem.W.kla_codeExpr (wpAny_mono (hbody A outer s H E (hr.deeper _) [] _ σ H Q I hq) (fun v s' ⟨v', H', J, r, q⟩ => ?_) fun e s' z => z)
  exact ⟨v', H', J.os, J.bare, J.base, J.hok, r, q⟩
structure FnAt (base : Heap) (f : Addr) (fd : FuncData) : Prop where
  ob : base.get? f = some { cls := .type "function", data := .func fd }
  bi : ∀ s, BindsTo s fd ⟨[], []⟩ []
def tCallLam (P : Program) (w : World) (K : PySem.W.Frag) (mg : Str → Option Value) (bm : Addr) (k : Nat) (T : Addr) (qual : Str) (sp : Heap → Sp) (te : XK → TE) : TE := fun σ H Q => LamT H T qual ∧ ∀ (base : Heap) (f c : Addr) (fd : FuncData) (H1 : Hp),
  But T H H1 → LamT H1 T qual → H1 c = some (.ext (IsCode c qual)) → Mod K mg base → BltMod base mg bm → FnAt base f fd → FnOk P w K mg base (CX2 P w) (k + 1) f fd [] (fun vs H Q E => vs = [] ∧ H c = some (.ext (IsCode c qual)) ∧ te E σ H Q) → sp base [.ref f] H1 Q (fun _ _ _ => False)
theorem pe_callLam {X : Cx} {k kW : Nat} {x a : Str} {fW c T bm : Addr} {fdW : FuncData} {spW : Heap → Sp} {qual : Str} {params : Arguments} {body : Expr} {scope osc : Scope} {lpos p pos : Pos} {te : XK → TE} (B : BltMod X.base X.mg bm)
    (FW : ∀ base, Mod X.K X.mg base → BltMod base X.mg bm → FnOk X.prog X.w X.K X.mg base CX0 kW fW fdW [a] (spW base)) (hr : Room kW X.A) (hg : Gl X x) (hm : X.mg x = some (.ref fW)) (hkp : PySem.W.keepIn X.K (.ref fW) = true) (hb : Binds X.K fdW [a] []) (hN : X.N.Nodup)
    (hcode : X.env.code = .ref c) (hK : PySem.W.codeHdIn X.K c T = true) (hq : X.env.qual ++ "<lambda>" = qual) (hfn : X.fn = fun _ => true)
    (hosc : X.env.scope = osc) (hfree : ∀ y ∈ scope.names, y.2 = .free → osc.names.lookup y.1 = some .cell) (hdef : defaultsOf params X.env = ([], []))
    (hk : scope.kind = .function) (hco : scope.isCoroutine = false) (hgen : scope.isGenerator = false) (hnl : ∀ y ∈ scope.names, y.2 ≠ .local ∧ y.2 ≠ .cell) (hbi : ∀ cl pm c' ctv, bindArgs (PySem.W.kla_fn "<lambda>" qual params body scope cl pm c' ctv) ⟨[], []⟩ = pure [])
    (he : ∀ (base : Heap), Mod X.K X.mg base → BltMod base X.mg bm → ∀ (f c' : Addr) (cl : List (Str × Addr)) (A : Around) (outer : List Env) (s : Shared) (H : Hp) (E : XK), Room k (A.deeper (lamEnv qual scope s f c' cl)) →
      PE (cxLam (CX2 X.prog X.w) X.prog X.w X.K X.mg base X.N (lamEnv qual scope s f c' cl) A outer s H E) body (te E))
    (hdb : (x == ("__debug__" : Str)) = false := by decide) (hst : starEach [.Lambda params body scope lpos] X.env = [(false, eval (.Lambda params body scope lpos) X.env)] := by rfl) :
    PE X (.Call (.Name x p) [.Lambda params body scope lpos] [] pos) (tCallLam X.prog X.w X.K X.mg bm k T qual spW te) := by
  subst hosc
  intro pins s σ H Q I ⟨hT, h⟩
  refine wpAny_Call_Name_kw (ld_glob I hg hm ?_ hdb)
  refine PySem.W.callWith_K (h₀ := X.base) I.ok.mod.kin hkp (thn (Q := fun us s1 => ∃ f H1, us = [.ref f] ∧ Inv X pins σ H1 s1 ∧ wpAny (model X.prog X.w) X.A (call (.ref fW) [.ref f]) (EP X pins σ Q) X.xe s1) ?_ fun us s1 ⟨f, H1, e, I1, q⟩ => ⟨I1.kIn, by subst e; exact q⟩) hst (by rfl)
  rw [hst]
  refine Calls.spliced_cons (lam_made I B hcode hK hq hfree hdef hT fun f c' ctv pm s1 H1 I1 hf hn hnf hc' T1 b1 => Calls.spliced_nil ⟨f, H1, rfl, I1, ?_⟩)
  have hbf := baseL_get (X := X) hf hn hnf
  have cfr : ∀ y cc, X.env.cells.lookup y = some cc → ∀ {v}, s1.heap.IsCell cc v → (baseL X H1 s1.heap).IsCell cc v := fun y cc e v ⟨o, ho, hd⟩ => by
    refine ⟨o, baseL_get ho (I1.freeC y cc e) fun hb => ?_, hd⟩
    rcases List.mem_cons.mp (I1.stkSub cc hb) with z | z
    · exact I1.cne y cc e z
    · obtain ⟨_, o2, ho2, _⟩ := I1.ok.funs.mem z
      exact absurd (Nat.lt_of_lt_of_le (Heap.lt_size ho2) (I1.ok.cab y cc (by rw [hfn]) e)) (Nat.lt_irrefl _)
  have hfr : ∀ y ∈ scope.names, y.2 = .free → ∃ cc, X.env.cells.lookup y.1 = some cc := fun y hy e => I1.ok.has _ (.inl (hfree y hy e))
  have cm : ∀ {y cc}, (cloFrom X.env.cells scope.names []).lookup y = some cc → X.env.cells.lookup y = some cc ∧ (y, NameKind.free) ∈ scope.names := fun {y cc} e => by
    rcases cloFrom_mem (PySem.mem_of_lookup e) with hm | ⟨h1, rfl⟩
    · cases hm
    · obtain ⟨c2, hc2⟩ := hfr _ h1 rfl
      rw [hc2]
      exact ⟨rfl, h1⟩
  have look : ∀ {y}, scope.names.lookup y = some .free → ∃ cc, (cloFrom X.env.cells scope.names []).lookup y = some cc ∧ X.env.cells.lookup y = some cc := fun {y} hl => by
    obtain ⟨c2, e2⟩ := mem_lookup (cloFrom_has (cells := X.env.cells) (acc := []) (PySem.mem_of_lookup hl))
    exact ⟨c2, e2, (cm e2).1⟩
  have hL := lam_ok (CX := CX2 X.prog X.w) (P := X.prog) (w := X.w) (K := X.K) (mg := X.mg) (N := X.N) (σ := σ) (k := k) (te := te) hbf hk hco hgen hnl (fun y hy => let ⟨cc, e, _⟩ := look hy; ⟨cc, e⟩) (fun y z cc e1 e2 => I1.ok.inj y z cc (cm e1).1 (cm e2).1)
    (fun y cc e => let ⟨v, z⟩ := I1.cell y cc (cm e).1; ⟨v, cfr y cc (cm e).1 z⟩) (fun i y v e1 e2 e3 => by
      obtain ⟨m', hn', hl⟩ := I1.loc
      have hcell := hfree _ (PySem.mem_of_lookup e3) rfl
      obtain ⟨u, r, q⟩ := hl i y v e1 e2 (.inr (.inl hcell))
      obtain ⟨cc, h1, h2⟩ := look e3
      rcases q with ⟨k', _⟩ | ⟨_, c2, e', z⟩
      · have k' : X.env.scope.names.lookup y = some .local := k'
        rw [hcell] at k'; cases k'
      · rw [h2] at e'; cases e'
        exact ⟨u, cc, r, h1, cfr y cc h2 z⟩) I1.len
    (fun A outer s' H' E hr' => he _ (mod_baseL I1) (blt_baseL I1 B) f c' _ A outer s' H' E hr')
  have hsp := h _ f c' _ H1 b1 T1 hc' (mod_baseL I1) (blt_baseL I1 B) ⟨hbf, fun s' => .of_eq (hbi _ _ _ _)⟩ hL
  have F := FW _ (mod_baseL I1) (blt_baseL I1 B)
  refine wpAny_call (codeAny_mono (F.run X.A X.stack s1 H1 ⟨[.ref f], []⟩ [.ref f] [.ref f] Q (fun _ _ _ => False) hr (env_baseL I1) (hb s1 [.ref f] I1.kIn rfl) (.cons rfl .nil) hsp) fun r s' hq => ?_)
  cases r with
  | error e => exact pass0 (X := X) pins σ H1 s1 e s' I1 hq
  | ok fl =>
    cases fl with
    | ret u => exact I1.after hq
    | next => exact False.elim hq
    | brk => exact False.elim hq
    | cont => exact False.elim hq
def tCallV (P : Program) (w : World) (K : PySem.W.Frag) (mg : Str → Option Value) (base : Heap) (k i : Nat) (E : L2.St → XK) : TE := fun σ H Q => ∃ f fd sp, σ[i]? = some (some (.ref f)) ∧ FnAt base f fd ∧ FnOk P w K mg base (CX2 P w) k f fd [] sp ∧ sp [] H Q (E σ)
theorem pe_callV {X : Cx} {P : Program} {w : World} {K : PySem.W.Frag} {mg : Str → Option Value} {base : Heap} {k : Nat} {E : L2.St → XK} (i : Nat) {x : Str} {p pos : Pos} (hX : X.prog = P ∧ X.w = w ∧ X.K = K ∧ X.mg = mg ∧ X.base = base) (hr : Room k X.A) (hx : PassesS (CX2 X.prog X.w) X E) (hv : PE X (.Name x p) (tVar i)) :
    PE X (.Call (.Name x p) [] [] pos) (tCallV P w K mg base k i E) := by
  obtain ⟨rfl, rfl, rfl, rfl, rfl⟩ := hX
  intro pins s σ H Q I ⟨f, fd, sp, hσ, hf, F, hsp⟩
  refine wpAny_Call_Name_kw (thn (hv pins s σ H (fun v H' => v = .ref f ∧ H' = H) I ⟨_, hσ, rfl, rfl⟩) fun u s1 ⟨v, H1, I1, r, e1, e2⟩ => ?_)
  subst e1 e2
  cases (show u = Value.ref f from r)
  refine PySem.W.callWith_of (P := fun h => h.get? f = some { cls := .type "function", data := .func fd }) rfl (fun h hh => ⟨.frame, .inl rfl, (PySem.W.Looks.ld (part := none) hh).andThen .now⟩) (evalArgs_nil3 ⟨I1.bk _ _ hf.ob, ?_⟩)
  refine wpAny_call (codeAny_mono (F.run X.A X.stack s1 H1 ⟨[], []⟩ [] [] Q (E σ) hr I1.env0 (hf.bi s1) .nil hsp) fun r s' hq => ?_)
  cases r with
  | error e => exact hx pins σ H1 s1 e s' I1 hq
  | ok fl =>
    cases fl with
    | ret u => exact I1.after hq
    | next => exact False.elim hq
    | brk => exact False.elim hq
    | cont => exact False.elim hq
end Far
set_option Elab.async false
set_option linter.all false
set_option maxRecDepth 100000
set_option maxHeartbeats 4000000
namespace Far
open PySem L2 HT PySem.Spec PySem.Calls PyProof.Rows
def rReprV (K : PySem.W.Frag) : List V → Hp → VK → Prop := fun vs H Q => ∃ v d, vs = [v] ∧ Dp K H v d ∧ (d.showable = true ∧ d.hasDict = false ∧ d.depth ≤ 60 ∧ d.shown.length ≤ sizeLine) ∧ Q (.str d.shown) H
theorem cr_reprV {X : Cx} {k : Nat} (hr : Room k X.A) : CallR X (.builtin "repr") (rReprV X.K) := by
  intro pins s σ H vs us Q I r h
  obtain ⟨v, d, rfl, hd, ⟨hs, hnd, hdp, hz⟩, q⟩ := h
  obtain ⟨u, rfl, ru⟩ := Vals.one r
  cases v with
  | ref a => exact cr_repr hr pins s σ H _ _ Q I (.cons ru .nil) ⟨a, d, rfl, hd, hs, hnd, hdp, hz, q⟩
  | non =>
    cases hd
    cases ru
    exact P.repr_of_none ⟨.str _, H, I.tok _, ⟨_, rfl⟩, q⟩
  | bl b =>
    cases hd
    cases ru
    refine P.repr_of_bool ⟨.str _, H, I.tok _, ⟨_, rfl⟩, ?_⟩
    cases b <;> exact q
  | int i =>
    cases hd
    obtain ⟨t, rfl⟩ := ru
    refine P.repr_of_int (by simpa only [PyData.showable, decide_eq_true_eq] using hs) ⟨.str _, H, I.tok _, ⟨_, rfl⟩, ?_⟩
    simpa only [PyData.shown] using q
  | str x =>
    cases hd
    obtain ⟨t, rfl⟩ := ru
    refine P.repr_of_str ⟨.str _, H, I.tok _, ⟨_, rfl⟩, ?_⟩ (by simpa only [PyData.shown] using hz)
    simpa only [PyData.shown] using q
  | _ => cases hd
end Far
set_option Elab.async false
set_option linter.all false
set_option maxRecDepth 100000
set_option maxHeartbeats 4000000
namespace Far
open PySem L2
def rCountB (K : PySem.W.Frag) : V → List V → Hp → VK → Prop := fun x xs H Q => ∃ (a : Addr) (bs : List Bool) (b : Bool), x = V.ref a ∧ xs = [.bl b] ∧ SqL K H a (bs.map V.bl) ∧ Q (natV (bs.count b)) H
def isBl (b : Bool) : Value → Bool
  | .bool c => c == b
  | _ => false
section
variable {X : Cx}
theorem count_bl {b : Bool} : ∀ {bs : List Bool} {its : List Value}, Vals (bs.map V.bl) its → its.countP (isBl b) = bs.count b
  | [], _, r => by cases r; rfl
  | c :: bs, _, r => by
    cases r with
    | cons r1 rs =>
      rw [List.countP_cons, List.count_cons, count_bl rs]
      rw [show _ = Value.bool c from r1]
      rfl
theorem mt_lcountB (hu : X.A.units + 66 < cLine) : MtR X "list.count" (rCountB X.K) := by
  intro pins s σ H x xs v us Q I rx rxs h
  obtain ⟨a, bs, b, rfl, rfl, hs, q⟩ := h
  cases rx
  obtain ⟨uy, rfl, ry⟩ := Vals.one rxs
  cases ry
  obtain ⟨its, rv, ⟨⟨cls, dd, data, sl⟩, n, ho, hc, hdn, hd⟩, hlen⟩ := I.list hs
  simp only at hc hd
  subst hc hd
  have hvl := rv.length
  refine call_meets PySem.F.slot_list_count ⟨_, ho, rfl⟩ PySem.F.entry_list_count (PySem.F.args_list_count_2 _ _)
    (SeqAt.list_countAt a its.toArray n dd sl (.bool b) (isBl b)) ⟨ho, fun u' hu' => ?_, ?_⟩
  · have hm : u' ∈ its := by simpa using hu'
    obtain ⟨i, hi⟩ := List.getElem?_of_mem hm
    have hil := (List.getElem?_eq_some_iff.mp hi).1
    have hil2 : i < (bs.map V.bl).length := by rw [hvl]; exact hil
    obtain ⟨u2, hu2, r2⟩ := rv.get (List.getElem?_eq_getElem hil2)
    rw [hi] at hu2
    cases hu2
    have hib : i < bs.length := by rw [List.length_map] at hil2; exact hil2
    rw [List.getElem_map] at r2
    obtain ⟨c, hc⟩ : ∃ c, c = bs[i] := ⟨_, rfl⟩
    rw [← hc] at r2
    obtain rfl : u' = Value.bool c := r2
    have e : isBl b (.bool c) = PyData.eqv (.bool c) (.bool b) := by
      show (c == b) = _
      cases c <;> cases b <;> decide +kernel
    rw [e]
    have := SeqAt.eqAt_reads (.bool c) (.bool b) X.A.in1 s (.bool c) (.bool b) [] _ (Reads.bool c) (Reads.bool b) (SeqAt.canLay_of_shaped (by cases c <;> decide +kernel)) (SeqAt.canLay_of_shaped (by cases b <;> decide +kernel)) (by
      have h2 : min (PyData.bool c).depth (PyData.bool b).depth ≤ (PyData.bool b).depth := Nat.min_le_right _ _
      have h3 : (PyData.bool b).depth ≤ 60 := by cases b <;> decide +kernel
      show X.A.units + 1 + min (PyData.bool c).depth (PyData.bool b).depth < cLine
      omega)
    first
      | exact this
      | exact fun prog w E Q hq => this prog w E Q hq
  · refine ⟨natV (bs.count b), H, I.tok _, ⟨s.toks, ?_⟩, q⟩
    rw [show its.toArray.toList = its from rfl, count_bl rv]
end
def wordsL : List Str := ["turn", "order", "size", "back", "job", "yard", "line", "text"]
structure Kinds (K : PySem.W.Frag) (CF : Addr) (cs : List Addr) (C : Addr) (j : Nat) : Prop where
  len : cs.length = 8
  lt : j < 8
  xi : XI2 K C
  sub : subIn K C CF = true
  ve : PySem.W.kitOne K (.ref C) (.type "ValueError") = some true
  at_ : ∀ i c, cs[i]? = some c → PySem.W.kitOne K (.ref C) (.ref c) = some (decide (i = j))
def wordE (K : PySem.W.Frag) (CF : Addr) (cs : List Addr) (Q : VK) : XK := fun v d H' => ∃ C j, v = .ref C ∧ Kinds K CF cs C j ∧
  ((j = 0 ∧ XO K C ∧ NoAttr K C "place" ∧ ∃ dx i, d = some dx ∧ H' dx = some (.xd [("place", .int i)]) ∧ ∀ H2, Same H' H2 → Q (.int i) H2) ∨ (0 < j ∧ ∀ H2 w, wordsL[j]? = some w → Same H' H2 → Q (.str w) H2))
def spWord (P : Program) (w : World) (K : PySem.W.Frag) (CF : Addr) (cs : List Addr) (base : Heap) (mg : Str → Option Value) (k : Nat) : Sp := fun vs H Q _ => ∃ f fd sp, vs = [.ref f] ∧ FnAt base f fd ∧ FnOk P w K mg base (CX2 P w) k f fd [] sp ∧
  ∀ (Q' : VK) (E' : XK), (∀ v H', Q (.str "told") H' → Q' v H') → (∀ v d H', wordE K CF cs Q v d H' → E' v d H') → sp [] H Q' E'
end Far
set_option Elab.async false
set_option linter.all false
set_option maxRecDepth 100000
set_option maxHeartbeats 4000000
set_option pp.maxSteps 500
namespace Far
open PySem L2
abbrev n_word : List Str := ["call", "caught", "e", "kinds"]
theorem sc_word : FnScope n_word ["call"] (defScope sWord) := ⟨rfl, rfl, rfl, by decide +kernel, rfl, by decide +kernel, by decide +kernel⟩
def kb (j : Nat) (l : List Nat) : List V := l.map fun i => V.bl (decide (i = j))
theorem kb_count {j : Nat} (h : j < 8) : (([0, 1, 2, 3, 4, 5, 6, 7] : List Nat).map fun i => decide (i = j)).count true = 1 := by
  have : ∀ j, j < 8 → (([0, 1, 2, 3, 4, 5, 6, 7] : List Nat).map fun i => decide (i = j)).count true = 1 := by decide +kernel
  exact this j h
theorem eight_at {j m : Nat} (h : m < 8) : (([0, 1, 2, 3, 4, 5, 6, 7] : List Nat).map fun i => V.bl (decide (i = j)))[m]? = some (V.bl (decide (m = j))) := by
  have e : ∀ m, m < 8 → ([0, 1, 2, 3, 4, 5, 6, 7] : List Nat)[m]? = some m := by decide +kernel
  rw [List.getElem?_map, e m h]
  rfl
section
variable {P : Program} {w : World} {K : PySem.W.Frag} {mg : Str → Option Value} {base : Heap} {C : Addr}
theorem ok_word {kk : Nat} {f : Addr} {fd : FuncData} (F : Fun K "_law_word" "_law_word" sWord f fd) (T : TxtC K mg C) {CF c0_ c1_ c2_ c3_ c4_ c5_ c6_ c7_ : Addr} (xF : XC K CF) (mF : mg "FarError" = some (.ref CF)) (mV : mg "ValueError" = none)
    (m0_ : mg "NoTurn" = some (.ref c0_)) (m1_ : mg "NoOrder" = some (.ref c1_)) (m2_ : mg "NoSize" = some (.ref c2_)) (m3_ : mg "NoBack" = some (.ref c3_)) (m4_ : mg "NoJob" = some (.ref c4_)) (m5_ : mg "NoYard" = some (.ref c5_)) (m6_ : mg "NoLine" = some (.ref c6_)) (m7_ : mg "NoText" = some (.ref c7_)) :
    FnOk P w K mg base CX0 (kk + 1) f fd ["call"] (spWord P w K CF [c0_, c1_, c2_, c3_, c4_, c5_, c6_, c7_] base mg kk) := by
  refine F.ok sc_word (fun vs H Q E h => ?_) (fun cdv Ar outer s H vs Q E hr h => ?_)
  · obtain ⟨f, fd, sp, rfl, _⟩ := h
    rfl
  · obtain ⟨fl, fd, sp, rfl, hfa, hfn, hsp⟩ := h
    refine ⟨_, (pss_cons (ps_set (i := 1) sc_word.nd rfl (Or.inl rfl) pe_non) (pss_cons (ps_tryD rfl rfl xF rfl mF sc_word.nd (i := 2) rfl rfl (fun pn xe E hx => pss_one (ps_expr (pe_callV (P := P) (w := w) (K := K) (mg := mg) (base := base) 0 ⟨rfl, rfl, rfl, rfl, rfl⟩ hr hx (pv 0)))) (fun A_ xe => pss_one (ps_set (i := 1) sc_word.nd rfl (Or.inl rfl) (pv 2)))) (pss_cons (ps_if (pt_cmpR op_isN (pv 1) pe_non (nomark _)) (pss_one (ps_ret pe_str)) pss_nil) (pss_cons (ps_set (i := 3) sc_word.nd rfl (Or.inl rfl) (pe_lst (pa_cons (pe_callB cr_isC rfl T.isinstance (by decide +kernel) (pa_cons (pv 1) (pa_cons (pe_glob (v := .ref c0_) rfl m0_ rfl) pa_nil))) (pa_cons (pe_callB cr_isC rfl T.isinstance (by decide +kernel) (pa_cons (pv 1) (pa_cons (pe_glob (v := .ref c1_) rfl m1_ rfl) pa_nil))) (pa_cons (pe_callB cr_isC rfl T.isinstance (by decide +kernel) (pa_cons (pv 1) (pa_cons (pe_glob (v := .ref c2_) rfl m2_ rfl) pa_nil))) pa_nil))))) (pss_cons (ps_set (i := 3) sc_word.nd rfl (Or.inl rfl) (pe_op op_cat (pv 3) (pe_lst (pa_cons (pe_callB cr_isC rfl T.isinstance (by decide +kernel) (pa_cons (pv 1) (pa_cons (pe_glob (v := .ref c3_) rfl m3_ rfl) pa_nil))) (pa_cons (pe_callB cr_isC rfl T.isinstance (by decide +kernel) (pa_cons (pv 1) (pa_cons (pe_glob (v := .ref c4_) rfl m4_ rfl) pa_nil))) (pa_cons (pe_callB cr_isC rfl T.isinstance (by decide +kernel) (pa_cons (pv 1) (pa_cons (pe_glob (v := .ref c5_) rfl m5_ rfl) pa_nil))) pa_nil)))))) (pss_cons (ps_set (i := 3) sc_word.nd rfl (Or.inl rfl) (pe_op op_cat (pv 3) (pe_lst (pa_cons (pe_callB cr_isC rfl T.isinstance (by decide +kernel) (pa_cons (pv 1) (pa_cons (pe_glob (v := .ref c6_) rfl m6_ rfl) pa_nil))) (pa_cons (pe_callB cr_isC rfl T.isinstance (by decide +kernel) (pa_cons (pv 1) (pa_cons (pe_glob (v := .ref c7_) rfl m7_ rfl) pa_nil))) pa_nil))))) (pss_cons (ps_if (PW.pt (pw_or (pt_not (pt_val (pe_callB cr_isC rfl T.isinstance (by decide +kernel) (pa_cons (pv 1) (pa_cons (pe_bltn (v := .ty "ValueError") rfl mV (by decide +kernel) rfl) pa_nil))))) (pw_or1 (pt_cmpR op_ne (pe_bm PySem.F.plainAttrs_list PySem.F.slot_list_count PySem.F.type_list_count (mt_lcountB (hu66 hr)) (pv 3) (pa_cons pe_bl pa_nil)) pe_int (nomark _))))) (pss_one (ps_ret pe_str)) pss_nil) (pss_cons (ps_if (pt_val (pe_ix ix_list (pv 3) pe_int (fun _ _ => rfl))) (pss_one (ps_ret (pe_xfld (pv 1) rfl))) pss_nil) (pss_one (ps_ret (pe_ix ix_list (pe_lst (pa_cons pe_str (pa_cons pe_str (pa_cons pe_str (pa_cons pe_str (pa_cons pe_str (pa_cons pe_str (pa_cons pe_str (pa_cons pe_str pa_nil))))))))) (pe_bm PySem.F.plainAttrs_list PySem.F.slot_list_index PySem.F.type_list_index mt_index (pv 3) (pa_cons pe_bl pa_nil)) (fun _ _ => rfl)))))))))))), ?_⟩
    refine ⟨fl, fd, sp, rfl, hfa, hfn, hsp _ _ (fun v H1 q => ?_) (fun v d H1 q => ?_)⟩
    · refine ⟨_, rfl, rfl, _, rfl, ?_⟩
      exact iteT q
    · obtain ⟨C0, j, rfl, kd, q⟩ := q
      have hj := kd.lt
      refine ⟨C0, rfl, kd.xi.xk, kd.sub, fun a na => ?_⟩
      refine ⟨_, rfl, ?_⟩
      have s2 : Same H1 (upd H1 a (.ext (XCau C0 a d))) := same_new na _
      have ha : (upd H1 a (.ext (XCau C0 a d))) a = some (.ext (XCau C0 a d)) := upd_same
      generalize upd H1 a (.ext (XCau C0 a d)) = H2 at *
      refine ⟨_, rfl, rfl, _, rfl, ?_⟩
      refine iteF ?_
      refine ⟨_, rfl, a, C0, d, _, _, _, rfl, ha, kd.xi, rfl, kd.at_ 0 _ rfl, _, rfl, a, C0, d, _, _, _, rfl, ha, kd.xi, rfl, kd.at_ 1 _ rfl, _, rfl, a, C0, d, _, _, _, rfl, ha, kd.xi, rfl, kd.at_ 2 _ rfl, (by show 3 ≤ sizeLine; decide), fun L1 e1 => ?_⟩
      have t1 := same_new e1 (.lst [V.bl (decide (0 = j)), .bl (decide (1 = j)), .bl (decide (2 = j))])
      have g1 : (upd H2 L1 (.lst [V.bl (decide (0 = j)), .bl (decide (1 = j)), .bl (decide (2 = j))])) L1 = some (.lst [V.bl (decide (0 = j)), .bl (decide (1 = j)), .bl (decide (2 = j))]) := upd_same
      have ha3 := t1 _ _ ha
      generalize upd H2 L1 (.lst [V.bl (decide (0 = j)), .bl (decide (1 = j)), .bl (decide (2 = j))]) = H3 at *
      refine ⟨_, rfl, _, rfl, a, C0, d, _, _, _, rfl, ha3, kd.xi, rfl, kd.at_ 3 _ rfl, _, rfl, a, C0, d, _, _, _, rfl, ha3, kd.xi, rfl, kd.at_ 4 _ rfl, _, rfl, a, C0, d, _, _, _, rfl, ha3, kd.xi, rfl, kd.at_ 5 _ rfl, (by show 3 ≤ sizeLine; decide), fun L2 e2 => ?_⟩
      have t2 := same_new e2 (.lst [V.bl (decide (3 = j)), .bl (decide (4 = j)), .bl (decide (5 = j))])
      have g2 : (upd H3 L2 (.lst [V.bl (decide (3 = j)), .bl (decide (4 = j)), .bl (decide (5 = j))])) L2 = some (.lst [V.bl (decide (3 = j)), .bl (decide (4 = j)), .bl (decide (5 = j))]) := upd_same
      have g12 := t2 _ _ g1
      have ha4 := t2 _ _ ha3
      generalize upd H3 L2 (.lst [V.bl (decide (3 = j)), .bl (decide (4 = j)), .bl (decide (5 = j))]) = H4 at *
      refine ⟨L1, L2, _, _, rfl, rfl, g12, g2, (by show 6 ≤ sizeLine; decide), fun L3 e3 => ?_⟩
      have t3 := same_new e3 (.lst ([V.bl (decide (0 = j)), V.bl (decide (1 = j)), V.bl (decide (2 = j))] ++ [V.bl (decide (3 = j)), V.bl (decide (4 = j)), V.bl (decide (5 = j))]))
      have g3 : (upd H4 L3 (.lst ([V.bl (decide (0 = j)), V.bl (decide (1 = j)), V.bl (decide (2 = j))] ++ [V.bl (decide (3 = j)), V.bl (decide (4 = j)), V.bl (decide (5 = j))]))) L3 = some (.lst [V.bl (decide (0 = j)), .bl (decide (1 = j)), .bl (decide (2 = j)), V.bl (decide (3 = j)), .bl (decide (4 = j)), .bl (decide (5 = j))]) := upd_same
      have ha5 := t3 _ _ ha4
      generalize upd H4 L3 (.lst ([V.bl (decide (0 = j)), V.bl (decide (1 = j)), V.bl (decide (2 = j))] ++ [V.bl (decide (3 = j)), V.bl (decide (4 = j)), V.bl (decide (5 = j))])) = H5 at *
      refine ⟨_, rfl, _, rfl, a, C0, d, _, _, _, rfl, ha5, kd.xi, rfl, kd.at_ 6 _ rfl, _, rfl, a, C0, d, _, _, _, rfl, ha5, kd.xi, rfl, kd.at_ 7 _ rfl, (by show 2 ≤ sizeLine; decide), fun L4 e4 => ?_⟩
      have t4 := same_new e4 (.lst [V.bl (decide (6 = j)), V.bl (decide (7 = j))])
      have g4 : (upd H5 L4 (.lst [V.bl (decide (6 = j)), V.bl (decide (7 = j))])) L4 = some (.lst [V.bl (decide (6 = j)), V.bl (decide (7 = j))]) := upd_same
      have g3b := t4 _ _ g3
      have ha6 := t4 _ _ ha5
      generalize upd H5 L4 (.lst [V.bl (decide (6 = j)), V.bl (decide (7 = j))]) = H6 at *
      refine ⟨L3, L4, _, _, rfl, rfl, g3b, g4, (by show 8 ≤ sizeLine; decide), fun L5 e5 => ?_⟩
      have t5 := same_new e5 (.lst ([V.bl (decide (0 = j)), V.bl (decide (1 = j)), V.bl (decide (2 = j)), V.bl (decide (3 = j)), V.bl (decide (4 = j)), V.bl (decide (5 = j))] ++ [V.bl (decide (6 = j)), V.bl (decide (7 = j))]))
      have g5 : (upd H6 L5 (.lst ([V.bl (decide (0 = j)), V.bl (decide (1 = j)), V.bl (decide (2 = j)), V.bl (decide (3 = j)), V.bl (decide (4 = j)), V.bl (decide (5 = j))] ++ [V.bl (decide (6 = j)), V.bl (decide (7 = j))]))) L5 = some (.lst [V.bl (decide (0 = j)), V.bl (decide (1 = j)), V.bl (decide (2 = j)), V.bl (decide (3 = j)), V.bl (decide (4 = j)), V.bl (decide (5 = j)), V.bl (decide (6 = j)), V.bl (decide (7 = j))]) := upd_same
      have ha7 := t5 _ _ ha6
      generalize upd H6 L5 (.lst ([V.bl (decide (0 = j)), V.bl (decide (1 = j)), V.bl (decide (2 = j)), V.bl (decide (3 = j)), V.bl (decide (4 = j)), V.bl (decide (5 = j))] ++ [V.bl (decide (6 = j)), V.bl (decide (7 = j))])) = H7 at *
      have sall : Same H1 H7 := s2.trans (t1.trans (t2.trans (t3.trans (t4.trans t5))))
      have g5c : H7 L5 = some (.lst ((([0, 1, 2, 3, 4, 5, 6, 7] : List Nat).map fun i => decide (i = j)).map V.bl)) := g5
      refine ⟨_, rfl, a, C0, d, _, _, _, rfl, ha7, kd.xi, rfl, kd.ve, _, rfl, ?_⟩
      refine iteF ?_
      refine ⟨_, rfl, .inl ⟨rfl, _, SqL.of g5⟩, L5, _, true, rfl, rfl, SqL.of g5c, ?_⟩
      rw [kb_count hj]
      refine ⟨rfl, _, rfl, ?_⟩
      rw [show decide (natV 1 = V.int 1) = true from decide_eq_true rfl]
      refine iteF ?_
      refine ⟨_, rfl, L5, _, _, _, rfl, rfl, SqL.of g5, atI_nat (j := 0) rfl, _, rfl, ?_⟩
      rcases q with ⟨rfl, xo, na, dx, i, rfl, hx, q⟩ | ⟨h0, q⟩
      · refine iteT ?_
        exact ⟨_, rfl, a, C0, dx, _, _, rfl, ha7, sall _ _ hx, xo, na, lk_eq, q H7 sall⟩
      · rw [decide_eq_false (by omega)]
        refine iteF ?_
        refine ⟨(by show 8 ≤ sizeLine; decide), fun L6 e6 => ?_⟩
        have t6 := same_new e6 (.lst (wordsL.map V.str))
        have g6 : (upd H7 L6 (.lst (wordsL.map V.str))) L6 = some (.lst (wordsL.map V.str)) := upd_same
        have g5d : (upd H7 L6 (.lst (wordsL.map V.str))) L5 = some (.lst (([0, 1, 2, 3, 4, 5, 6, 7] : List Nat).map fun i => V.bl (decide (i = j)))) := t6 _ _ g5
        obtain ⟨w0, hw⟩ : ∃ w0, wordsL[j]? = some w0 := ⟨_, List.getElem?_eq_getElem (show j < wordsL.length from hj)⟩
        refine ⟨_, rfl, .inl ⟨rfl, _, SqL.of g5d⟩, L5, _, _, j, .bl (decide (j = j)), rfl, rfl, SqL.of g5d, rfl, ?_, eight_at hj, by rw [decide_eq_true rfl]; rfl, fun m z' hm hz => ?_, ?_⟩
        · rw [List.all_map]; rfl
        · rw [eight_at (by omega)] at hz
          cases hz
          rw [decide_eq_false (by omega)]
          rfl
        · refine ⟨L6, wordsL.map V.str, _, _, rfl, rfl, SqL.of g6, atI_nat (j := j) (by rw [List.getElem?_map, hw]; rfl), q _ w0 hw (sall.trans t6)⟩
end
end Far
set_option Elab.async false
set_option linter.all false
set_option maxRecDepth 100000
set_option maxHeartbeats 4000000
namespace L2
open PySem PySem.Spec PyProof.Rows
section
variable {P : Program} {w : World} {K : PySem.W.Frag} {mg : Str → Option Value} {base : Heap}
theorem Fun.okC {x qual : Str} {st : Stmt} {f c : Addr} {fd : FuncData} {N ps : List Str} {k : Nat} {sp : Sp} (F : Fun K x qual st f fd) (hc : fd.code = .ref c) (S : FnScope N ps (defScope st)) (len : ∀ vs H Q E, sp vs H Q E → vs.length = ps.length)
    (hbody : ∀ (A : Around) (outer : List Env) (s : Shared) (H : Hp) (vs : List V) (Q : VK) (E : XK), Room k (A.deeper (envOfC qual (defScope st) s.heap.objs.size f (.ref c))) → sp vs H Q E →
      ∃ t, PSs (cxOf CX0 P w K mg base N qual (defScope st) f (.ref c) A outer s H E).nox (defBody st) t ∧ t { nx := fun _ H' => Q .non H', rt := Q } (start N vs) H) : FnOk P w K mg base CX0 (k + 1) f fd ps sp := by
  obtain ⟨oc, od, kV, doc, pm, an, cdv, ct, osl, rfl, lk, hcd⟩ := F.ex
  obtain rfl : cdv = .ref c := hc
  refine fn_of lk hcd S len fun A outer s H vs Q E hr hsp => ?_
  obtain ⟨t, h, q⟩ := hbody A outer s H vs Q E hr hsp
  exact ⟨t, h.nox, q⟩
end
theorem law_callT {P : Program} {w : World} {K : PySem.W.Frag} {mg mb : Str → Option Value} {CX : CXT} {k : Nat} {fa a bm : Addr} {fd : FuncData} {x : Str} {sp : Sp} {s₁ : Shared} {vs : List Value} {ns : List Int} {Ps : List Addr}
    (KX : K.In s₁.heap) (hns : s₁.heap.Ns mainGlobals mg) (hb : s₁.heap.Ns builtinsNs mb) (hbb : ∀ x : Str, x ≠ "__name__" → mb x = bootBuiltins x) (hlim : s₁.heap.NoLimit) (hg : s₁.gens = #[])
    (ha : s₁.heap.get? a = some { cls := .type "list", data := .seq vs.toArray }) (hi : IntsAre vs ns) (hl : ns.length ≤ sizeLine) (hr : Room k callerA)
    (hT : ∀ q ∈ Ps, s₁.heap.get? q = some { cls := .none, data := .fields #[] } ∧ isCodeTable s₁.heap q) (hKn : ∀ q ∈ Ps, K.lookup q = none) (hB : BltMod s₁.heap mg bm)
    (F : ∀ base : Heap, K.In base → base.Ns mainGlobals mg → BltMod base mg bm → FnOk P w K mg base CX k fa fd [x] sp) (hbind : ∀ (s : Shared) (u : Value), BindsTo s fd ⟨[u], []⟩ [(x, u)])
    (hsp : ∀ H : Hp, (∀ q ∈ Ps, H q = some (.tbl #[])) → SqL K H a (ns.map V.int) → sp [.ref a] H (fun v _ => v = .bl true) fun _ _ _ => False)
    (hCX : ∀ H e s', CX [] H s₁ (fun _ _ _ => False) e s' → False) :
    codeAny (model P w) callerA (.call (.ref fa) ⟨[.ref a], []⟩) (fun r s' => r = .ok (.ret (.bool true)) ∧ OldK s₁.heap s'.heap ∧ s'.os = s₁.os ∧ AllBare s'.gens) s₁ := by
  have rv := vals_ints hi
  have lenV := hi.length
  have aP : a ∉ Ps := fun z => by
    have := (hT a z).1
    rw [ha] at this; cases this
  have core : ∀ H : Hp, (∀ b, H b = none ∨ (∃ o xs, H b = some (.frz o (.lst xs))) ∨ (b ∈ Ps ∧ H b = some (.tbl #[]))) → (∀ q ∈ Ps, H q = some (.tbl #[])) → SqL K H a (ns.map V.int) → HOk P w H s₁.heap → (∀ b, H b ≠ none → b = a ∨ b ∈ Ps) → (H a ≠ none → K.lookup a = none) →
      codeAny (model P w) callerA (.call (.ref fa) ⟨[.ref a], []⟩) (fun r s' => r = .ok (.ret (.bool true)) ∧ OldK s₁.heap s'.heap ∧ s'.os = s₁.os ∧ AllBare s'.gens) s₁ := by
    intro H hO hTb hS hok hA hK
    have base_of : ∀ {b : Addr} {o : Obj}, s₁.heap.get? b = some o → H b = none → (hidT s₁.heap H).get? b = some o := fun e n => hidT_get e n
    have notr : ∀ {b : Addr} {o : Obj}, s₁.heap.get? b = some o → o ≠ { cls := .type "list", data := .seq vs.toArray } → o ≠ { cls := .none, data := .fields #[] } → H b = none := fun {b o} e h1 h2 => by
      cases q : H b with
      | none => rfl
      | some u =>
        rcases hA b (by rw [q]; simp) with e' | e'
        · subst e'
          rw [ha] at e; cases e
          exact absurd rfl h1
        · rw [(hT b e').1] at e; cases e
          exact absurd rfl h2
    have noA : ∀ {b : Addr} {o : Obj} {es : Array DictEntry} {ep : Nat}, s₁.heap.get? b = some o → o.data = .dict es ep → H b = none := fun {b o es ep} e d => notr e (fun z => by rw [z] at d; cases d) (fun z => by rw [z] at d; cases d)
    have nsK : ∀ {b : Addr} {m : Str → Option Value}, s₁.heap.Ns b m → (hidT s₁.heap H).Ns b m := fun {b m} ⟨o, es, ep, e, d, r⟩ => ⟨o, es, ep, base_of e (noA e d), d, r⟩
    have hKb : K.In (hidT s₁.heap H) := fun b o e => base_of (KX b o e) (by
      cases q : H b with
      | none => rfl
      | some u =>
        rcases hA b (by rw [q]; simp) with e' | e'
        · subst e'
          rw [hK (by rw [q]; simp)] at e; cases e
        · rw [hKn b e'] at e; cases e)
    have hM : Mod K mg (hidT s₁.heap H) := ⟨hKb, nsK hns, ⟨mb, nsK hb, hbb⟩, let ⟨mc, h1, h2⟩ := hlim; ⟨mc, nsK h1, h2⟩⟩
    have hBb : BltMod (hidT s₁.heap H) mg bm := ⟨hB.name, hB.ne, let ⟨ob, h1, h2, h3, h4⟩ := hB.obj; ⟨ob, base_of h1 (notr h1 (fun z => by rw [z] at h4; cases h4) (fun z => by rw [z] at h4; cases h4)), h2, h3, h4⟩⟩
    have e0 : Env0 P w K mg (hidT s₁.heap H) callerA [] s₁ H := ⟨rfl, hM, fun b o e => of_hidT e, Nat.le_of_eq (hidT_size _ _), trivial, fun b hb => absurd (show b ∈ ([] : List Addr) from hb) (by simp), hok, .of_eq hg⟩
    refine codeAny_mono ((F _ hKb (nsK hns) hBb).run callerA [] s₁ H ⟨[.ref a], []⟩ [.ref a] [.ref a] _ _ hr e0 (hbind s₁ (.ref a)) (.cons rfl .nil) (hsp H hTb hS)) fun r s' h => ?_
    cases r with
    | error e => exact (hCX H e s' h).elim
    | ok fl =>
      cases fl with
      | next => exact False.elim h
      | brk => exact False.elim h
      | cont => exact False.elim h
      | ret u =>
        obtain ⟨v, H', os, bare, un, hok', r', q⟩ := h
        have q' : v = .bl true := q
        subst q'
        obtain rfl : u = Value.bool true := r'
        have kept : ∀ b o, s₁.heap.get? b = some o → b ∉ Ps → s'.heap.get? b = some o := fun b o e nb => by
          cases q : H b with
          | none => exact un.keep b o e q (by intro z; exact absurd (show b ∈ ([] : List Addr) from z) (by simp)) (by simp)
          | some u =>
            rcases hO b with z | ⟨ob, xs, z⟩ | ⟨z, _⟩
            · rw [q] at z; cases z
            · have z2 := un.frzs b ob _ z
              obtain ⟨e1, _⟩ := hok b _ z
              obtain ⟨e2, _⟩ := hok' b _ z2
              rw [e] at e1; cases e1
              exact e2
            · exact absurd z nb
        have grown : ∀ b, b ∈ Ps → ∃ more : Array Value, s'.heap.get? b = some { cls := .none, data := .fields (#[] ++ more) } := fun b hb => by
          obtain ⟨more, e2⟩ := un.tbls b _ (hTb b hb)
          exact ⟨more, hok' b _ e2⟩
        refine ⟨rfl, ⟨fun b o e => ?_, fun b o e => ?_⟩, os, bare⟩
        · by_cases hbp : b ∈ Ps
          · obtain ⟨more, e2⟩ := grown b hbp
            have e1 := (hT b hbp).1
            rw [e] at e1
            cases e1
            exact .inr (.inl ⟨(hT b hbp).2, rfl, #[], more, rfl, e2⟩)
          · exact .inl (kept b o e hbp)
        · by_cases hbp : b ∈ Ps
          · obtain ⟨more, e2⟩ := grown b hbp
            exact ⟨_, e2⟩
          · exact ⟨o, kept b o e hbp⟩
  cases hk : K.lookup a with
  | some o =>
    have e := KX a o hk
    rw [ha] at e
    cases e
    refine core (fun b => if b ∈ Ps then some (.tbl #[]) else none) (fun b => ?_) (fun q hq => if_pos hq) (.inr ⟨_, vs.toArray, _, hk, rfl, rfl, rfl, by rw [List.size_toArray, lenV]; exact hl, by simpa using rv⟩) (fun b u z => ?_) (fun b z => ?_) fun z => absurd (if_neg aP) z
    · by_cases hb : b ∈ Ps
      · exact .inr (.inr ⟨hb, if_pos hb⟩)
      · exact .inl (if_neg hb)
    · by_cases hb : b ∈ Ps
      · have z' := (if_pos hb).symm.trans z
        cases z'
        exact (hT b hb).1
      · have z' := (if_neg hb).symm.trans z
        cases z'
    · by_cases hb : b ∈ Ps
      · exact .inr hb
      · exact absurd (if_neg hb) z
  | none =>
    refine core (fun b => if b = a then some (.frz { cls := .type "list", data := .seq vs.toArray } (.lst (ns.map V.int))) else if b ∈ Ps then some (.tbl #[]) else none) (fun b => ?_) (fun q hq => ?_) (.inl (.inr ⟨{ cls := .type "list", data := .seq vs.toArray }, if_pos rfl⟩)) (fun b u z => ?_) (fun b z => ?_) fun _ => hk
    · by_cases hb : b = a
      · exact .inr (.inl ⟨_, _, if_pos hb⟩)
      · by_cases hp : b ∈ Ps
        · exact .inr (.inr ⟨hp, by rw [if_neg hb, if_pos hp]⟩)
        · exact .inl (by rw [if_neg hb, if_neg hp])
    · have hqa : q ≠ a := fun z => aP (by rw [← z]; exact hq)
      show (if q = a then _ else _) = _
      rw [if_neg hqa, if_pos hq]
    · by_cases hb : b = a
      · have z' := (if_pos hb).symm.trans z
        cases z'
        subst hb
        exact ⟨ha, by rw [List.length_map]; exact hl, vs, _, rv, ha⟩
      · have z' := (if_neg hb).symm.trans z
        by_cases hp : b ∈ Ps
        · have z2 := (if_pos hp).symm.trans z'
          cases z2
          exact (hT b hp).1
        · have z2 := (if_neg hp).symm.trans z'
          cases z2
    · by_cases hb : b = a
      · exact .inl hb
      · by_cases hp : b ∈ Ps
        · exact .inr hp
        · exact absurd (by show (if b = a then _ else _) = _; rw [if_neg hb, if_neg hp]) z
theorem walk_ofT {l : PySem.W.OpenLaw} {n k : Nat} {q : Program} {loose : List Str} {XP : (Str → Option Value) → Heap → Prop} {YP : World → Heap → Prop} {d : DefRec} {K : Params → PySem.W.Frag} {CX : World → CXT} {sp : World → Sp} {x : Str} {ts : List (Str × Addr × Addr)}
    (hn : l.most = some n) (hn2 : n ≤ sizeLine) (hdf : d.params.defaults = []) (hr : Room k callerA)
    (hY : ∀ (w : World) (h : Heap), YP w h → (K w.params).In h)
    (hts : ∀ t ∈ ts, ((recsOf q).find? (fun e => e.name == t.1)).isSome = true ∧ ∀ w : World, PySem.W.tabIn (K w.params) t.1 = some (t.2.1, t.2.2) ∧ (K w.params).lookup t.2.2 = none)
    (F : ∀ (w : World) (mg : Str → Option Value) (fa : Addr) (h : Heap), (K w.params).In h → h.Ns mainGlobals mg → mg d.name = some (.ref fa) →
      ∃ fd : FuncData, (∀ (s : Shared) (u : Value), BindsTo s fd ⟨[u], []⟩ [(x, u)]) ∧
        ∀ (bm : Addr) (base : Heap), (K w.params).In base → base.Ns mainGlobals mg → BltMod base mg bm → FnOk l.prog w (K w.params) mg base (CX w) k fa fd [x] (sp w))
    (hsp : ∀ (w : World) (H : Hp) (a : Addr) (ns : List Int), ns.length ≤ n → (∀ t ∈ ts, H t.2.2 = some (.tbl #[])) → SqL (K w.params) H a (ns.map V.int) → sp w [.ref a] H (fun v _ => v = .bl true) fun _ _ _ => False)
    (hCX : ∀ (w : World) (H : Hp) (s : Shared) (e : Value) (s' : Shared), CX w [] H s (fun _ _ _ => False) e s' → False) :
    PySem.W.WalkO q loose XP YP l.row.toRowW d [] (fun f vs => PySem.call f vs) := by
  refine Att.attach_call hn hdf fun w s₀ s₁ mg mb fa o pm cd doc a vs ns G Y ho hd hcd hmg hobj hints hlen hg => ?_
  have KX := hY w _ Y
  obtain ⟨fd, hb, hF⟩ := F w mg fa _ KX G.T.g hmg
  obtain ⟨bm, ob, b1, b2, b3, b4, b5, b6⟩ := G.T.bmain
  have tabs : ∀ t ∈ ts, s₁.heap.get? t.2.2 = some { cls := .none, data := .fields #[] } ∧ isCodeTable s₁.heap t.2.2 := fun t ht => by
    obtain ⟨h1, h2⟩ := hts t ht
    obtain ⟨dd, hdd⟩ := Option.isSome_iff_exists.mp h1
    obtain ⟨e1, e2⟩ := PySem.W.tab_of G.T KX hdd (h2 w).1
    exact ⟨e2, (e1.tab e2).isCodeTable⟩
  refine law_callT (Ps := ts.map fun t => t.2.2) KX G.T.g G.T.b G.T.builtins G.T.nolimit hg hobj hints (Nat.le_trans hlen hn2) hr (fun q hq => ?_) (fun q hq => ?_) ⟨b1, b2, ob, b3, b4, b5, b6⟩ (hF bm) hb (fun H hO hS => hsp w H a ns hlen (fun t ht => hO _ (List.mem_map.mpr ⟨t, ht, rfl⟩)) hS) fun H e s' => hCX w H s₁ e s'
  · obtain ⟨t, ht, rfl⟩ := List.mem_map.mp hq
    exact tabs t ht
  · obtain ⟨t, ht, rfl⟩ := List.mem_map.mp hq
    exact ((hts t ht).2 w).2
end L2
set_option Elab.async false
set_option linter.all false
set_option maxRecDepth 100000
set_option maxHeartbeats 4000000
set_option pp.maxSteps 500
namespace Far
open PySem L2
theorem SqL.lam {K : PySem.W.Frag} {f : Addr} {q0 : Str} {H H' : Hp} (s : But f H H') (t : LamT H f q0) {a : Addr} {xs : List V} (h : SqL K H a xs) : SqL K H' a xs := by
  obtain ⟨ps, hf, _⟩ := t
  rcases h with (h | ⟨o, h⟩) | h
  · exact .inl (.inl (s _ _ h (by rintro rfl; rw [hf] at h; cases h)))
  · exact .inl (.inr ⟨o, s _ _ h (by rintro rfl; rw [hf] at h; cases h)⟩)
  · exact .inr h
theorem same_but {f : Addr} {H H1 H2 : Hp} (s : Same H H1) (e : H f = none) (b : But f H1 H2) : Same H H2 := fun c u h => b c u (s c u h) (ne_of_none h e)
theorem LamT.but {H H' : Hp} {P f : Addr} {q0 : Str} (x : LamT H P q0) (b : But f H H') (t : Two H f) : LamT H' P q0 := by
  obtain ⟨ps, h1, h2, h3⟩ := x
  obtain ⟨x, y, e⟩ := t
  exact ⟨ps, b _ _ h1 (fun z => by rw [z, e] at h1; cases h1), h2, fun pos => (h3 pos).imp id fun ⟨c, a, b'⟩ => ⟨c, a, b _ _ b' (fun z => by rw [z, e] at b'; cases b')⟩⟩
def whV : List Nat → V
  | [] => .str "told"
  | i :: _ => .int (i : Int)
def whD : List Nat → PyData
  | [] => .str "told"
  | i :: _ => .int (i : Int)
theorem wh_dp {K : PySem.W.Frag} {H : Hp} (l : List Nat) : Dp K H (whV l) (whD l) := by
  cases l with
  | nil => exact .str _
  | cons i r => exact .int _
theorem wh_ok {l : List Nat} (h : ∀ j ∈ l, j ≤ 1000) : ReprOk (whD l) := by
  cases l with
  | nil => refine ⟨?_, ?_, ?_, ?_⟩ <;> decide +kernel
  | cons i r =>
    have hi := h i List.mem_cons_self
    have hb : Bd (i : Int) := bd_small (by omega) (by omega)
    have h1 := int_lenB hb
    have h2 := int_showB hb
    refine ⟨?_, rfl, ?_, Nat.le_trans h1 (by decide)⟩
    · show PyData.showable (.int (i : Int)) = true
      simp only [PyData.showable]; first | exact decide_eq_true h2 | simpa using h2
    · show PyData.depth (.int (i : Int)) ≤ 60
      simp only [PyData.depth]; omega
theorem noneF_true : ∀ {bs : List Bool} {i : Nat}, (∀ b ∈ bs, b = true) → noneF bs i = []
  | [], _, _ => rfl
  | b :: r, i, h => by
    unfold noneF
    rw [if_pos (h b List.mem_cons_self)]
    exact noneF_true fun c hc => h c (List.mem_cons_of_mem _ hc)
theorem word_woven {P : Program} {w : World} {K : PySem.W.Frag} {mg : Str → Option Value} {base : Heap} {CF CN f c S : Addr} {cs : List Addr} {fd : FuncData} {q0 : Str} {σ : L2.St} {k n : Nat} {jv : V} {J : Job} {us : List V} {bs : List Bool} {H : Hp} {Q : VK} {E : XK}
    (kd : Kinds K CF cs CN 0) (xo : XO K CN) (na : NoAttr K CN "place") (hfa : FnAt base f fd)
    (hfn : FnOk P w K mg base (CX2 P w) 9 f fd [] (fun vs H Q E => vs = [] ∧ H c = some (.ext (IsCode c q0)) ∧ tCall (spWovenE K CN) [] E (tCons (tVar 3) (tCons (tVar 4) (tCons (tVar k) tNil))) σ H Q))
    (h3 : σ[3]? = some (some jv)) (h4 : σ[4]? = some (some (natV n))) (hk : σ[k]? = some (some (.ref S))) (hc : H c = some (.ext (IsCode c q0))) (hJ : IsJob K H jv J) (ok : JobOk 12 J) (hn : 0 < n) (hn2 : n ≤ 100) (hS : H S = some (.lst us)) (hl : us.length ≤ 100000)
    (hp : Paired (fun u b => ∀ H', Same H H' → TurnIs K H' u n b) us bs) (fin : ∀ H', Same H H' → Q (whV (noneF bs 0)) H') : spWord P w K CF cs base mg 9 [.ref f] H Q E := by
  refine ⟨f, fd, _, rfl, hfa, hfn, fun Q' E' h1 h2 => ⟨rfl, hc, _, h3, _, h4, _, hk, jv, J, n, S, us, bs, rfl, hJ, ok, hn, hn2, hS, hl, hp, fun e0 v H' s' => h1 v H' ?_, fun i r e dx H' s' nx hx => h2 _ _ H' ⟨CN, 0, rfl, kd, .inl ⟨rfl, xo, na, dx, i, rfl, hx, fun H2 s2 => ?_⟩⟩⟩⟩
  · have := fin H' s'
    rw [e0] at this
    exact this
  · have := fin H2 (s'.trans s2)
    rw [e] at this
    exact this
theorem ite_any {b : Bool} {A B : Prop} (h1 : A) (h2 : B) : if b = true then A else B := by
  cases b with
  | true => rw [if_pos rfl]; exact h1
  | false => rw [if_neg (by decide)]; exact h2
theorem JobOk.mono {a b : Nat} {J : Job} (o : JobOk a J) (h : a ≤ b) : JobOk b J := ⟨o.pos, Nat.le_trans o.len h, o.room, o.sts, o.up, o.once⟩
def Gh (K : PySem.W.Frag) (n : Nat) (B : List Addr) (H : Hp) (us : List V) (ds : List PyData) (bs : List Bool) : Prop := ∃ G, Same G H ∧ (∀ b ∈ B, G b = none) ∧ TEnts K G n us ds bs
section
variable {K : PySem.W.Frag} {n : Nat} {B B' : List Addr} {H H' : Hp} {us us2 : List V} {ds ds2 : List PyData} {bs bs2 : List Bool}
theorem Gh.keep (g : Gh K n B H us ds bs) (k : ∀ b o, H b = some o → b ∉ B → H' b = some o) : Gh K n B H' us ds bs :=
  let ⟨G, s, nb, t⟩ := g
  ⟨G, fun b o e => k b o (s b o e) (fun hb => by rw [nb b hb] at e; cases e), nb, t⟩
theorem Gh.less (g : Gh K n B H us ds bs) (h : ∀ b ∈ B', b ∈ B) : Gh K n B' H us ds bs :=
  let ⟨G, s, nb, t⟩ := g
  ⟨G, s, fun b hb => nb b (h b hb), t⟩
theorem Gh.bump (g : Gh K n B H us ds bs) {a : Addr} (e : H a = none) : Gh K n (a :: B) H us ds bs := by
  obtain ⟨G, s, nb, t⟩ := g
  refine ⟨G, s, fun b hb => ?_, t⟩
  rcases List.mem_cons.mp hb with z | z
  · rw [z]
    cases q : G a with
    | none => rfl
    | some o => rw [s a o q] at e; cases e
  · exact nb b z
theorem Gh.nil : Gh K n B H [] [] [] := ⟨fun _ => none, (fun b o e => by cases e), (fun _ _ => rfl), .nil⟩
theorem Gh.one {v : V} {d : PyData} {b : Bool} {G : Hp} (s : Same G H) (nb : ∀ b ∈ B, G b = none) (t : TEnt K G n v d b) : Gh K n B H [v] [d] [b] := ⟨G, s, nb, .cons t .nil⟩
theorem Gh.app (g : Gh K n B H us ds bs) (g2 : Gh K n B H us2 ds2 bs2) : Gh K n B H (us ++ us2) (ds ++ ds2) (bs ++ bs2) := by
  obtain ⟨G, s, nb, t⟩ := g
  obtain ⟨G2, s2, nb2, t2⟩ := g2
  have k1 : Same G (fun b => if (G b).isSome = true ∨ (G2 b).isSome = true then H b else none) := fun b o e => by
    show (if (G b).isSome = true ∨ (G2 b).isSome = true then H b else none) = some o
    rw [if_pos (.inl (by rw [e]; rfl))]; exact s b o e
  have k2 : Same G2 (fun b => if (G b).isSome = true ∨ (G2 b).isSome = true then H b else none) := fun b o e => by
    show (if (G b).isSome = true ∨ (G2 b).isSome = true then H b else none) = some o
    rw [if_pos (.inr (by rw [e]; rfl))]; exact s2 b o e
  refine ⟨_, fun b o e => ?_, fun b hb => ?_, (t.same k1).app (t2.same k2)⟩
  · change (if _ then _ else _) = _ at e
    split at e
    · exact e
    · cases e
  · show (if _ then _ else _) = _
    rw [nb b hb, nb2 b hb]
    rfl
theorem Gh.take (g : Gh K n B H us ds bs) (k : Nat) : Gh K n B H (us.take k) (ds.take k) (bs.take k) :=
  let ⟨G, s, nb, t⟩ := g
  ⟨G, s, nb, t.take k⟩
theorem Gh.drop (g : Gh K n B H us ds bs) (k : Nat) : Gh K n B H (us.drop k) (ds.drop k) (bs.drop k) :=
  let ⟨G, s, nb, t⟩ := g
  ⟨G, s, nb, t.drop k⟩
theorem Gh.rep (g : Gh K n B H us ds bs) : ∀ k, Gh K n B H (List.replicate k us).flatten (List.replicate k ds).flatten (List.replicate k bs).flatten
  | 0 => .nil
  | k + 1 => by
    rw [List.replicate_succ, List.replicate_succ, List.replicate_succ, List.flatten_cons, List.flatten_cons, List.flatten_cons]
    exact g.app (g.rep k)
theorem Gh.ents (g : Gh K n B H us ds bs) : TEnts K H n us ds bs :=
  let ⟨_, s, _, t⟩ := g
  t.same s
theorem Gh.len (g : Gh K n B H us ds bs) : ds.length = us.length ∧ bs.length = us.length :=
  let ⟨_, _, _, t⟩ := g
  t.len
end
def ButF (f g : Addr) (H H' : Hp) : Prop := ∀ b o, H b = some o → b ≠ f → b ≠ g → H' b = some o
theorem ButF.trans {f g : Addr} {H H1 H2 : Hp} (a : ButF f g H H1) (b : ButF f g H1 H2) : ButF f g H H2 := fun c o h n m => b c o (a c o h n m) n m
theorem ButF.of {f g : Addr} {H H' : Hp} (b : But f H H') : ButF f g H H' := fun c o h n _ => b c o h n
theorem ButF.of2 {f g : Addr} {H H' : Hp} (b : But g H H') : ButF f g H H' := fun c o h _ m => b c o h m
theorem ButF.refl (f g : Addr) (H : Hp) : ButF f g H H := fun _ _ h _ _ => h
abbrev lamQ : Str := ("law" ++ ".<locals>.") ++ "<lambda>"
def spLaw (K : PySem.W.Frag) (Pt : Addr) : Sp := fun vs H Q _ => ∃ (a : Addr) (ns : List Int), vs = [.ref a] ∧ SqL K H a (ns.map V.int) ∧ ns.length ≤ 63 ∧ LamT H Pt lamQ ∧ ∀ H', Q (.bl true) H'
section
variable {P : Program} {w : World} {K : PySem.W.Frag} {mg : Str → Option Value} {base : Heap} {C : Addr}
abbrev n_law : List Str := ["script", "k", "feed", "job", "hands", "weaving", "turn", "some", "again", "wrong", "due", "shown", "place"]
theorem sc_law : FnScope n_law ["script"] (defScope sLaw) := ⟨rfl, rfl, rfl, by decide +kernel, rfl, by decide +kernel, by decide +kernel⟩
theorem ok_law {f : Addr} {fd : FuncData} (F : Fun K "law" "law" sLaw f fd) (T : TxtC K mg C) {c_ Pt bm CN CF : Addr} {cs : List Addr} (hcc : fd.code = .ref c_) (hK : PySem.W.codeHdIn K c_ Pt = true) (Bm : BltMod base mg bm) (kd : Kinds K CF cs CN 0) (xo : XO K CN) (na : NoAttr K CN "place")
    {f__law_feed : Addr} {d__law_feed : FuncData} (G__law_feed : FnOk P w K mg base CX0 1 f__law_feed d__law_feed ["script", "k"] (spFeed K)) (b__law_feed : Binds K d__law_feed ["script", "k"] []) (k__law_feed : PySem.W.keepIn K (.ref f__law_feed) = true) (m__law_feed : mg "_law_feed" = some (.ref f__law_feed))
    {f__law_job : Addr} {d__law_job : FuncData} (G__law_job : FnOk P w K mg base CX0 4 f__law_job d__law_job ["feed", "most"] (spJob K)) (b__law_job : Binds K d__law_job ["feed", "most"] []) (k__law_job : PySem.W.keepIn K (.ref f__law_job) = true) (m__law_job : mg "_law_job" = some (.ref f__law_job))
    {f__law_take : Addr} {d__law_take : FuncData} (G__law_take : FnOk P w K mg base CX0 1 f__law_take d__law_take ["feed", "many"] spTake) (b__law_take : Binds K d__law_take ["feed", "many"] []) (k__law_take : PySem.W.keepIn K (.ref f__law_take) = true) (m__law_take : mg "_law_take" = some (.ref f__law_take))
    {f__law_turn : Addr} {d__law_turn : FuncData} (G__law_turn : FnOk P w K mg base CX0 2 f__law_turn d__law_turn ["feed", "hands"] spTurn) (b__law_turn : Binds K d__law_turn ["feed", "hands"] []) (k__law_turn : PySem.W.keepIn K (.ref f__law_turn) = true) (m__law_turn : mg "_law_turn" = some (.ref f__law_turn))
    {f__law_odd : Addr} {d__law_odd : FuncData} (G__law_odd : FnOk P w K mg base CX0 3 f__law_odd d__law_odd ["feed", "hands"] (spOdd K)) (b__law_odd : Binds K d__law_odd ["feed", "hands"] []) (k__law_odd : PySem.W.keepIn K (.ref f__law_odd) = true) (m__law_odd : mg "_law_odd" = some (.ref f__law_odd))
    {f__law_is_turn : Addr} {d__law_is_turn : FuncData} (G__law_is_turn : FnOk P w K mg base CX0 2 f__law_is_turn d__law_is_turn ["thing", "hands"] (spLIsTurn K)) (b__law_is_turn : Binds K d__law_is_turn ["thing", "hands"] []) (k__law_is_turn : PySem.W.keepIn K (.ref f__law_is_turn) = true) (m__law_is_turn : mg "_law_is_turn" = some (.ref f__law_is_turn))
    {f__law_word : Addr} {d__law_word : FuncData} (GA__law_word : ∀ base, Mod K mg base → BltMod base mg bm → FnOk P w K mg base CX0 10 f__law_word d__law_word ["call"] (spWord P w K CF cs base mg 9)) (b__law_word : Binds K d__law_word ["call"] []) (k__law_word : PySem.W.keepIn K (.ref f__law_word) = true) (m__law_word : mg "_law_word" = some (.ref f__law_word))
    {f_woven : Addr} {d_woven : FuncData} (GA_woven : ∀ base, Mod K mg base → BltMod base mg bm → FnOk P w K mg base (CX2 P w) 7 f_woven d_woven ["job", "hands", "weaving"] (spWovenE K CN)) (b_woven : Binds K d_woven ["job", "hands", "weaving"] []) (k_woven : PySem.W.keepIn K (.ref f_woven) = true) (m_woven : mg "woven" = some (.ref f_woven)) :
    FnOk P w K mg base CX0 11 f fd ["script"] (spLaw K Pt) := by
  refine F.okC hcc sc_law (fun vs H Q E h => ?_) (fun Ar outer s H vs Q E hr h => ?_)
  · obtain ⟨a, ns, rfl, _⟩ := h
    rfl
  · obtain ⟨a, ns, rfl, hS, hlen, lt0, q⟩ := h
    refine ⟨_, pss_cons (ps_for PassesOwn.never rfl (pi_range3 rfl T.range (pa_cons (pe_int) (pa_cons (pe_callB (call_max2 rfl) rfl T.max (by decide +kernel) (pa_cons (pe_int) (pa_cons (pe_callB (call_min2 rfl) rfl T.min (by decide +kernel) (pa_cons (pe_int) (pa_cons (pe_callB call_len_seq rfl T.len PySem.boot_len (pa_cons (pv 0) pa_nil)) pa_nil))) pa_nil))) (pa_cons (pe_int) pa_nil)))) (pg_name (i := 1) sc_law.nd rfl (Or.inl rfl)) (pss_cons (ps_set (i := 2) sc_law.nd rfl (Or.inr rfl) (pe_call G__law_feed (hr.mono (by decide)) rfl m__law_feed k__law_feed b__law_feed .nil pass0 (pa_cons (pv 0) (pa_cons (pv 1) pa_nil)))) (pss_cons (ps_set (i := 3) sc_law.nd rfl (Or.inr rfl) (pe_call G__law_job (hr.mono (by decide)) rfl m__law_job k__law_job b__law_job .nil pass0 (pa_cons (pv 2) (pa_cons (pe_ix ix_list (pe_lst (pa_cons (pe_int) (pa_cons (pe_int) pa_nil))) (pe_call G__law_take (hr.mono (by decide)) rfl m__law_take k__law_take b__law_take .nil pass0 (pa_cons (pv 2) (pa_cons (pe_int) pa_nil))) (fun _ _ => rfl)) pa_nil)))) (pss_cons (ps_set (i := 4) sc_law.nd rfl (Or.inr rfl) (pe_op op_add (pe_int) (pe_call G__law_take (hr.mono (by decide)) rfl m__law_take k__law_take b__law_take .nil pass0 (pa_cons (pv 2) (pa_cons (pe_int) pa_nil))))) (pss_cons (ps_set (i := 2) sc_law.nd rfl (Or.inr rfl) (pe_call G__law_feed (hr.mono (by decide)) rfl m__law_feed k__law_feed b__law_feed .nil pass0 (pa_cons (pv 0) (pa_cons (pe_op op_add (pv 1) (pe_int)) pa_nil)))) (pss_cons (ps_set (i := 5) sc_law.nd rfl (Or.inr rfl) (pe_lc (own := [("turn", 6)]) (g := gName 6) (by rfl) sc_law.nd (pi_range1 rfl T.range (pa_cons (pe_call G__law_take (hr.mono (by decide)) rfl m__law_take k__law_take b__law_take .nil pass0 (pa_cons (pv 2) (pa_cons (pe_int) pa_nil))) pa_nil)) (blkOk_by (own := [("turn", 6)]) (N := n_law) (sc := defScope sLaw) (by decide +kernel)) (fun _ _ _ _ _ => pg_name (i := 6) sc_law.nd rfl (Or.inl rfl)) (fun _ _ _ _ _ => pts_nil) (fun _ _ _ _ _ => pe_call G__law_turn (hr.mono (by decide)) rfl m__law_turn k__law_turn b__law_turn .nil pass0 (pa_cons (pv 2) (pa_cons (pv 4) pa_nil))))) (pss_cons (ps_mid (ps_if (pt_cmpR op_eq (pe_call G__law_take (hr.mono (by decide)) rfl m__law_take k__law_take b__law_take .nil pass0 (pa_cons (pv 2) (pa_cons (pe_int) pa_nil))) (pe_int) (nomark _)) (pss_one (ps_set (i := 5) sc_law.nd rfl (Or.inr rfl) (pe_op op_rep (pv 5) (pe_int)))) pss_nil)) (pss_cons (ps_for PassesOwn.never rfl (pi_range1 rfl T.range (pa_cons (pe_int) pa_nil)) (pg_name (i := 6) sc_law.nd rfl (Or.inl rfl)) (pss_cons (ps_set (i := 7) sc_law.nd rfl (Or.inr rfl) (pe_callTy call_list_of (by rfl) T.list (by decide +kernel) (pa_cons (pv 5) pa_nil))) (pss_cons (ps_mid (ps_for PassesOwn.never rfl (pi_range1 rfl T.range (pa_cons (pe_op op_add (pe_int) (pe_call G__law_take (hr.mono (by decide)) rfl m__law_take k__law_take b__law_take .nil pass0 (pa_cons (pv 2) (pa_cons (pe_int) pa_nil)))) pa_nil)) (pg_name (i := 8) sc_law.nd rfl (Or.inl rfl)) (pss_one (ps_expr (pe_bm PySem.F.plainAttrs_list PySem.F.slot_list_insert PySem.F.type_list_insert mt_insert (pv 7) (pa_cons (pe_call G__law_take (hr.mono (by decide)) rfl m__law_take k__law_take b__law_take .nil pass0 (pa_cons (pv 2) (pa_cons (pe_op op_add (pe_callB call_len_seq rfl T.len PySem.boot_len (pa_cons (pv 7) pa_nil)) (pe_int)) pa_nil))) (pa_cons (pe_call G__law_odd (hr.mono (by decide)) rfl m__law_odd k__law_odd b__law_odd .nil pass0 (pa_cons (pv 2) (pa_cons (pv 4) pa_nil))) pa_nil))))))) (pss_cons (ps_setLc (i := 9) (own := [("place", 12)]) (g := gName 12) (by rfl) sc_law.nd rfl rfl (sw_true rfl rfl rfl (by decide +kernel)) (pi_range1 rfl T.range (pa_cons (pe_callB call_len_seq rfl T.len PySem.boot_len (pa_cons (pv 7) pa_nil)) pa_nil)) (blkOk_by (own := [("place", 12)]) (N := n_law) (sc := defScope sLaw) (by decide +kernel)) (fun _ _ _ _ _ => pg_name (i := 12) sc_law.nd rfl (Or.inl rfl)) (fun _ _ _ _ _ => pts_one (pt_not (pt_val (pe_call G__law_is_turn (hr.mono (by decide)) rfl m__law_is_turn k__law_is_turn b__law_is_turn .nil pass0 (pa_cons (pe_ix (r := rIxL K) ix_list (pv 7) (pv 12) (fun _ _ => rfl)) (pa_cons (pv 4) pa_nil)))))) (fun _ _ _ _ _ => pv 12)) (pss_cons (ps_set (i := 10) sc_law.nd rfl (Or.inl rfl) (pe_mid (pe_ifExp (pt_cmpR (op_neD hr.units) (pv 9) (pe_lst (pa_nil)) (nomark _)) (pe_ix ix_list (pv 9) (pe_int) (fun _ _ => rfl)) (pe_str)))) (pss_cons (ps_set (i := 11) sc_law.nd rfl (Or.inl rfl) (pe_callB (cr_reprV hr) rfl T.repr (by decide +kernel) (pa_cons (pv 7) pa_nil))) (pss_one (ps_if (PW.pt (pw_or (pt_cmpR op_ne (pe_callB (cr_reprV hr) rfl T.repr (by decide +kernel) (pa_cons (pe_callLam (T := Pt) (k := 8) (osc := defScope sLaw) (te := fun E => tCall (spWovenE K CN) [] E (tCons (tVar 3) (tCons (tVar 4) (tCons (tVar 7) tNil)))) Bm GA__law_word (hr.mono (by decide)) rfl m__law_word k__law_word b__law_word sc_law.nd rfl hK (by rfl) rfl rfl (by decide +kernel) rfl rfl rfl rfl (by decide +kernel) (fun _ _ _ _ => rfl) (fun base Mb Bb f_ c_2 cl A outer s H E hr => pe_call (GA_woven base Mb Bb) (hr.mono (by decide)) rfl m_woven k_woven b_woven .nil (passL fun _ _ _ z => z) (pa_cons (pv 3) (pa_cons (pv 4) (pa_cons (pv 7) pa_nil))))) pa_nil)) (pe_callB (cr_reprV hr) rfl T.repr (by decide +kernel) (pa_cons (pv 10) pa_nil)) (nomark _)) (pw_or1 (pt_cmpR op_ne (pe_callB (cr_reprV hr) rfl T.repr (by decide +kernel) (pa_cons (pv 7) pa_nil)) (pv 11) (nomark _))))) (pss_one (ps_ret (pe_bl))) pss_nil)))))))) (pss_one (ps_if (pt_cmpR op_ne (pe_callLam (T := Pt) (k := 8) (osc := defScope sLaw) (te := fun E => tCall (spWovenE K CN) [] E (tCons (tVar 3) (tCons (tVar 4) (tCons (tVar 5) tNil)))) Bm GA__law_word (hr.mono (by decide)) rfl m__law_word k__law_word b__law_word sc_law.nd rfl hK (by rfl) rfl rfl (by decide +kernel) rfl rfl rfl rfl (by decide +kernel) (fun _ _ _ _ => rfl) (fun base Mb Bb f_ c_2 cl A outer s H E hr => pe_call (GA_woven base Mb Bb) (hr.mono (by decide)) rfl m_woven k_woven b_woven .nil (passL fun _ _ _ z => z) (pa_cons (pv 3) (pa_cons (pv 4) (pa_cons (pv 5) pa_nil))))) (pe_str) (nomark _)) (pss_one (ps_ret (pe_bl))) pss_nil)))))))))) (pss_one (ps_ret (pe_bl))), ?_⟩
    obtain ⟨mx, hmx, hm1, hm2⟩ : ∃ mx : Int, (if (if (((ns.map V.int).length : Nat) : Int) < 6 then (((ns.map V.int).length : Nat) : Int) else 6) > 2 then (if (((ns.map V.int).length : Nat) : Int) < 6 then (((ns.map V.int).length : Nat) : Int) else 6) else 2) = mx ∧ 2 ≤ mx ∧ mx ≤ 6 := by
      refine ⟨_, rfl, ?_, ?_⟩
      · split <;> omega
      · split
        · split <;> omega
        · omega
    obtain ⟨nn, hrg, hnn⟩ : ∃ nn : Nat, RgC 0 mx 2 nn ∧ nn ≤ 3 := by
      have : mx = 2 ∨ mx = 3 ∨ mx = 4 ∨ mx = 5 ∨ mx = 6 := by omega
      rcases this with e | e | e | e | e
      · subst e; exact ⟨1, ⟨by decide, by decide, by decide, by decide⟩, by decide⟩
      · subst e; exact ⟨2, ⟨by decide, by decide, by decide, by decide⟩, by decide⟩
      · subst e; exact ⟨2, ⟨by decide, by decide, by decide, by decide⟩, by decide⟩
      · subst e; exact ⟨3, ⟨by decide, by decide, by decide, by decide⟩, by decide⟩
      · subst e; exact ⟨3, ⟨by decide, by decide, by decide, by decide⟩, by decide⟩
    refine ⟨_, rfl, a, _, rfl, .inl hS, _, _, rfl, _, _, rfl, ?_⟩
    rw [hmx]
    refine ⟨_, _, _, _, rfl, hrg, ?_⟩
    refine for_rangeC (lo := 0) (c := 2) (n := nn) (fun i σ H2 => ∃ (v1 v2 v3 v4 v5 v6 v7 v8 v9 v10 v11 v12 : Option V), σ = [some (.ref a), v1, v2, v3, v4, v5, v6, v7, v8, v9, v10, v11, v12] ∧ But Pt H H2 ∧ LamT H2 Pt lamQ)
      ⟨none, none, none, none, none, none, none, none, none, none, none, none, rfl, But.refl _ H, lt0⟩ ?_ ?_
    · rintro i σ H2 hi ⟨v1, v2, v3, v4, v5, v6, v7, v8, v9, v10, v11, v12, rfl, b2, lt2⟩
      have hS2 : SqL K H2 a (ns.map V.int) := SqL.lam b2 lt0 hS
      refine ⟨_, rfl, _, rfl, a, ns, _, rfl, hS2, by omega, by omega, fun ff x1 y1 e0 => ?_⟩
      have t3 := same_new e0 (.lst [.int x1, .int y1])
      have two3 : Two (upd H2 ff (.lst [.int x1, .int y1])) ff := ⟨_, _, upd_same⟩
      have lt3 := lt2.same t3
      generalize upd H2 ff (.lst [.int x1, .int y1]) = H3 at *
      refine ⟨_, rfl, (by show 2 ≤ sizeLine; decide), fun LL eLL => ?_⟩
      have t4 := same_new eLL (.lst [.int 5, .int 12])
      have g4 : (upd H3 LL (.lst [.int 5, .int 12])) LL = some (.lst [.int 5, .int 12]) := upd_same
      have nLL : LL ≠ ff := (two3.ne eLL).symm
      have two4 := two3.same t4
      have lt4 := lt3.same t4
      generalize upd H3 LL (.lst [.int 5, .int 12]) = H4 at *
      refine ⟨_, rfl, ff, _, rfl, two4, by decide, by decide, fun z5 H5 z50 z51 two5 b5 => ?_⟩
      have g5 := b5 _ _ g4 nLL
      have lt5 := lt4.but b5 two4
      obtain ⟨mo, hmo, hmo1, hmo2⟩ : ∃ mo : Int, atI [V.int 5, V.int 12] z5 = some (.int mo) ∧ 1 ≤ mo ∧ mo ≤ 12 := by
        have : z5 = 0 ∨ z5 = 1 := by omega
        rcases this with e | e
        · rw [e]; exact ⟨5, rfl, by decide, by decide⟩
        · rw [e]; exact ⟨12, rfl, by decide, by decide⟩
      refine ⟨LL, _, _, _, rfl, rfl, SqL.of g5, hmo, ff, _, rfl, two5, hmo1, hmo2, fun jv J H6 hJ ok0 two6 b6 => ?_⟩
      have ok : JobOk 12 J := ok0.mono (by omega)
      have lt6 := lt5.but b6 two5
      have s6 : Same H2 H6 := same_but (t3.trans t4) e0 (b5.trans b6)
      refine ⟨_, rfl, ff, _, rfl, two6, by decide, by decide, fun z7 H7 z70 z71 two7 b7 => ?_⟩
      have lt7 := lt6.but b7 two6
      obtain ⟨n, hnv, hn0, hn6⟩ : ∃ n : Nat, (fun i j : Int => V.int (i + j)) 1 z7 = natV n ∧ 0 < n ∧ n ≤ 6 := by
        obtain ⟨m, rfl⟩ := Int.eq_ofNat_of_zero_le z70
        refine ⟨1 + m, ?_, by omega, by omega⟩
        show V.int (1 + (m : Int)) = V.int ((1 + m : Nat) : Int)
        congr 1
      refine ⟨_, _, rfl, rfl, ?_⟩
      rw [hnv]
      have s7 : Same H2 H7 := same_but (t3.trans t4) e0 ((b5.trans b6).trans b7)
      have hJ7 : IsJob K H7 jv J := IsJob.kt (KT.two b7 two6) hJ
      have hS7 : SqL K H7 a (ns.map V.int) := s7.seq hS2
      refine ⟨_, rfl, _, rfl, _, _, rfl, rfl, a, ns, _, rfl, hS7, by omega, by omega, fun fg x2 y2 e7 => ?_⟩
      have t8 := same_new e7 (.lst [.int x2, .int y2])
      have two8 : Two (upd H7 fg (.lst [.int x2, .int y2])) fg := ⟨_, _, upd_same⟩
      have lt8 := lt7.same t8
      have hJ8 := IsJob.kt (KT.same (K := K) t8) hJ7
      have nfg : H2 fg = none := s7.free e7
      generalize upd H7 fg (.lst [.int x2, .int y2]) = H8 at *
      refine ⟨_, rfl, fg, _, rfl, two8, by decide, by decide, fun z9 H9 z90 z91 two9 b9 => ?_⟩
      have lt9 := lt8.but b9 two8
      obtain ⟨m, rfl⟩ := Int.eq_ofNat_of_zero_le z90
      refine ⟨_, rfl, by omega, by omega, fun W eW => ?_⟩
      have nW : W ≠ fg := (two9.ne eW).symm
      refine lc_range (lo := 0) (n := ((m : Nat) : Int).toNat) (fun i H' => But fg H9 H' ∧ Two H' fg ∧ ∃ us ds bs, H' W = some (.lst us) ∧ us.length = i ∧ Gh K n [W, fg, Pt] H' us ds bs ∧ ∀ b ∈ bs, b = true)
        ⟨But.of (same_new eW _), two9.same (same_new eW _), [], [], [], upd_same, rfl, Gh.nil, fun b z => nomatch z⟩ ?_ ?_
      · rintro i' H10 hi' ⟨b10, two10, us, ds, bs, hW, hl, g, htr⟩
        refine ⟨rfl, yes_ ?_⟩
        refine iteT ?_
        refine ⟨_, rfl, _, rfl, fg, n, rfl, two10, hn0, by omega, fun Tt hh oo H11 eT gd two11 b11 hT => ?_⟩
        have hW11 := b11 _ _ hW nW
        have lt11 := lt9.but (b10.trans b11) two9
        refine ⟨us, hW11, by rw [sizeLine_eq]; omega, fun b o e nb => ?_, two11.put nW.symm _, us ++ [.ref Tt], ds ++ [.tuple [.int hh, .int oo]], bs ++ [true], upd_same, (by rw [List.length_append, hl]; rfl), ?_, fun b hb => ?_⟩
        · rw [upd_ne (ne_of_none e eW)]
          exact b11 b o (b10 b o e nb) nb
        · have nTW : Tt ≠ W := fun z => by rw [z, hW11] at hT; cases hT
          have nTf : Tt ≠ fg := fun z => by obtain ⟨x, y, q0⟩ := two11; rw [z, q0] at hT; cases hT
          have nTP : Tt ≠ Pt := fun z => by obtain ⟨ps, q0, _⟩ := lt11; rw [z, q0] at hT; cases hT
          have g1 : Gh K n [W, fg, Pt] H11 us ds bs := g.keep fun b o e nb => b11 b o e fun z => nb (by rw [z]; simp)
          have g2 : Gh K n [W, fg, Pt] H11 [.ref Tt] [.tuple [.int hh, .int oo]] [true] := by
            refine Gh.one (G := fun b => if b = Tt then H11 Tt else none) (fun b o e => ?_) (fun b hb => ?_) (tent_turn (by rw [if_pos rfl]; exact hT) gd (by omega))
            · change (if b = Tt then H11 Tt else none) = some o at e
              by_cases z : b = Tt
              · rw [if_pos z] at e; rw [z]; exact e
              · rw [if_neg z] at e; cases e
            · show (if b = Tt then H11 Tt else none) = none
              rw [if_neg fun z => ?_]
              simp only [List.mem_cons, List.not_mem_nil, or_false] at hb
              rcases hb with y | y | y
              · exact nTW (z.symm.trans y)
              · exact nTf (z.symm.trans y)
              · exact nTP (z.symm.trans y)
          exact (g1.app g2).keep fun b o e nb => by rw [upd_ne fun z => nb (by rw [z]; simp)]; exact e
        · rcases List.mem_append.mp hb with z | z
          · exact htr b z
          · exact List.mem_singleton.mp z
      rintro H10 ⟨b10, two10, us, ds, bs, hW, hl, g, htr⟩
      refine ⟨fun σ' H' => ∃ (W' : Addr) (us : List V) (ds : List PyData) (bs : List Bool), σ' = [some (.ref a), some (.int (0 + (i : Int) * 2)), some (.ref fg), some jv, some (natV n), some (.ref W'), v6, v7, v8, v9, v10, v11, v12] ∧ But fg H9 H' ∧ Two H' fg ∧ H' W' = some (.lst us) ∧ W' ≠ fg ∧ us.length ≤ 450 ∧ Gh K n [W', fg, Pt] H' us ds bs ∧ ∀ b ∈ bs, b = true, ?_, ?_⟩
      · refine ⟨_, rfl, fg, _, rfl, two10, by decide, by decide, fun z11 H11 z110 z111 two11 b11 => ⟨rfl, _, rfl, ?_⟩⟩
        have hW11 := b11 _ _ hW nW
        have g11 : Gh K n [W, fg, Pt] H11 us ds bs := g.keep fun b o e nb => b11 b o e fun z => nb (by rw [z]; simp)
        refine ite_any ?_ ?_
        · refine ⟨_, rfl, W, 9, us, rfl, rfl, hW11, by decide, by decide, (by show us.length * 9 ≤ sizeLine; rw [sizeLine_eq]; omega), fun W2 e2 => ?_⟩
          refine ⟨W2, _, _, _, rfl, (b10.trans b11).trans (But.of (same_new e2 _)), two11.same (same_new e2 _), upd_same, (two11.ne e2).symm, (by show (List.replicate 9 us).flatten.length ≤ 450; rw [len_rep]; omega), ((((g11.less (B' := [fg, Pt]) fun b hb => List.mem_cons_of_mem _ hb).rep 9).bump e2).keep fun b o e nb => by rw [upd_ne fun z => nb (by rw [z]; simp)]; exact e), fun b hb => ?_⟩
          obtain ⟨l, hl1, hl2⟩ := List.mem_flatten.mp hb
          rw [(List.mem_replicate.mp hl1).2] at hl2
          exact htr b hl2
        · exact ⟨W, us, ds, bs, rfl, b10.trans b11, two11, hW11, nW, by omega, g11, htr⟩
      clear hW hl g htr us ds bs
      rintro σ' H12 ⟨W', us, ds, bs, rfl, b12, two12, hW12, nW', hl12, g12, htr⟩
      have lt12 := lt9.but b12 two9
      have hJ12 : IsJob K H12 jv J := IsJob.kt (KT.two (b9.trans b12) two8) hJ8
      have nWP : W' ≠ Pt := fun z => by obtain ⟨ps, q0, _⟩ := lt12; rw [z, q0] at hW12; cases hW12
      have nfP : fg ≠ Pt := fun z => by obtain ⟨ps, q0, _⟩ := lt12; obtain ⟨x, y, q1⟩ := two12; rw [z, q0] at q1; cases q1
      have b212 : But Pt H2 H12 := But.of (same_but (s7.trans t8) nfg (b9.trans b12))
      have hJk : ∀ {H' : Hp}, ButF fg Pt H12 H' → IsJob K H' jv J := fun {H'} k => by
        refine IsJob.kt (fun b xs e => ?_) hJ12
        have nt : ∀ {c : Addr} {xs : List V}, H12 c = some (.tup xs) → c ≠ fg ∧ c ≠ Pt := fun {c xs} q0 => ⟨(fun z => by obtain ⟨x, y, q1⟩ := two12; rw [z, q1] at q0; cases q0), (fun z => by obtain ⟨ps, q1, _⟩ := lt12; rw [z, q1] at q0; cases q0)⟩
        rcases e with (e | ⟨o, e⟩) | e
        · exact .inl (.inl (k _ _ e (nt e).1 (nt e).2))
        · exact .inl (.inr ⟨o, k _ _ e (fun z => by obtain ⟨x, y, q1⟩ := two12; rw [z, q1] at e; cases e) (fun z => by obtain ⟨ps, q1, _⟩ := lt12; rw [z, q1] at e; cases e)⟩)
        · exact .inr e
      refine ⟨_, rfl, by decide, by decide, ?_⟩
      refine for_range (lo := 0) (n := 6) (fun j σ H13 => ∃ (v6 v7 v8 v9 v10 v11 v12 : Option V), σ = [some (.ref a), some (.int (0 + (i : Int) * 2)), some (.ref fg), some jv, some (natV n), some (.ref W'), v6, v7, v8, v9, v10, v11, v12] ∧ ButF fg Pt H12 H13 ∧ Two H13 fg ∧ LamT H13 Pt lamQ)
        ⟨_, _, _, _, _, _, _, rfl, ButF.refl _ _ _, two12, lt12⟩ ?_ ?_
      · rintro j σ H13 hj ⟨v6, v7, v8, v9, v10, v11, v12, rfl, k13, two13, lt13⟩
        have hW13 := k13 _ _ hW12 nW' nWP
        have g13 : Gh K n [W', fg, Pt] H13 us ds bs := g12.keep fun b o e nb => k13 b o e (fun z => nb (by rw [z]; simp)) (fun z => nb (by rw [z]; simp))
        refine ⟨_, rfl, W', us, rfl, .inl (SqL.of hW13), fun S eS => ?_⟩
        have t14 := same_new eS (.lst us)
        have hS14 : (upd H13 S (.lst us)) S = some (.lst us) := upd_same
        have nSf : S ≠ fg := (two13.ne eS).symm
        have nSP : S ≠ Pt := fun z => by obtain ⟨ps, q0, _⟩ := lt13; rw [z, q0] at eS; cases eS
        have two14 := two13.same t14
        have lt14 := lt13.same t14
        have g14 : Gh K n [S, fg, Pt] (upd H13 S (.lst us)) us ds bs := ((g13.less (B' := [fg, Pt]) fun b hb => List.mem_cons_of_mem _ hb).bump eS).keep fun b o e nb => by rw [upd_ne fun z => nb (by rw [z]; simp)]; exact e
        have k14 : ButF fg Pt H12 (upd H13 S (.lst us)) := k13.trans (.of (But.of t14))
        have sfree : ∀ b o, H12 b = some o → b ≠ fg → b ≠ Pt → b ≠ S := fun b o e n1 n2 z => by rw [z] at e; rw [k13 _ _ e nSf nSP] at eS; cases eS
        generalize upd H13 S (.lst us) = H14 at *
        refine ⟨fun σ' H' => ∃ (w8 : Option V) (us2 : List V) (ds2 : List PyData) (bs2 : List Bool), σ' = [some (.ref a), some (.int (0 + (i : Int) * 2)), some (.ref fg), some jv, some (natV n), some (.ref W'), some (.int (0 + (j : Int))), some (.ref S), w8, v9, v10, v11, v12] ∧ ButF fg Pt H12 H' ∧ Two H' fg ∧ LamT H' Pt lamQ ∧ H' S = some (.lst us2) ∧ us2.length ≤ 460 ∧ Gh K n [S, fg, Pt] H' us2 ds2 bs2, ?_, ?_⟩
        · refine ⟨_, rfl, fg, _, rfl, two14, by decide, by decide, fun z15 H15 z150 z151 two15 b15 => ⟨_, _, rfl, rfl, ?_⟩⟩
          refine ⟨_, rfl, (by show -(2 ^ 62) ≤ 1 + z15; omega), (by show 1 + z15 < 2 ^ 62; omega), ?_⟩
          refine for_range (lo := 0) (n := (1 + z15).toNat) (fun l σ H16 => ∃ (w8 : Option V) (us2 : List V) (ds2 : List PyData) (bs2 : List Bool), σ = [some (.ref a), some (.int (0 + (i : Int) * 2)), some (.ref fg), some jv, some (natV n), some (.ref W'), some (.int (0 + (j : Int))), some (.ref S), w8, v9, v10, v11, v12] ∧ ButF fg Pt H12 H16 ∧ Two H16 fg ∧ LamT H16 Pt lamQ ∧ H16 S = some (.lst us2) ∧ us2.length ≤ 450 + l ∧ Gh K n [S, fg, Pt] H16 us2 ds2 bs2)
            ⟨_, us, ds, bs, rfl, k14.trans (.of b15), two15, lt14.but b15 two14, b15 _ _ hS14 nSf, by omega, g14.keep fun b o e nb => b15 b o e fun z => nb (by rw [z]; simp)⟩ ?_ ?_
          · rintro l σ H16 hl16 ⟨w8, us2, ds2, bs2, rfl, k16, two16, lt16, hS16, hl2, g16⟩
            have hl10 : l < 2 := by omega
            refine ⟨_, rfl, .inl ⟨rfl, _, SqL.of hS16⟩, _, rfl, _, rfl, S, us2, rfl, .inl (SqL.of hS16), _, _, rfl, rfl, fg, _, rfl, two16, by omega, by omega, fun z17 H17 z170 z171 two17 b17 => ?_⟩
            have lt17 := lt16.but b17 two16
            refine ⟨_, rfl, _, rfl, fg, n, rfl, two17, hn0, hn6, fun u d b H18 G sG nG te two18 b18 => ?_⟩
            have hS18 := b18 _ _ (b17 _ _ hS16 nSf) nSf
            refine ⟨S, us2, z17, u, rfl, rfl, hS18, z170, by omega, by omega, ?_⟩
            have g18 : Gh K n [S, fg, Pt] H18 us2 ds2 bs2 := g16.keep fun b o e nb => (b17.trans b18) b o e fun z => nb (by rw [z]; simp)
            have g1 : Gh K n [S, fg, Pt] H18 [u] [d] [b] := Gh.one sG (fun c hc => by
              simp only [List.mem_cons, List.not_mem_nil, or_false] at hc
              refine nG c ?_
              rcases hc with e | e | e
              · exact .inr (by rw [e, b17 _ _ hS16 nSf]; exact fun z => nomatch z)
              · exact .inl e
              · obtain ⟨ps, q0, _⟩ := lt17
                exact .inr (by rw [e, q0]; exact fun z => nomatch z)) te
            refine ⟨_, _, _, _, rfl, fun c o e n1 n2 => ?_, two18.put nSf.symm _, ?_, upd_same, ?_, ((g18.take z17.toNat).app (g1.app (g18.drop z17.toNat))).keep fun b o e nb => by rw [upd_ne fun z => nb (by rw [z]; simp)]; exact e⟩
            · rw [upd_ne (sfree c o e n1 n2)]
              exact (b17.trans b18) _ _ (k16 c o e n1 n2) n1
            · have lt18 := lt17.but b18 two17
              obtain ⟨ps, q1, q2, q3⟩ := lt18
              have ns : ∀ {c : Addr} {o : HO}, H18 c = some o → (∀ l, o ≠ .lst l) → c ≠ S := fun {c o} e no z => by rw [z, hS18] at e; cases e; exact no _ rfl
              exact ⟨ps, by rw [upd_ne (ns q1 fun _ z => nomatch z)]; exact q1, q2, fun pos => (q3 pos).imp id fun ⟨c, x, y⟩ => ⟨c, x, by rw [upd_ne (ns y fun _ z => nomatch z)]; exact y⟩⟩
            · have := List.length_append (as := us2.take z17.toNat) (bs := u :: us2.drop z17.toNat)
              rw [List.length_cons, List.length_take, List.length_drop] at this
              omega
          · rintro σ H16 ⟨w8, us2, ds2, bs2, rfl, k16, two16, lt16, hS16, hl2, g16⟩
            exact ⟨w8, us2, ds2, bs2, rfl, k16, two16, lt16, hS16, by omega, g16⟩
        clear g14 hS14
        rintro σ' H19 ⟨w8, us2, ds2, bs2, rfl, k19, two19, lt19, hS19, hl19, g19⟩
        have hlb := g19.len
        refine ⟨_, rfl, S, us2, rfl, .inl (SqL.of hS19), _, rfl, by omega, by omega, fun R eR => ?_⟩
        refine lc_range (lo := 0) (n := ((us2.length : Nat) : Int).toNat) (fun i H' => Same H19 H' ∧ H' R = some (.lst ((noneF (bs2.take i) 0).map natV))) ⟨same_new eR _, upd_same⟩ ?_ ?_
        · rintro l H20 hl20 ⟨s20, hR20⟩
          have hl20' : l < us2.length := by omega
          obtain ⟨d, b, hb, te⟩ := g19.ents.at_ (List.getElem?_eq_getElem hl20')
          have hll : l ≤ bs2.length := by omega
          have stepN : noneF (bs2.take (l + 1)) 0 = noneF (bs2.take l) 0 ++ noneF [b] l := by
            rw [List.take_add_one, hb, noneF_app, List.length_take, Nat.min_eq_left hll, Nat.zero_add]
            rfl
          refine ⟨rfl, ?_⟩
          refine ⟨_, rfl, _, rfl, S, us2, _, us2[l], rfl, rfl, SqL.of (s20 _ _ hS19), ?_, _, rfl, us2[l], n, b, rfl, hn0, by omega, te.tu H20 s20, _, rfl, ?_⟩
          · show atI us2 (0 + (l : Int)) = _
            rw [Int.zero_add]
            exact atI_nat (List.getElem?_eq_getElem hl20')
          cases b with
          | true =>
            refine iteF ⟨s20, ?_⟩
            rw [stepN, show noneF [true] l = [] from rfl, List.append_nil]
            exact hR20
          | false =>
            refine iteT ?_
            refine ⟨_, rfl, _, hR20, ?_, fun b o e => by rw [upd_ne (ne_of_none e eR)]; exact s20 b o e, ?_⟩
            · rw [List.length_map, sizeLine_eq]
              have : ∀ (bs : List Bool) (i : Nat), (noneF bs i).length ≤ bs.length := fun bs => by
                induction bs with
                | nil => intro i; exact Nat.le_refl _
                | cons b r ih =>
                  intro i
                  unfold noneF
                  have := ih (i + 1)
                  split
                  · rw [List.length_cons]; omega
                  · rw [List.length_cons, List.length_cons]; omega
              have h1 := this (bs2.take l) 0
              rw [List.length_take] at h1
              omega
            · rw [upd_same, stepN, List.map_append, show noneF [false] l = [l] from rfl, show V.int (0 + (l : Int)) = natV l by rw [Int.zero_add]; rfl]
              rfl
        rintro H20 ⟨s20, hR20⟩
        rw [show ((us2.length : Nat) : Int).toNat = bs2.length by omega, List.take_length] at hR20
        refine ⟨fun v H' => v = whV (noneF bs2 0) ∧ Same H20 H', ?_, ?_⟩
        · refine ⟨_, rfl, (by show 0 ≤ sizeLine; decide), fun Z eZ => ?_⟩
          have sZ := same_new eZ (.lst [])
          refine ⟨.list ((noneF bs2 0).map natD), .list [], .lst (SqL.of (sZ _ _ hR20)) (dp_nats _), .lst (SqL.of upd_same) .nil, nats_shaped _, by decide +kernel, _, rfl, ?_⟩
          cases hw : noneF bs2 0 with
          | nil =>
            rw [show (!PyData.eqv (.list (([] : List Nat).map natD)) (.list [])) = false by decide +kernel]
            exact iteF ⟨rfl, sZ⟩
          | cons i0 r0 =>
            rw [show (!PyData.eqv (.list ((i0 :: r0).map natD)) (.list [])) = true by first | rfl | simp [PyData.eqv, PyData.eqvAll]]
            refine iteT ?_
            rw [hw] at hR20
            exact ⟨_, rfl, R, _, _, _, rfl, rfl, SqL.of (sZ _ _ hR20), atI_nat (j := 0) rfl, rfl, sZ⟩
        rintro v H22 ⟨rfl, s22⟩
        have s1922 := s20.trans s22
        have hS22 := s1922 _ _ hS19
        have te22 : TEnts K H22 n us2 ds2 bs2 := g19.ents.same s1922
        have rpS : ReprOk (.list ds2) := g19.ents.repr (by omega)
        have lt22 := lt19.same s1922
        have hwj : ∀ j ∈ noneF bs2 0, j ≤ 1000 := fun j hj => by have := noneF_lt hj; omega
        have k22 : ButF fg Pt H12 H22 := k19.trans (fun b o e _ _ => s1922 b o e)
        obtain ⟨fx, fy, hf22⟩ := two19.same s1922
        refine ⟨_, rfl, _, .list ds2, rfl, .lst (SqL.of hS22) te22.dps, rpS, ?_⟩
        refine ⟨lt22, fun bs' fl cc fd2 H23 b23 lt23 hcc2 Mb Bb hfa hfn => ?_⟩
        have hS23 := b23 _ _ hS22 nSP
        have k23 := k22.trans (.of2 b23)
        have g23 : Gh K n [S, fg, Pt] H23 us2 ds2 bs2 := g19.keep fun b o e nb => b23 b o (s1922 b o e) fun z => nb (by rw [z]; simp)
        refine word_woven (k := 7) kd xo na hfa hfn rfl rfl rfl hcc2 (hJk k23) ok hn0 (by omega) hS23 (by omega) g23.ents.turns fun H24 s24 => ?_
        refine ⟨_, whD (noneF bs2 0), rfl, wh_dp _, wh_ok hwj, ?_⟩
        refine ⟨_, rfl, _, whD (noneF bs2 0), rfl, wh_dp _, wh_ok hwj, ?_⟩
        refine ⟨rfl, _, rfl, ?_⟩
        rw [show decide (V.str (whD (noneF bs2 0)).shown = V.str (whD (noneF bs2 0)).shown) = true from decide_eq_true rfl]
        refine iteF ?_
        refine ⟨_, rfl, _, .list ds2, rfl, .lst (SqL.of (s24 _ _ hS23)) (g23.ents.same s24).dps, rpS, ?_⟩
        refine ⟨_, rfl, rfl, _, rfl, ?_⟩
        rw [show decide (V.str (PyData.list ds2).shown = V.str (PyData.list ds2).shown) = true from decide_eq_true rfl]
        refine iteF ?_
        exact ⟨_, _, _, _, _, _, _, rfl, k23.trans (fun b o e _ _ => s24 b o e), ⟨fx, fy, s24 _ _ (b23 _ _ hf22 nfP)⟩, lt23.same s24⟩
      · rintro σ H13 ⟨v6, v7, v8, v9, v10, v11, v12, rfl, k13, two13, lt13⟩
        have hW13 := k13 _ _ hW12 nW' nWP
        refine ⟨lt13, fun bs' fl cc fd2 H14 b14 lt14 hcc2 Mb Bb hfa hfn => ?_⟩
        have k14 : ButF fg Pt H12 H14 := k13.trans (.of2 b14)
        have g14 : Gh K n [W', fg, Pt] H14 us ds bs := g12.keep fun b o e nb => k14 b o e (fun z => nb (by rw [z]; simp)) (fun z => nb (by rw [z]; simp))
        refine word_woven (k := 5) kd xo na hfa hfn rfl rfl rfl hcc2 (hJk k14) ok hn0 (by omega) (b14 _ _ hW13 nWP) (by omega) g14.ents.turns fun H15 s15 => ?_
        rw [noneF_true htr]
        refine ⟨rfl, _, rfl, ?_⟩
        refine iteF ?_
        exact ⟨_, _, _, _, _, _, _, _, _, _, _, _, rfl, b2.trans (fun b o e nb => s15 b o (k14 b o (b212 b o e nb) (ne_of_none e nfg) nb)), lt14.same s15⟩
    · rintro σ H2 ⟨v1, v2, v3, v4, v5, v6, v7, v8, v9, v10, v11, v12, rfl, b2, lt2⟩
      exact q _
end
end Far
set_option Elab.async false
set_option linter.all false
set_option maxRecDepth 100000
set_option maxHeartbeats 4000000
set_option pp.maxSteps 300
namespace Far
open PySem L2
theorem all_mk {l : PySem.W.OpenLaw} {w : World} {K : PySem.W.Frag} {h : Heap} {mg : Str → Option Value} {CF CN c1_ c2_ c3_ c4_ c5_ c6_ c7_ fa ct_ Pt C f1 f2 f3 f4 f5 f6 f7 f8 f9 f10 f11 f12 f13 f14 f15 f16 f17 f18 f19 f20 f21 f22 f23 f24 f25 f26 f27 f28 f29 f30 f31 f32 f33 f34 f35 : Addr} (X : K.In h) (G : h.Ns mainGlobals mg) (hfa : mg "law" = some (.ref fa))
    {od1 an1 od2 an2 od3 an3 od4 an4 od5 an5 od6 an6 od7 an7 od8 an8 od9 an9 od10 an10 od11 an11 od12 an12 od13 an13 od14 an14 od15 an15 od16 an16 od17 an17 od18 an18 od19 an19 od20 an20 od21 an21 od22 an22 od23 an23 od24 an24 od25 an25 od26 an26 od27 an27 od28 an28 od29 an29 od30 an30 od31 an31 od32 an32 od33 an33 od34 an34 od35 an35 : Option Addr} {sl1 sl2 sl3 sl4 sl5 sl6 sl7 sl8 sl9 sl10 sl11 sl12 sl13 sl14 sl15 sl16 sl17 sl18 sl19 sl20 sl21 sl22 sl23 sl24 sl25 sl26 sl27 sl28 sl29 sl30 sl31 sl32 sl33 sl34 sl35 : Array (Option Value)} {qct : Value} {qdt : Option Addr} {vsCt : Array Value} {qst : Array (Option Value)} {oc1 kV1 dc1 pm1 cd1 ct1 oc2 kV2 dc2 pm2 cd2 ct2 oc3 kV3 dc3 pm3 cd3 ct3 oc4 kV4 dc4 pm4 cd4 ct4 oc5 kV5 dc5 pm5 cd5 ct5 oc6 kV6 dc6 pm6 cd6 ct6 oc7 kV7 dc7 pm7 cd7 ct7 oc8 kV8 dc8 pm8 cd8 ct8 oc9 kV9 dc9 pm9 cd9 ct9 oc10 kV10 dc10 pm10 cd10 ct10 oc11 kV11 dc11 pm11 cd11 ct11 oc12 kV12 dc12 pm12 cd12 ct12 oc13 kV13 dc13 pm13 cd13 ct13 oc14 kV14 dc14 pm14 cd14 ct14 oc15 kV15 dc15 pm15 cd15 ct15 oc16 kV16 dc16 pm16 cd16 ct16 oc17 kV17 dc17 pm17 cd17 ct17 oc18 kV18 dc18 pm18 cd18 ct18 oc19 kV19 dc19 pm19 cd19 ct19 oc20 kV20 dc20 pm20 cd20 ct20 oc21 kV21 dc21 pm21 cd21 ct21 oc22 kV22 dc22 pm22 cd22 ct22 oc23 kV23 dc23 pm23 cd23 ct23 oc24 kV24 dc24 pm24 cd24 ct24 oc25 kV25 dc25 pm25 cd25 ct25 oc26 kV26 dc26 pm26 cd26 ct26 oc27 kV27 dc27 pm27 cd27 ct27 oc28 kV28 dc28 pm28 cd28 ct28 oc29 kV29 dc29 pm29 cd29 ct29 oc30 kV30 dc30 pm30 cd30 ct30 oc31 kV31 dc31 pm31 cd31 ct31 oc32 kV32 dc32 pm32 cd32 ct32 oc33 kV33 dc33 pm33 cd33 ct33 oc34 kV34 dc34 pm34 cd34 ct34 oc35 kV35 dc35 pm35 ct35 : Value}
    (aC : PySem.W.nsIn K mainGlobals "Crew" = some (some (.ref C)))
    (a1 : PySem.W.nsIn K mainGlobals "sends" = some (some (.ref f1))) (l1 : K.lookup f1 = some ⟨oc1, od1, .func (PySem.W.fnOf "sends" "sends" (defArgs sSends) (defBody sSends) (defScope sSends) .none kV1 dc1 pm1 an1 cd1 ct1), sl1⟩) (c1 : PySem.W.codeIn K cd1 "sends" = true) (k1 : PySem.W.keepIn K (.ref f1) = true)
    (a2 : PySem.W.nsIn K mainGlobals "senders" = some (some (.ref f2))) (l2 : K.lookup f2 = some ⟨oc2, od2, .func (PySem.W.fnOf "senders" "senders" (defArgs sSenders) (defBody sSenders) (defScope sSenders) .none kV2 dc2 pm2 an2 cd2 ct2), sl2⟩) (c2 : PySem.W.codeIn K cd2 "senders" = true) (k2 : PySem.W.keepIn K (.ref f2) = true)
    (a3 : PySem.W.nsIn K mainGlobals "parents" = some (some (.ref f3))) (l3 : K.lookup f3 = some ⟨oc3, od3, .func (PySem.W.fnOf "parents" "parents" (defArgs sParents) (defBody sParents) (defScope sParents) .none kV3 dc3 pm3 an3 cd3 ct3), sl3⟩) (c3 : PySem.W.codeIn K cd3 "parents" = true) (k3 : PySem.W.keepIn K (.ref f3) = true)
    (a4 : PySem.W.findIn K (.ref C) "__init__" = some (some (.ref f4))) (i4 : PySem.W.isFn K (.ref f4) = true) (l4 : K.lookup f4 = some ⟨oc4, od4, .func (PySem.W.fnOf "__init__" "Crew.__init__" (defArgs sInit) (defBody sInit) (defScope sInit) .none kV4 dc4 pm4 an4 cd4 ct4), sl4⟩) (c4 : PySem.W.codeIn K cd4 "Crew.__init__" = true) (k4 : PySem.W.keepIn K (.ref f4) = true)
    (a5 : PySem.W.findIn K (.ref C) "all_ended" = some (some (.ref f5))) (i5 : PySem.W.isFn K (.ref f5) = true) (l5 : K.lookup f5 = some ⟨oc5, od5, .func (PySem.W.fnOf "all_ended" "Crew.all_ended" (defArgs sEnded) (defBody sEnded) (defScope sEnded) .none kV5 dc5 pm5 an5 cd5 ct5), sl5⟩) (c5 : PySem.W.codeIn K cd5 "Crew.all_ended" = true) (k5 : PySem.W.keepIn K (.ref f5) = true)
    (a6 : PySem.W.findIn K (.ref C) "begin" = some (some (.ref f6))) (i6 : PySem.W.isFn K (.ref f6) = true) (l6 : K.lookup f6 = some ⟨oc6, od6, .func (PySem.W.fnOf "begin" "Crew.begin" (defArgs sBegin) (defBody sBegin) (defScope sBegin) .none kV6 dc6 pm6 an6 cd6 ct6), sl6⟩) (c6 : PySem.W.codeIn K cd6 "Crew.begin" = true) (k6 : PySem.W.keepIn K (.ref f6) = true)
    (a7 : PySem.W.findIn K (.ref C) "end" = some (some (.ref f7))) (i7 : PySem.W.isFn K (.ref f7) = true) (l7 : K.lookup f7 = some ⟨oc7, od7, .func (PySem.W.fnOf "end" "Crew.end" (defArgs sEnd) (defBody sEnd) (defScope sEnd) .none kV7 dc7 pm7 an7 cd7 ct7), sl7⟩) (c7 : PySem.W.codeIn K cd7 "Crew.end" = true) (k7 : PySem.W.keepIn K (.ref f7) = true)
    (a8 : PySem.W.findIn K (.ref C) "has_living_child" = some (some (.ref f8))) (i8 : PySem.W.isFn K (.ref f8) = true) (l8 : K.lookup f8 = some ⟨oc8, od8, .func (PySem.W.fnOf "has_living_child" "Crew.has_living_child" (defArgs sHasKid) (defBody sHasKid) (defScope sHasKid) .none kV8 dc8 pm8 an8 cd8 ct8), sl8⟩) (c8 : PySem.W.codeIn K cd8 "Crew.has_living_child" = true) (k8 : PySem.W.keepIn K (.ref f8) = true)
    (a9 : PySem.W.findIn K (.ref C) "none_left" = some (some (.ref f9))) (i9 : PySem.W.isFn K (.ref f9) = true) (l9 : K.lookup f9 = some ⟨oc9, od9, .func (PySem.W.fnOf "none_left" "Crew.none_left" (defArgs sNoneLeft) (defBody sNoneLeft) (defScope sNoneLeft) .none kV9 dc9 pm9 an9 cd9 ct9), sl9⟩) (c9 : PySem.W.codeIn K cd9 "Crew.none_left" = true) (k9 : PySem.W.keepIn K (.ref f9) = true)
    (a10 : PySem.W.findIn K (.ref C) "waits_or_none_left" = some (some (.ref f10))) (i10 : PySem.W.isFn K (.ref f10) = true) (l10 : K.lookup f10 = some ⟨oc10, od10, .func (PySem.W.fnOf "waits_or_none_left" "Crew.waits_or_none_left" (defArgs sWaitsOr) (defBody sWaitsOr) (defScope sWaitsOr) .none kV10 dc10 pm10 an10 cd10 ct10), sl10⟩) (c10 : PySem.W.codeIn K cd10 "Crew.waits_or_none_left" = true) (k10 : PySem.W.keepIn K (.ref f10) = true)
    (a11 : PySem.W.findIn K (.ref C) "foretold" = some (some (.ref f11))) (i11 : PySem.W.isFn K (.ref f11) = true) (l11 : K.lookup f11 = some ⟨oc11, od11, .func (PySem.W.fnOf "foretold" "Crew.foretold" (defArgs sFore) (defBody sFore) (defScope sFore) .none kV11 dc11 pm11 an11 cd11 ct11), sl11⟩) (c11 : PySem.W.codeIn K cd11 "Crew.foretold" = true) (k11 : PySem.W.keepIn K (.ref f11) = true)
    (a12 : PySem.W.findIn K (.ref C) "take_turn" = some (some (.ref f12))) (i12 : PySem.W.isFn K (.ref f12) = true) (l12 : K.lookup f12 = some ⟨oc12, od12, .func (PySem.W.fnOf "take_turn" "Crew.take_turn" (defArgs sTakeT) (defBody sTakeT) (defScope sTakeT) .none kV12 dc12 pm12 an12 cd12 ct12), sl12⟩) (c12 : PySem.W.codeIn K cd12 "Crew.take_turn" = true) (k12 : PySem.W.keepIn K (.ref f12) = true)
    (a13 : PySem.W.findIn K (.ref C) "do_step" = some (some (.ref f13))) (i13 : PySem.W.isFn K (.ref f13) = true) (l13 : K.lookup f13 = some ⟨oc13, od13, .func (PySem.W.fnOf "do_step" "Crew.do_step" (defArgs sDoStep) (defBody sDoStep) (defScope sDoStep) .none kV13 dc13 pm13 an13 cd13 ct13), sl13⟩) (c13 : PySem.W.codeIn K cd13 "Crew.do_step" = true) (k13 : PySem.W.keepIn K (.ref f13) = true)
    (a14 : PySem.W.findIn K (.ref C) "send_off" = some (some (.ref f14))) (i14 : PySem.W.isFn K (.ref f14) = true) (l14 : K.lookup f14 = some ⟨oc14, od14, .func (PySem.W.fnOf "send_off" "Crew.send_off" (defArgs sSendOff) (defBody sSendOff) (defScope sSendOff) .none kV14 dc14 pm14 an14 cd14 ct14), sl14⟩) (c14 : PySem.W.codeIn K cd14 "Crew.send_off" = true) (k14 : PySem.W.keepIn K (.ref f14) = true)
    (a15 : PySem.W.findIn K (.ref C) "settle" = some (some (.ref f15))) (i15 : PySem.W.isFn K (.ref f15) = true) (l15 : K.lookup f15 = some ⟨oc15, od15, .func (PySem.W.fnOf "settle" "Crew.settle" (defArgs sSettle) (defBody sSettle) (defScope sSettle) .none kV15 dc15 pm15 an15 cd15 ct15), sl15⟩) (c15 : PySem.W.codeIn K cd15 "Crew.settle" = true) (k15 : PySem.W.keepIn K (.ref f15) = true)
    (a16 : PySem.W.findIn K (.ref C) "must_leave" = some (some (.ref f16))) (i16 : PySem.W.isFn K (.ref f16) = true) (l16 : K.lookup f16 = some ⟨oc16, od16, .func (PySem.W.fnOf "must_leave" "Crew.must_leave" (defArgs sMust) (defBody sMust) (defScope sMust) .none kV16 dc16 pm16 an16 cd16 ct16), sl16⟩) (c16 : PySem.W.codeIn K cd16 "Crew.must_leave" = true) (k16 : PySem.W.keepIn K (.ref f16) = true)
    (a17 : PySem.W.findIn K (.ref C) "leave" = some (some (.ref f17))) (i17 : PySem.W.isFn K (.ref f17) = true) (l17 : K.lookup f17 = some ⟨oc17, od17, .func (PySem.W.fnOf "leave" "Crew.leave" (defArgs sLeave) (defBody sLeave) (defScope sLeave) .none kV17 dc17 pm17 an17 cd17 ct17), sl17⟩) (c17 : PySem.W.codeIn K cd17 "Crew.leave" = true) (k17 : PySem.W.keepIn K (.ref f17) = true)
    (a18 : PySem.W.nsIn K mainGlobals "is_whole" = some (some (.ref f18))) (l18 : K.lookup f18 = some ⟨oc18, od18, .func (PySem.W.fnOf "is_whole" "is_whole" (defArgs sIsWhole) (defBody sIsWhole) (defScope sIsWhole) .none kV18 dc18 pm18 an18 cd18 ct18), sl18⟩) (c18 : PySem.W.codeIn K cd18 "is_whole" = true) (k18 : PySem.W.keepIn K (.ref f18) = true)
    (a19 : PySem.W.nsIn K mainGlobals "other_hands" = some (some (.ref f19))) (l19 : K.lookup f19 = some ⟨oc19, od19, .func (PySem.W.fnOf "other_hands" "other_hands" (defArgs sOther) (defBody sOther) (defScope sOther) .none kV19 dc19 pm19 an19 cd19 ct19), sl19⟩) (c19 : PySem.W.codeIn K cd19 "other_hands" = true) (k19 : PySem.W.keepIn K (.ref f19) = true)
    (a20 : PySem.W.nsIn K mainGlobals "looks" = some (some (.ref f20))) (l20 : K.lookup f20 = some ⟨oc20, od20, .func (PySem.W.fnOf "looks" "looks" (defArgs sLooks) (defBody sLooks) (defScope sLooks) .none kV20 dc20 pm20 an20 cd20 ct20), sl20⟩) (c20 : PySem.W.codeIn K cd20 "looks" = true) (k20 : PySem.W.keepIn K (.ref f20) = true)
    (a21 : PySem.W.nsIn K mainGlobals "is_hand" = some (some (.ref f21))) (l21 : K.lookup f21 = some ⟨oc21, od21, .func (PySem.W.fnOf "is_hand" "is_hand" (defArgs sIsHand) (defBody sIsHand) (defScope sIsHand) .none kV21 dc21 pm21 an21 cd21 ct21), sl21⟩) (c21 : PySem.W.codeIn K cd21 "is_hand" = true) (k21 : PySem.W.keepIn K (.ref f21) = true)
    (a22 : PySem.W.nsIn K mainGlobals "is_turn" = some (some (.ref f22))) (l22 : K.lookup f22 = some ⟨oc22, od22, .func (PySem.W.fnOf "is_turn" "is_turn" (defArgs sIsTurn) (defBody sIsTurn) (defScope sIsTurn) .none kV22 dc22 pm22 an22 cd22 ct22), sl22⟩) (c22 : PySem.W.codeIn K cd22 "is_turn" = true) (k22 : PySem.W.keepIn K (.ref f22) = true)
    (a23 : PySem.W.findIn K (.ref CN) "__init__" = some (some (.ref f23))) (i23 : PySem.W.isFn K (.ref f23) = true) (l23 : K.lookup f23 = some ⟨oc23, od23, .func (PySem.W.fnOf "__init__" "NoTurn.__init__" (defArgs sNTInit) (defBody sNTInit) (defScope sNTInit) .none kV23 dc23 pm23 an23 cd23 ct23), sl23⟩) (c23 : PySem.W.codeIn K cd23 "NoTurn.__init__" = true) (k23 : PySem.W.keepIn K (.ref f23) = true)
    (a24 : PySem.W.nsIn K mainGlobals "woven" = some (some (.ref f24))) (l24 : K.lookup f24 = some ⟨oc24, od24, .func (PySem.W.fnOf "woven" "woven" (defArgs sWoven) (defBody sWoven) (defScope sWoven) .none kV24 dc24 pm24 an24 cd24 ct24), sl24⟩) (c24 : PySem.W.codeIn K cd24 "woven" = true) (k24 : PySem.W.keepIn K (.ref f24) = true)
    (a25 : PySem.W.nsIn K mainGlobals "_law_feed" = some (some (.ref f25))) (l25 : K.lookup f25 = some ⟨oc25, od25, .func (PySem.W.fnOf "_law_feed" "_law_feed" (defArgs sFeed) (defBody sFeed) (defScope sFeed) .none kV25 dc25 pm25 an25 cd25 ct25), sl25⟩) (c25 : PySem.W.codeIn K cd25 "_law_feed" = true) (k25 : PySem.W.keepIn K (.ref f25) = true)
    (a26 : PySem.W.nsIn K mainGlobals "_law_take" = some (some (.ref f26))) (l26 : K.lookup f26 = some ⟨oc26, od26, .func (PySem.W.fnOf "_law_take" "_law_take" (defArgs sTake) (defBody sTake) (defScope sTake) .none kV26 dc26 pm26 an26 cd26 ct26), sl26⟩) (c26 : PySem.W.codeIn K cd26 "_law_take" = true) (k26 : PySem.W.keepIn K (.ref f26) = true)
    (a27 : PySem.W.nsIn K mainGlobals "_law_pick" = some (some (.ref f27))) (l27 : K.lookup f27 = some ⟨oc27, od27, .func (PySem.W.fnOf "_law_pick" "_law_pick" (defArgs sPick) (defBody sPick) (defScope sPick) .none kV27 dc27 pm27 an27 cd27 ct27), sl27⟩) (c27 : PySem.W.codeIn K cd27 "_law_pick" = true) (k27 : PySem.W.keepIn K (.ref f27) = true)
    (a28 : PySem.W.nsIn K mainGlobals "_law_steps" = some (some (.ref f28))) (l28 : K.lookup f28 = some ⟨oc28, od28, .func (PySem.W.fnOf "_law_steps" "_law_steps" (defArgs sSteps) (defBody sSteps) (defScope sSteps) .none kV28 dc28 pm28 an28 cd28 ct28), sl28⟩) (c28 : PySem.W.codeIn K cd28 "_law_steps" = true) (k28 : PySem.W.keepIn K (.ref f28) = true)
    (a29 : PySem.W.nsIn K mainGlobals "_law_job" = some (some (.ref f29))) (l29 : K.lookup f29 = some ⟨oc29, od29, .func (PySem.W.fnOf "_law_job" "_law_job" (defArgs sJob) (defBody sJob) (defScope sJob) .none kV29 dc29 pm29 an29 cd29 ct29), sl29⟩) (c29 : PySem.W.codeIn K cd29 "_law_job" = true) (k29 : PySem.W.keepIn K (.ref f29) = true)
    (a30 : PySem.W.nsIn K mainGlobals "_law_turn" = some (some (.ref f30))) (l30 : K.lookup f30 = some ⟨oc30, od30, .func (PySem.W.fnOf "_law_turn" "_law_turn" (defArgs sTurn) (defBody sTurn) (defScope sTurn) .none kV30 dc30 pm30 an30 cd30 ct30), sl30⟩) (c30 : PySem.W.codeIn K cd30 "_law_turn" = true) (k30 : PySem.W.keepIn K (.ref f30) = true)
    (a31 : PySem.W.nsIn K mainGlobals "_law_word" = some (some (.ref f31))) (l31 : K.lookup f31 = some ⟨oc31, od31, .func (PySem.W.fnOf "_law_word" "_law_word" (defArgs sWord) (defBody sWord) (defScope sWord) .none kV31 dc31 pm31 an31 cd31 ct31), sl31⟩) (c31 : PySem.W.codeIn K cd31 "_law_word" = true) (k31 : PySem.W.keepIn K (.ref f31) = true)
    (a32 : PySem.W.nsIn K mainGlobals "_law_whole" = some (some (.ref f32))) (l32 : K.lookup f32 = some ⟨oc32, od32, .func (PySem.W.fnOf "_law_whole" "_law_whole" (defArgs sLWhole) (defBody sLWhole) (defScope sLWhole) .none kV32 dc32 pm32 an32 cd32 ct32), sl32⟩) (c32 : PySem.W.codeIn K cd32 "_law_whole" = true) (k32 : PySem.W.keepIn K (.ref f32) = true)
    (a33 : PySem.W.nsIn K mainGlobals "_law_is_turn" = some (some (.ref f33))) (l33 : K.lookup f33 = some ⟨oc33, od33, .func (PySem.W.fnOf "_law_is_turn" "_law_is_turn" (defArgs sLIsTurn) (defBody sLIsTurn) (defScope sLIsTurn) .none kV33 dc33 pm33 an33 cd33 ct33), sl33⟩) (c33 : PySem.W.codeIn K cd33 "_law_is_turn" = true) (k33 : PySem.W.keepIn K (.ref f33) = true)
    (a34 : PySem.W.nsIn K mainGlobals "_law_odd" = some (some (.ref f34))) (l34 : K.lookup f34 = some ⟨oc34, od34, .func (PySem.W.fnOf "_law_odd" "_law_odd" (defArgs sOdd) (defBody sOdd) (defScope sOdd) .none kV34 dc34 pm34 an34 cd34 ct34), sl34⟩) (c34 : PySem.W.codeIn K cd34 "_law_odd" = true) (k34 : PySem.W.keepIn K (.ref f34) = true)
    (a35 : PySem.W.nsIn K mainGlobals "law" = some (some (.ref f35))) (l35 : K.lookup f35 = some ⟨oc35, od35, .func (PySem.W.fnOf "law" "law" (defArgs sLaw) (defBody sLaw) (defScope sLaw) .none kV35 dc35 pm35 an35 (.ref ct_) ct35), sl35⟩) (c35 : PySem.W.codeIn K (.ref ct_) "law" = true) (k35 : PySem.W.keepIn K (.ref f35) = true)
    (pg : PySem.W.plainGet K C Str.empty = true) (hd : PySem.W.hasDictIn K C = true) (po : PySem.W.plainOver K C = true) (sa : PySem.W.findIn K (.ref C) "__setattr__" = some (some (.builtin "object.__setattr__"))) (mk : PySem.W.makesIn K C = true) (kc : PySem.W.keepIn K (.ref C) = true)
    (n1 : PySem.W.findIn K (.ref C) "job" = some none)
    (n2 : PySem.W.findIn K (.ref C) "elders" = some none)
    (n3 : PySem.W.findIn K (.ref C) "at_work" = some none)
    (n4 : PySem.W.findIn K (.ref C) "piles" = some none)
    (n5 : PySem.W.findIn K (.ref C) "stands" = some none)
    (n6 : PySem.W.findIn K (.ref C) "lives" = some none)
    (n7 : PySem.W.findIn K (.ref C) "next_steps" = some none)
    (n8 : PySem.W.findIn K (.ref C) "steps_done" = some none)
    (n9 : PySem.W.findIn K (.ref C) "room_now" = some none)
    (n10 : PySem.W.findIn K (.ref C) "room_most" = some none)
    (z1 : PySem.W.nsIn K mainGlobals "len" = some none)
    (z2 : PySem.W.nsIn K mainGlobals "max" = some none)
    (z3 : PySem.W.nsIn K mainGlobals "any" = some none)
    (z4 : PySem.W.nsIn K mainGlobals "zip" = some none)
    (z5 : PySem.W.nsIn K mainGlobals "range" = some none)
    (z6 : PySem.W.nsIn K mainGlobals "min" = some none)
    (z7 : PySem.W.nsIn K mainGlobals "tuple" = some none)
    (z8 : PySem.W.nsIn K mainGlobals "isinstance" = some none)
    (z9 : PySem.W.nsIn K mainGlobals "enumerate" = some none)
    (z10 : PySem.W.nsIn K mainGlobals "repr" = some none)
    (z11 : PySem.W.nsIn K mainGlobals "list" = some none)
    (z12 : PySem.W.nsIn K mainGlobals "int" = some none)
    (z13 : PySem.W.nsIn K mainGlobals "bool" = some none)
    (z14 : PySem.W.nsIn K mainGlobals "ValueError" = some none)
    (hlct : K.lookup ct_ = some ⟨qct, qdt, .fields vsCt, qst⟩) (hPt : vsCt[11]? = some (.ref Pt)) (hKt : PySem.W.codeHdIn K ct_ Pt = true)
    (aF : PySem.W.nsIn K mainGlobals "FarError" = some (some (.ref CF))) (aN : PySem.W.nsIn K mainGlobals "NoTurn" = some (some (.ref CN))) (aE1 : PySem.W.nsIn K mainGlobals "NoOrder" = some (some (.ref c1_))) (aE2 : PySem.W.nsIn K mainGlobals "NoSize" = some (some (.ref c2_))) (aE3 : PySem.W.nsIn K mainGlobals "NoBack" = some (some (.ref c3_))) (aE4 : PySem.W.nsIn K mainGlobals "NoJob" = some (some (.ref c4_))) (aE5 : PySem.W.nsIn K mainGlobals "NoYard" = some (some (.ref c5_))) (aE6 : PySem.W.nsIn K mainGlobals "NoLine" = some (some (.ref c6_))) (aE7 : PySem.W.nsIn K mainGlobals "NoText" = some (some (.ref c7_)))
    (qF : PySem.W.excIn K CF bmVE "ValueError.__new__" = true) (qN : excIn2 K CN (some (.ref f23)) = true) (sN : subIn K CN CF = true)
    (xb1 : PySem.W.specialIn K (.ref CF) "__getattribute__" = some (some (.builtin "type.__getattribute__"))) (xb2 : PySem.W.readsIn K CF (.type "type") = true) (xb3 : PySem.W.findCls K (.ref CF) (.type "type") "__init__" = some (.val (.builtin "ValueError.__init__")))
    (o1 : PySem.W.findIn K (.ref CN) "__setattr__" = some (some (.builtin "object.__setattr__"))) (o2 : PySem.W.excOver K CN = true) (o3 : PySem.W.hasDictIn K CN = true) (o4 : PySem.W.findIn K (.ref CN) "__getattribute__" = some (some (.builtin "BaseException.__getattribute__"))) (o5 : PySem.W.findIn K (.ref CN) "__getattr__" = some none) (o6 : PySem.W.findIn K (.ref CN) "__class__" = some (some (.builtin "object.__class__"))) (o7 : PySem.W.findIn K (.ref CN) "place" = some none)
    (tk0 : PySem.W.kitOne K (.ref CN) (.ref CN) = some true) (tk1 : PySem.W.kitOne K (.ref CN) (.ref c1_) = some false) (tk2 : PySem.W.kitOne K (.ref CN) (.ref c2_) = some false) (tk3 : PySem.W.kitOne K (.ref CN) (.ref c3_) = some false) (tk4 : PySem.W.kitOne K (.ref CN) (.ref c4_) = some false) (tk5 : PySem.W.kitOne K (.ref CN) (.ref c5_) = some false) (tk6 : PySem.W.kitOne K (.ref CN) (.ref c6_) = some false) (tk7 : PySem.W.kitOne K (.ref CN) (.ref c7_) = some false) (tkv : PySem.W.kitOne K (.ref CN) (.type "ValueError") = some true) (kN : PySem.W.keepIn K (.ref CN) = true) :
    ∃ fd : FuncData, ([ct_] = [ct_]) ∧ (∀ (s : Shared) (v : Value), BindsTo s fd ⟨[v], []⟩ [("script", v)]) ∧ ∀ (bm : Addr) (base : Heap), K.In base → base.Ns mainGlobals mg → BltMod base mg bm → FnOk l.prog w K mg base CX0 11 fa fd ["script"] (spLaw K Pt) := by
  have e := hfa.symm.trans (PySem.W.mg_of X G a35)
  cases e
  have F1 := fun_mk (st := sSends) l1 c1 k1
  have F2 := fun_mk (st := sSenders) l2 c2 k2
  have F3 := fun_mk (st := sParents) l3 c3 k3
  have F4 := fun_mk (st := sInit) l4 c4 k4
  have F5 := fun_mk (st := sEnded) l5 c5 k5
  have F6 := fun_mk (st := sBegin) l6 c6 k6
  have F7 := fun_mk (st := sEnd) l7 c7 k7
  have F8 := fun_mk (st := sHasKid) l8 c8 k8
  have F9 := fun_mk (st := sNoneLeft) l9 c9 k9
  have F10 := fun_mk (st := sWaitsOr) l10 c10 k10
  have F11 := fun_mk (st := sFore) l11 c11 k11
  have F12 := fun_mk (st := sTakeT) l12 c12 k12
  have F13 := fun_mk (st := sDoStep) l13 c13 k13
  have F14 := fun_mk (st := sSendOff) l14 c14 k14
  have F15 := fun_mk (st := sSettle) l15 c15 k15
  have F16 := fun_mk (st := sMust) l16 c16 k16
  have F17 := fun_mk (st := sLeave) l17 c17 k17
  have F18 := fun_mk (st := sIsWhole) l18 c18 k18
  have F19 := fun_mk (st := sOther) l19 c19 k19
  have F20 := fun_mk (st := sLooks) l20 c20 k20
  have F21 := fun_mk (st := sIsHand) l21 c21 k21
  have F22 := fun_mk (st := sIsTurn) l22 c22 k22
  have F23 := fun_mk (st := sNTInit) l23 c23 k23
  have F24 := fun_mk (st := sWoven) l24 c24 k24
  have F25 := fun_mk (st := sFeed) l25 c25 k25
  have F26 := fun_mk (st := sTake) l26 c26 k26
  have F27 := fun_mk (st := sPick) l27 c27 k27
  have F28 := fun_mk (st := sSteps) l28 c28 k28
  have F29 := fun_mk (st := sJob) l29 c29 k29
  have F30 := fun_mk (st := sTurn) l30 c30 k30
  have F31 := fun_mk (st := sWord) l31 c31 k31
  have F32 := fun_mk (st := sLWhole) l32 c32 k32
  have F33 := fun_mk (st := sLIsTurn) l33 c33 k33
  have F34 := fun_mk (st := sOdd) l34 c34 k34
  have F35 := fun_mk (st := sLaw) l35 c35 k35
  have b1 := F1.binds (ps := ["works"]) fun _ _ _ _ _ _ us hl => match us, hl with | [_], _ => rfl
  have m1 := PySem.W.mg_of X G a1
  have b2 := F2.binds (ps := ["job"]) fun _ _ _ _ _ _ us hl => match us, hl with | [_], _ => rfl
  have m2 := PySem.W.mg_of X G a2
  have b3 := F3.binds (ps := ["job"]) fun _ _ _ _ _ _ us hl => match us, hl with | [_], _ => rfl
  have m3 := PySem.W.mg_of X G a3
  have b4 := F4.binds (ps := ["self", "job", "hands"]) fun _ _ _ _ _ _ us hl => match us, hl with | [_, _, _], _ => rfl
  have m4 : Mk K C f4 := ⟨mk, a4, i4, kc⟩
  have b5 := F5.binds (ps := ["self"]) fun _ _ _ _ _ _ us hl => match us, hl with | [_], _ => rfl
  have m5 : Meth K C "all_ended" f5 := ⟨a5, i5, k5⟩
  have b6 := F6.binds (ps := ["self", "work"]) fun _ _ _ _ _ _ us hl => match us, hl with | [_, _], _ => rfl
  have m6 : Meth K C "begin" f6 := ⟨a6, i6, k6⟩
  have b7 := F7.binds (ps := ["self", "work"]) fun _ _ _ _ _ _ us hl => match us, hl with | [_, _], _ => rfl
  have m7 : Meth K C "end" f7 := ⟨a7, i7, k7⟩
  have b8 := F8.binds (ps := ["self", "work"]) fun _ _ _ _ _ _ us hl => match us, hl with | [_, _], _ => rfl
  have m8 : Meth K C "has_living_child" f8 := ⟨a8, i8, k8⟩
  have b9 := F9.binds (ps := ["self", "work"]) fun _ _ _ _ _ _ us hl => match us, hl with | [_, _], _ => rfl
  have m9 : Meth K C "none_left" f9 := ⟨a9, i9, k9⟩
  have b10 := F10.binds (ps := ["self", "work"]) fun _ _ _ _ _ _ us hl => match us, hl with | [_, _], _ => rfl
  have m10 : Meth K C "waits_or_none_left" f10 := ⟨a10, i10, k10⟩
  have b11 := F11.binds (ps := ["self", "hand", "other"]) fun _ _ _ _ _ _ us hl => match us, hl with | [_, _, _], _ => rfl
  have m11 : Meth K C "foretold" f11 := ⟨a11, i11, k11⟩
  have b12 := F12.binds (ps := ["self", "hand", "other"]) fun _ _ _ _ _ _ us hl => match us, hl with | [_, _, _], _ => rfl
  have m12 : Meth K C "take_turn" f12 := ⟨a12, i12, k12⟩
  have b13 := F13.binds (ps := ["self", "hand"]) fun _ _ _ _ _ _ us hl => match us, hl with | [_, _], _ => rfl
  have m13 : Meth K C "do_step" f13 := ⟨a13, i13, k13⟩
  have b14 := F14.binds (ps := ["self", "hand", "child"]) fun _ _ _ _ _ _ us hl => match us, hl with | [_, _, _], _ => rfl
  have m14 : Meth K C "send_off" f14 := ⟨a14, i14, k14⟩
  have b15 := F15.binds (ps := ["self", "hand"]) fun _ _ _ _ _ _ us hl => match us, hl with | [_, _], _ => rfl
  have m15 : Meth K C "settle" f15 := ⟨a15, i15, k15⟩
  have b16 := F16.binds (ps := ["self", "work"]) fun _ _ _ _ _ _ us hl => match us, hl with | [_, _], _ => rfl
  have m16 : Meth K C "must_leave" f16 := ⟨a16, i16, k16⟩
  have b17 := F17.binds (ps := ["self", "hand"]) fun _ _ _ _ _ _ us hl => match us, hl with | [_, _], _ => rfl
  have m17 : Meth K C "leave" f17 := ⟨a17, i17, k17⟩
  have b18 := F18.binds (ps := ["thing"]) fun _ _ _ _ _ _ us hl => match us, hl with | [_], _ => rfl
  have m18 := PySem.W.mg_of X G a18
  have b19 := F19.binds (ps := ["hand", "hands"]) fun _ _ _ _ _ _ us hl => match us, hl with | [_, _], _ => rfl
  have m19 := PySem.W.mg_of X G a19
  have b20 := F20.binds (ps := ["hand", "hands"]) fun _ _ _ _ _ _ us hl => match us, hl with | [_, _], _ => rfl
  have m20 := PySem.W.mg_of X G a20
  have b21 := F21.binds (ps := ["thing", "hands"]) fun _ _ _ _ _ _ us hl => match us, hl with | [_, _], _ => rfl
  have m21 := PySem.W.mg_of X G a21
  have b22 := F22.binds (ps := ["thing", "hands"]) fun _ _ _ _ _ _ us hl => match us, hl with | [_, _], _ => rfl
  have m22 := PySem.W.mg_of X G a22
  have b23 := F23.binds (ps := ["self", "place"]) fun _ _ _ _ _ _ us hl => match us, hl with | [_, _], _ => rfl
  have b24 := F24.binds (ps := ["job", "hands", "weaving"]) fun _ _ _ _ _ _ us hl => match us, hl with | [_, _, _], _ => rfl
  have m24 := PySem.W.mg_of X G a24
  have b25 := F25.binds (ps := ["script", "k"]) fun _ _ _ _ _ _ us hl => match us, hl with | [_, _], _ => rfl
  have m25 := PySem.W.mg_of X G a25
  have b26 := F26.binds (ps := ["feed", "many"]) fun _ _ _ _ _ _ us hl => match us, hl with | [_, _], _ => rfl
  have m26 := PySem.W.mg_of X G a26
  have b27 := F27.binds (ps := ["feed", "some"]) fun _ _ _ _ _ _ us hl => match us, hl with | [_, _], _ => rfl
  have m27 := PySem.W.mg_of X G a27
  have b28 := F28.binds (ps := ["feed", "children"]) fun _ _ _ _ _ _ us hl => match us, hl with | [_, _], _ => rfl
  have m28 := PySem.W.mg_of X G a28
  have b29 := F29.binds (ps := ["feed", "most"]) fun _ _ _ _ _ _ us hl => match us, hl with | [_, _], _ => rfl
  have m29 := PySem.W.mg_of X G a29
  have b30 := F30.binds (ps := ["feed", "hands"]) fun _ _ _ _ _ _ us hl => match us, hl with | [_, _], _ => rfl
  have m30 := PySem.W.mg_of X G a30
  have b31 := F31.binds (ps := ["call"]) fun _ _ _ _ _ _ us hl => match us, hl with | [_], _ => rfl
  have m31 := PySem.W.mg_of X G a31
  have b32 := F32.binds (ps := ["found"]) fun _ _ _ _ _ _ us hl => match us, hl with | [_], _ => rfl
  have m32 := PySem.W.mg_of X G a32
  have b33 := F33.binds (ps := ["thing", "hands"]) fun _ _ _ _ _ _ us hl => match us, hl with | [_, _], _ => rfl
  have m33 := PySem.W.mg_of X G a33
  have b34 := F34.binds (ps := ["feed", "hands"]) fun _ _ _ _ _ _ us hl => match us, hl with | [_, _], _ => rfl
  have m34 := PySem.W.mg_of X G a34
  have mF := PySem.W.mg_of X G aF
  have mN := PySem.W.mg_of X G aN
  have mE1 := PySem.W.mg_of X G aE1
  have mE2 := PySem.W.mg_of X G aE2
  have mE3 := PySem.W.mg_of X G aE3
  have mE4 := PySem.W.mg_of X G aE4
  have mE5 := PySem.W.mg_of X G aE5
  have mE6 := PySem.W.mg_of X G aE6
  have mE7 := PySem.W.mg_of X G aE7
  have xF : XC K CF := ⟨qF⟩
  have xM : XM K CN f23 := ⟨qN, i23, kN⟩
  have xb : XB K CF := ⟨xb1, xb2, xb3⟩
  have xo : XO K CN := ⟨o1, o2, o3, o4, o5⟩
  have kd : Kinds K CF [CN, c1_, c2_, c3_, c4_, c5_, c6_, c7_] CN 0 := ⟨rfl, by decide, ⟨xM.xk, o4, o5, o6⟩, sN, tkv, fun i c h => by
    match i, h with
    | 0, h => cases h; exact tk0
    | 1, h => cases h; exact tk1
    | 2, h => cases h; exact tk2
    | 3, h => cases h; exact tk3
    | 4, h => cases h; exact tk4
    | 5, h => cases h; exact tk5
    | 6, h => cases h; exact tk6
    | 7, h => cases h; exact tk7
    | k + 8, h => cases h⟩
  have mC := PySem.W.mg_of X G aC
  have y1 := PySem.W.mg_none_of X G z1
  have y2 := PySem.W.mg_none_of X G z2
  have y3 := PySem.W.mg_none_of X G z3
  have y4 := PySem.W.mg_none_of X G z4
  have y5 := PySem.W.mg_none_of X G z5
  have y6 := PySem.W.mg_none_of X G z6
  have y7 := PySem.W.mg_none_of X G z7
  have y8 := PySem.W.mg_none_of X G z8
  have y9 := PySem.W.mg_none_of X G z9
  have y10 := PySem.W.mg_none_of X G z10
  have y11 := PySem.W.mg_none_of X G z11
  have y12 := PySem.W.mg_none_of X G z12
  have y13 := PySem.W.mg_none_of X G z13
  have y14 := PySem.W.mg_none_of X G z14
  have TC : TxtC K mg C := ⟨⟨pg, hd, po, sa⟩, n1, n2, n3, n4, n5, n6, n7, n8, n9, n10, mC, y1, y2, y3, y4, y5, y6, y7, y8, y9, y10, y11, y12, y13⟩
  have T := TC
  have TG : Glb mg := ⟨T.len, T.range, T.min, T.max, T.tuple⟩
  refine ⟨PySem.W.fnOf "law" "law" (defArgs sLaw) (defBody sLaw) (defScope sLaw) .none kV35 dc35 pm35 an35 (.ref ct_) ct35, rfl, fun s v => .of_eq rfl, fun bm base _ _ Bm => ?_⟩
  have G25 := fun (base : Heap) (Bm : BltMod base mg bm) => ok_feed (P := l.prog) (w := w) (mg := mg) (base := base) F25 T.len
  have G26 := fun (base : Heap) (Bm : BltMod base mg bm) => ok_take (P := l.prog) (w := w) (mg := mg) (base := base) F26
  have G27 := fun (base : Heap) (Bm : BltMod base mg bm) => ok_pick F27 (G26 base Bm) b26 k26 m26 T.len
  have G28 := fun (base : Heap) (Bm : BltMod base mg bm) => ok_steps F28 TG (G26 base Bm) b26 k26 m26 (G27 base Bm) b27 k27 m27
  have G29 := fun (base : Heap) (Bm : BltMod base mg bm) => ok_job F29 TG (G26 base Bm) b26 k26 m26 (G27 base Bm) b27 k27 m27 (G28 base Bm) b28 k28 m28
  have G30 := fun (base : Heap) (Bm : BltMod base mg bm) => ok_turn (P := l.prog) (w := w) (mg := mg) (base := base) F30 T (G26 base Bm) b26 k26 m26
  have G34 := fun (base : Heap) (Bm : BltMod base mg bm) => ok_odd (P := l.prog) (w := w) (mg := mg) (base := base) F34 T (G30 base Bm) b30 k30 m30 (G27 base Bm) b27 k27 m27
  have G32 := fun (base : Heap) (Bm : BltMod base mg bm) => ok_lWhole (P := l.prog) (w := w) (mg := mg) (base := base) F32 T 
  have G33 := fun (base : Heap) (Bm : BltMod base mg bm) => ok_lIsTurn (P := l.prog) (w := w) (mg := mg) (base := base) F33 T (G32 base Bm) b32 k32 m32
  have G31 := fun (base : Heap) (Bm : BltMod base mg bm) => ok_word (kk := 9) (P := l.prog) (w := w) (mg := mg) (base := base) F31 T xF mF y14 mN mE1 mE2 mE3 mE4 mE5 mE6 mE7 
  have G23 := fun (base : Heap) (Bm : BltMod base mg bm) => ok_ntInit (P := l.prog) (w := w) (mg := mg) (base := base) F23 mF xb xM.xk xo o7
  have G1 := fun (base : Heap) (Bm : BltMod base mg bm) => ok_sends (P := l.prog) (w := w) (mg := mg) (base := base) F1 T.enumerate
  have G2 := fun (base : Heap) (Bm : BltMod base mg bm) => ok_senders F2 (G1 base Bm) b1 k1 m1 T.len
  have G3 := fun (base : Heap) (Bm : BltMod base mg bm) => ok_parents F3 (G2 base Bm) b2 k2 m2
  have G6 := fun (base : Heap) (Bm : BltMod base mg bm) => ok_begin (P := l.prog) (w := w) (mg := mg) (base := base) F6 T 
  have G4 := fun (base : Heap) (Bm : BltMod base mg bm) => ok_init (P := l.prog) (w := w) (mg := mg) (base := base) F4 T (G3 base Bm) b3 k3 m3 (G6 base Bm) b6 m6
  have G18 := fun (base : Heap) (Bm : BltMod base mg bm) => ok_isWhole (P := l.prog) (w := w) (mg := mg) (base := base) F18 T 
  have G21 := fun (base : Heap) (Bm : BltMod base mg bm) => ok_isHand (P := l.prog) (w := w) (mg := mg) (base := base) F21 T (G18 base Bm) b18 k18 m18
  have G19 := fun (base : Heap) (Bm : BltMod base mg bm) => ok_other (P := l.prog) (w := w) (mg := mg) (base := base) F19 T 
  have G20 := fun (base : Heap) (Bm : BltMod base mg bm) => ok_looks (P := l.prog) (w := w) (mg := mg) (base := base) F20 T (G19 base Bm) b19 k19 m19
  have G22 := fun (base : Heap) (Bm : BltMod base mg bm) => ok_isTurn (P := l.prog) (w := w) (mg := mg) (base := base) F22 T (G21 base Bm) b21 k21 m21 (G20 base Bm) b20 k20 m20
  have G11 := fun (base : Heap) (Bm : BltMod base mg bm) => ok_fore (P := l.prog) (w := w) (mg := mg) (base := base) F11 T 
  have G9 := fun (base : Heap) (Bm : BltMod base mg bm) => ok_noneLeft (P := l.prog) (w := w) (mg := mg) (base := base) F9 T 
  have G10 := fun (base : Heap) (Bm : BltMod base mg bm) => ok_waitsOr (P := l.prog) (w := w) (mg := mg) (base := base) F10 T (G9 base Bm) b9 m9
  have G14 := fun (base : Heap) (Bm : BltMod base mg bm) => ok_sendOff (P := l.prog) (w := w) (mg := mg) (base := base) F14 T (G10 base Bm) b10 m10 (G6 base Bm) b6 m6
  have G8 := fun (base : Heap) (Bm : BltMod base mg bm) => ok_hasKid (P := l.prog) (w := w) (mg := mg) (base := base) F8 T 
  have G16 := fun (base : Heap) (Bm : BltMod base mg bm) => ok_must (P := l.prog) (w := w) (mg := mg) (base := base) F16 T (G9 base Bm) b9 m9 (G10 base Bm) b10 m10 (G8 base Bm) b8 m8
  have G7 := fun (base : Heap) (Bm : BltMod base mg bm) => ok_end_ (P := l.prog) (w := w) (mg := mg) (base := base) F7 T 
  have G17 := fun (base : Heap) (Bm : BltMod base mg bm) => ok_leave (P := l.prog) (w := w) (mg := mg) (base := base) F17 T (G8 base Bm) b8 m8 (G7 base Bm) b7 m7
  have G15 := fun (base : Heap) (Bm : BltMod base mg bm) => ok_settle (P := l.prog) (w := w) (mg := mg) (base := base) F15 T (G16 base Bm) b16 m16 (G17 base Bm) b17 m17
  have G13 := fun (base : Heap) (Bm : BltMod base mg bm) => ok_doStep (P := l.prog) (w := w) (mg := mg) (base := base) F13 T (G14 base Bm) b14 m14 (G15 base Bm) b15 m15
  have G12 := fun (base : Heap) (Bm : BltMod base mg bm) => ok_takeT (P := l.prog) (w := w) (mg := mg) (base := base) F12 T (G11 base Bm) b11 m11 (G13 base Bm) b13 m13
  have G5 := fun (base : Heap) (Bm : BltMod base mg bm) => ok_ended (P := l.prog) (w := w) (mg := mg) (base := base) F5 T 
  have G24 := fun (base : Heap) (Bm : BltMod base mg bm) => ok_wovenE (P := l.prog) (w := w) (mg := mg) (base := base) F24 T xM (G23 base Bm) b23 mN (G4 base Bm) b4 m4 (G22 base Bm) b22 k22 m22 (G12 base Bm) b12 m12 (G5 base Bm) b5 m5
  exact ok_law (P := l.prog) (w := w) (mg := mg) (base := base) F35 T rfl hKt Bm kd xo o7 (G25 base Bm) b25 k25 m25 (G29 base Bm) b29 k29 m29 (G26 base Bm) b26 k26 m26 (G30 base Bm) b30 k30 m30 (G34 base Bm) b34 k34 m34 (G33 base Bm) b33 k33 m33 (fun base _ Bm => G31 base Bm) b31 k31 m31 (fun base _ Bm => G24 base Bm) b24 k24 m24
theorem walk {l : PySem.W.OpenLaw} {q : Program} {loose : List Str} {XP : (Str → Option Value) → Heap → Prop} {YP : World → Heap → Prop} {d : DefRec} {K : Params → PySem.W.Frag} (ct_ Pt : Addr) (hn : l.most = some 63) (hdf : d.params.defaults = [])
    (hY : ∀ (w : World) (h : Heap), YP w h → (K w.params).In h)
    (hqt : ((PyProof.Rows.recsOf q).find? (fun e => e.name == ("law" : Str))).isSome = true) (hTt : ∀ w : World, PySem.W.tabIn (K w.params) "law" = some (ct_, Pt)) (hLt : ∀ w : World, (K w.params).lookup Pt = none)
    (F : ∀ (w : World) (mg : Str → Option Value) (fa : Addr) (h : Heap), (K w.params).In h → h.Ns mainGlobals mg → mg d.name = some (.ref fa) →
      ∃ fd : FuncData, ([ct_] = [ct_]) ∧ (∀ (s : Shared) (u : Value), BindsTo s fd ⟨[u], []⟩ [("script", u)]) ∧ ∀ (bm : Addr) (base : Heap), (K w.params).In base → base.Ns mainGlobals mg → BltMod base mg bm → FnOk l.prog w (K w.params) mg base CX0 11 fa fd ["script"] (spLaw (K w.params) Pt)) :
    PySem.W.WalkO q loose XP YP l.row.toRowW d [] (fun f vs => PySem.call f vs) :=
  L2.walk_ofT (n := 63) (k := 11) (x := "script") (ts := [("law", ct_, Pt)]) (CX := fun _ => CX0) (sp := fun w => (spLaw (K w.params) Pt)) hn (by decide) hdf ⟨rfl, by decide, by decide, rfl⟩ hY
    (fun t ht => by
      rw [List.mem_singleton.mp ht]; exact ⟨hqt, fun w => ⟨hTt w, hLt w⟩⟩) (fun w mg fa h a b c => let ⟨fd, _, x, y⟩ := F w mg fa h a b c; ⟨fd, x, y⟩) (fun _ _ a ns hl hH hS => ⟨a, ns, rfl, hS, hl, LamT.start (hH _ List.mem_cons_self),  fun _ => rfl⟩) fun _ _ _ _ _ z => z
end Far
open PySem PySem.W PyProof.Rows
set_option maxRecDepth 100000 in
set_option maxHeartbeats 0 in
theorem PySem.Challenge.cw_farend_k13_turns_that_are_none_holds : PySem.Challenge.rw_farend_k13_turns_that_are_none.Holds := by
  w_on; o_law; k_head; (case hw => w_witness2)
  k_fill
  refine' Far.walk (l := PySem.Challenge.rw_farend_k13_turns_that_are_none) _ _  rfl rfl (fun w h Y => PySem.W.km_in_of Y) ?hqt ?hTt ?hLt ?F
  case F =>
    intro w mg fa h KX G hmg
    refine' Far.all_mk KX G hmg ?aC ?a1 ?l1 ?c1 ?k1 ?a2 ?l2 ?c2 ?k2 ?a3 ?l3 ?c3 ?k3 ?a4 ?i4 ?l4 ?c4 ?k4 ?a5 ?i5 ?l5 ?c5 ?k5 ?a6 ?i6 ?l6 ?c6 ?k6 ?a7 ?i7 ?l7 ?c7 ?k7 ?a8 ?i8 ?l8 ?c8 ?k8 ?a9 ?i9 ?l9 ?c9 ?k9 ?a10 ?i10 ?l10 ?c10 ?k10 ?a11 ?i11 ?l11 ?c11 ?k11 ?a12 ?i12 ?l12 ?c12 ?k12 ?a13 ?i13 ?l13 ?c13 ?k13 ?a14 ?i14 ?l14 ?c14 ?k14 ?a15 ?i15 ?l15 ?c15 ?k15 ?a16 ?i16 ?l16 ?c16 ?k16 ?a17 ?i17 ?l17 ?c17 ?k17 ?a18 ?l18 ?c18 ?k18 ?a19 ?l19 ?c19 ?k19 ?a20 ?l20 ?c20 ?k20 ?a21 ?l21 ?c21 ?k21 ?a22 ?l22 ?c22 ?k22 ?a23 ?i23 ?l23 ?c23 ?k23 ?a24 ?l24 ?c24 ?k24 ?a25 ?l25 ?c25 ?k25 ?a26 ?l26 ?c26 ?k26 ?a27 ?l27 ?c27 ?k27 ?a28 ?l28 ?c28 ?k28 ?a29 ?l29 ?c29 ?k29 ?a30 ?l30 ?c30 ?k30 ?a31 ?l31 ?c31 ?k31 ?a32 ?l32 ?c32 ?k32 ?a33 ?l33 ?c33 ?k33 ?a34 ?l34 ?c34 ?k34 ?a35 ?l35 ?c35 ?k35 ?pg ?hd ?po ?sa ?mk ?kc ?n1 ?n2 ?n3 ?n4 ?n5 ?n6 ?n7 ?n8 ?n9 ?n10 ?z1 ?z2 ?z3 ?z4 ?z5 ?z6 ?z7 ?z8 ?z9 ?z10 ?z11 ?z12 ?z13 ?z14 ?qqLt ?qqPt ?qqKt ?aF ?aN ?aE1 ?aE2 ?aE3 ?aE4 ?aE5 ?aE6 ?aE7 ?qF ?qN ?sN ?xb1 ?xb2 ?xb3 ?o1 ?o2 ?o3 ?o4 ?o5 ?o6 ?o7 ?tk0 ?tk1 ?tk2 ?tk3 ?tk4 ?tk5 ?tk6 ?tk7 ?tkv ?kN
    (case aC => k_is)
    (case aF => k_is)
    (case aN => k_is)
    (case aE1 => k_is)
    (case aE2 => k_is)
    (case aE3 => k_is)
    (case aE4 => k_is)
    (case aE5 => k_is)
    (case aE6 => k_is)
    (case aE7 => k_is)
    (case a1 => k_is)
    (case l1 => k_is)
    (case c1 => k_is)
    (case k1 => k_is)
    (case a2 => k_is)
    (case l2 => k_is)
    (case c2 => k_is)
    (case k2 => k_is)
    (case a3 => k_is)
    (case l3 => k_is)
    (case c3 => k_is)
    (case k3 => k_is)
    (case a4 => k_is)
    (case i4 => k_is)
    (case l4 => k_is)
    (case c4 => k_is)
    (case k4 => k_is)
    (case a5 => k_is)
    (case i5 => k_is)
    (case l5 => k_is)
    (case c5 => k_is)
    (case k5 => k_is)
    (case a6 => k_is)
    (case i6 => k_is)
    (case l6 => k_is)
    (case c6 => k_is)
    (case k6 => k_is)
    (case a7 => k_is)
    (case i7 => k_is)
    (case l7 => k_is)
    (case c7 => k_is)
    (case k7 => k_is)
    (case a8 => k_is)
    (case i8 => k_is)
    (case l8 => k_is)
    (case c8 => k_is)
    (case k8 => k_is)
    (case a9 => k_is)
    (case i9 => k_is)
    (case l9 => k_is)
    (case c9 => k_is)
    (case k9 => k_is)
    (case a10 => k_is)
    (case i10 => k_is)
    (case l10 => k_is)
    (case c10 => k_is)
    (case k10 => k_is)
    (case a11 => k_is)
    (case i11 => k_is)
    (case l11 => k_is)
    (case c11 => k_is)
    (case k11 => k_is)
    (case a12 => k_is)
    (case i12 => k_is)
    (case l12 => k_is)
    (case c12 => k_is)
    (case k12 => k_is)
    (case a13 => k_is)
    (case i13 => k_is)
    (case l13 => k_is)
    (case c13 => k_is)
    (case k13 => k_is)
    (case a14 => k_is)
    (case i14 => k_is)
    (case l14 => k_is)
    (case c14 => k_is)
    (case k14 => k_is)
    (case a15 => k_is)
    (case i15 => k_is)
    (case l15 => k_is)
    (case c15 => k_is)
    (case k15 => k_is)
    (case a16 => k_is)
    (case i16 => k_is)
    (case l16 => k_is)
    (case c16 => k_is)
    (case k16 => k_is)
    (case a17 => k_is)
    (case i17 => k_is)
    (case l17 => k_is)
    (case c17 => k_is)
    (case k17 => k_is)
    (case a18 => k_is)
    (case l18 => k_is)
    (case c18 => k_is)
    (case k18 => k_is)
    (case a19 => k_is)
    (case l19 => k_is)
    (case c19 => k_is)
    (case k19 => k_is)
    (case a20 => k_is)
    (case l20 => k_is)
    (case c20 => k_is)
    (case k20 => k_is)
    (case a21 => k_is)
    (case l21 => k_is)
    (case c21 => k_is)
    (case k21 => k_is)
    (case a22 => k_is)
    (case l22 => k_is)
    (case c22 => k_is)
    (case k22 => k_is)
    (case a23 => k_is)
    (case i23 => k_is)
    (case l23 => k_is)
    (case c23 => k_is)
    (case k23 => k_is)
    (case a24 => k_is)
    (case l24 => k_is)
    (case c24 => k_is)
    (case k24 => k_is)
    (case a25 => k_is)
    (case l25 => k_is)
    (case c25 => k_is)
    (case k25 => k_is)
    (case a26 => k_is)
    (case l26 => k_is)
    (case c26 => k_is)
    (case k26 => k_is)
    (case a27 => k_is)
    (case l27 => k_is)
    (case c27 => k_is)
    (case k27 => k_is)
    (case a28 => k_is)
    (case l28 => k_is)
    (case c28 => k_is)
    (case k28 => k_is)
    (case a29 => k_is)
    (case l29 => k_is)
    (case c29 => k_is)
    (case k29 => k_is)
    (case a30 => k_is)
    (case l30 => k_is)
    (case c30 => k_is)
    (case k30 => k_is)
    (case a31 => k_is)
    (case l31 => k_is)
    (case c31 => k_is)
    (case k31 => k_is)
    (case a32 => k_is)
    (case l32 => k_is)
    (case c32 => k_is)
    (case k32 => k_is)
    (case a33 => k_is)
    (case l33 => k_is)
    (case c33 => k_is)
    (case k33 => k_is)
    (case a34 => k_is)
    (case l34 => k_is)
    (case c34 => k_is)
    (case k34 => k_is)
    (case a35 => k_is)
    (case l35 => k_is)
    (case c35 => k_is)
    (case k35 => k_is)
    (case pg => k_is)
    (case hd => k_is)
    (case po => k_is)
    (case sa => k_is)
    (case mk => k_is)
    (case kc => k_is)
    (case n1 => k_is)
    (case n2 => k_is)
    (case n3 => k_is)
    (case n4 => k_is)
    (case n5 => k_is)
    (case n6 => k_is)
    (case n7 => k_is)
    (case n8 => k_is)
    (case n9 => k_is)
    (case n10 => k_is)
    (case z1 => k_is)
    (case z2 => k_is)
    (case z3 => k_is)
    (case z4 => k_is)
    (case z5 => k_is)
    (case z6 => k_is)
    (case z7 => k_is)
    (case z8 => k_is)
    (case z9 => k_is)
    (case z10 => k_is)
    (case z11 => k_is)
    (case z12 => k_is)
    (case z13 => k_is)
    (case z14 => k_is)
    (case qF => first | k_exc | k_is | kernel_rfl)
    (case qN => first | kernel_rfl | k_is)
    (case sN => first | kernel_rfl | k_is)
    (case xb1 => first | kernel_rfl | k_is)
    (case xb2 => first | kernel_rfl | k_is)
    (case xb3 => first | kernel_rfl | k_is)
    (case o1 => first | k_is | kernel_rfl)
    (case o2 => first | kernel_rfl | k_is)
    (case o3 => first | k_is | kernel_rfl)
    (case o4 => first | k_is | kernel_rfl)
    (case o5 => first | k_is | kernel_rfl)
    (case o6 => first | k_is | kernel_rfl)
    (case o7 => first | k_is | kernel_rfl)
    (case tk0 => first | kernel_rfl | k_is)
    (case tk1 => first | kernel_rfl | k_is)
    (case tk2 => first | kernel_rfl | k_is)
    (case tk3 => first | kernel_rfl | k_is)
    (case tk4 => first | kernel_rfl | k_is)
    (case tk5 => first | kernel_rfl | k_is)
    (case tk6 => first | kernel_rfl | k_is)
    (case tk7 => first | kernel_rfl | k_is)
    (case tkv => first | kernel_rfl | k_is)
    (case kN => first | k_is | kernel_rfl)
    (case qqLt => k_is)
    (case qqPt => rfl)
    (case qqKt => kernel_rfl)
  case hqt => kernel_rfl
  case hTt => intro w; kernel_rfl
  case hLt => intro w; kernel_rfl
#print axioms PySem.Challenge.cw_farend_k13_turns_that_are_none_holds