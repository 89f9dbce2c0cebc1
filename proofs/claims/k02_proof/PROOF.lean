import PyProof.Rows.All
import Wide.All
import OpenK.AllK
import Wide.FinOn
import HandS.ForMost
import HandS.ForExc
import HandS.TupAny
import HandS.Deep
import HandS.Flow
import HandS.Lambda
import PyProof.FactsAll.dict
import HandS.Conv
import HandS.IsInst
import HandS.Text
import HandS.Zip
import KE.GoesEnum
import KE.GoesMore
import HandS.Style
import HandS.Star
import HandS.Strs
import HandS.CallLocal
import PyProof.ReprRoads
import HandS.ExcInit
import HandS.Nested
import KE.KFromBytes
import KE.KExcSuper
import KE.KExcMake
import HandS.ExcField
import KE.DataFind
import KE.KNestM
import HandS.FStr
import HandS.TryMany
import KE.KDictZip
import KE.KLam
import PySem.Challenge.RW_tickworks_k02_values_and_places
set_option Elab.async false
set_option linter.all false
set_option maxRecDepth 100000
set_option
      maxHeartbeats 4000000
/-! DL0: tuples that are known to be bare (no dict of their own). -/
namespace DL
open PySem PySem.Spec
      PyProof.Rows L2
/-- a bare tuple's object -/
def Pl (o : Obj) : Prop := o.cls = .type "tuple" ∧ o.dict = none ∧ o.slots = #[]
/-- at a stands a bare tuple of vs: laid as one, or written -/
def SqP (K : PySem.W.Frag) (F : Hp) (a : Addr) (vs : List V) : Prop :=
  (∃ o, F a = some (.frz o (.tup vs)) ∧ Pl o) ∨ ∃ (o : Obj) (its : Array Value) (n : Nat), K.lookup a = some o ∧ Pl o ∧ o.data = .seq its n ∧ its.size ≤ sizeLine ∧ Vals vs its.toList
theorem SqP.sqT {K : PySem.W.Frag} {F : Hp} {a : Addr} {vs : List V} (h : SqP K F a vs) : SqT K F a vs := by
  rcases h with ⟨o, h, _⟩ | ⟨o, its, n, h1, h2, h3, h4, h5⟩
  · exact .inl (.inr ⟨o, h⟩)
  · exact .inr ⟨o, its, n, h1, h2.1, h3, h4, h5⟩
/-- what a new tuple's reader promises -/
abbrev NewT (xs : List V) (H : Hp) (Q : VK) : Prop := ∀ p o, H p = none → Pl o → Q (.ref p) (upd H p (.frz o (.tup xs)))
section
variable {X : Cx} {es : List Expr} {pos : Pos} {t : TA}
theorem Inv.bare {pins : List (Addr × Obj)} {σ : L2.St} {H : Hp} {s : Shared} {xs : List V} {us : List Value} {tk : Nat} (I : Inv X pins σ H s) (hz : xs.length ≤ sizeLine) (r : Vals xs us) :
    Inv X pins σ (upd H s.heap.objs.size (.frz { cls := .type "tuple", data := .seq us.toArray } (.tup xs))) { s with heap := s.heap.push { cls := .type "tuple", data := .seq us.toArray }, toks := tk } :=
  I.laid (fun _ _ e => Heap.get?_push_of_some _ e) (Nat.le_refl _) ⟨Heap.get?_push_size _ rfl, hz, us, r, IsTup.new _ _⟩
theorem Pl.new {us : Array Value} : Pl { cls := .type "tuple", data := .seq us } := ⟨rfl, rfl, rfl⟩
/-- a display -/
def tTupP (t : TA) : TE := fun σ H Q => t σ H fun xs H1 => xs.length ≤ sizeLine ∧ NewT xs H1 Q
theorem pe_tupP {k : Nat} (h : PA X es t) : PE X (.Tuple es k pos) (tTupP t) := by
  constructor
  intro pins s σ H Q I hq
  refine wpAny_Tuple_spliced (thn (h.run pos pins s σ H _ I hq) fun us s1 ⟨xs, H1, I1, r, z, q⟩ => ⟨r.length ▸ z, ?_⟩)
  exact ⟨.ref _, _, Inv.bare I1 z r, rfl, q _ _ (I1.hok.fresh (Nat.le_refl _)) .new⟩
/-- t + u: one of them, where the other is empty -/
def rCatP (K : PySem.W.Frag) : R2 := fun x y H Q => ∃ a b xs ys, x = .ref a ∧ y = .ref b ∧ (SqT K H a xs ∧ SqT K H b ys) ∧ xs.length + ys.length ≤ sizeLine ∧
  (xs = [] → Q (.ref b) H) ∧ (ys = [] → xs ≠ [] → Q (.ref a) H) ∧ (ys ≠ [] → xs ≠ [] → NewT (xs ++ ys) H Q)
theorem op_catP : OpR X (binaryOp .Add) (rCatP X.K) := by
  intro pins s σ H x
        y v u Q I rx ry h
  obtain ⟨a, b, xs, ys, ex, ey, ⟨ha, hb⟩, hz, q0, q1, q2⟩ := h
  by_cases hx : xs = []
  · exact op_catA pins s σ H x y v u Q I rx ry ⟨a, b, xs, ys, ex, ey, ha, hb, hz, q0, fun n => absurd hx n, fun n => absurd hx n⟩
  · by_cases hy : ys = []
    · exact op_catA pins s σ H x y v u Q I rx ry ⟨a, b, xs, ys, ex, ey, ha, hb, hz, q0, fun n m => q1 m n, fun _ n => absurd hy n⟩
    · subst ex ey
      cases rx
      cases ry
      obtain ⟨its, r, p, _⟩ := I.tuple ha
      obtain ⟨jts, r', p', _⟩ := I.tuple hb
      have l1 := r.length
      have l2 := r'.length
      refine HT.cat_tup p p' (fun z => hx (r.nil_iff.mp z)) (fun z => absurd (r'.nil_iff.mp z) hy) (fun _ => ?_) (by omega)
      exact ⟨.ref _, _, Inv.bare (tk := s.toks) I (by rw [List.length_append]; exact hz) (r.append r'), rfl, q2 hy hx _ _ (I.hok.fresh (Nat.le_refl _)) .new⟩
/-- t[lo:hi]: t itself, where it is the whole -/
def Whole (n : Nat) (lo hi : Option Int) : Prop := HT.sIx n 0 lo = 0 ∧ HT.sIx n n hi = n
def rSlP (K : PySem.W.Frag) : V → Option Int → Option Int → Hp → VK → Prop := fun x lo hi H Q => ∃ a xs, x = .ref a ∧ SqT K H a xs ∧ (Whole xs.length lo hi → Q (.ref a) H) ∧ (¬ Whole xs.length lo hi → NewT (cutV xs lo hi) H Q)
theorem sl_tupP : SlR X (rSlP X.K) := by
  intro pins s σ H x v vl vu
        lo hi sl Q I rx hs pl pu h
  obtain ⟨a, xs, ex, hx, q1, q2⟩ := h
  by_cases hw : Whole xs.length lo hi
  · exact sl_tupA pins s σ H x v vl vu lo hi sl Q I rx hs pl pu ⟨a, xs, ex, hx, q1, fun n => absurd hw n⟩
  · subst ex
    cases rx
    obtain ⟨its, r, ht,
          hz⟩ := I.tuple hx
    have hl : its.toArray.size = xs.length := by rw [List.size_toArray, r.length]
    refine ⟨"tuple", _, PyProof.Rows.slot_tuple_getitem.lookup, ht.typeIs, HT.getItem_tuple_cut ht hs pl pu (hl ▸ hw) ?_ (hl ▸ hz)⟩
    rw [hl]
    exact ⟨.ref _, _, Inv.bare (tk := s.toks) I (Nat.le_trans (cutV_length xs lo hi) hz) ((r.drop _).take _), rfl, q2 hw _ _ (I.hok.fresh (Nat.le_refl _)) .new⟩
/-- tuple(xs) -/
def rTupP (K : PySem.W.Frag) : List V → Hp → VK → Prop := fun vs H Q => ∃ p ys, vs = [.ref p] ∧ ((SqL K H p ys ∧ NewT ys H Q) ∨ (SqT K H p ys ∧ Q (.ref p) H))
theorem call_tupP : CallR X (.type "tuple") (rTupP X.K) := by
  intro pins s σ
        H vs us Q I r h
  obtain ⟨p, ys, ev, h⟩ := h
  rcases h with
        ⟨hq, q⟩ | ⟨hq, q⟩
  · subst ev
    obtain ⟨u, eu, rx⟩ := vals1 r
    subst eu
    cases rx
    obtain ⟨its, r', pl, hz⟩ := I.list hq
    have hl := r'.length
    refine call_tuple_list pl.isList (fun h' kp => ?_) (by rw [List.size_toArray]; omega)
    have I1 : Inv X pins σ H { s with heap
          := h' } := I.kept (t' := s.toks) kp
    exact ⟨.ref _, _, Inv.bare (tk := s.toks) I1 hz r', rfl, q _ _ (I1.hok.fresh (Nat.le_refl _)) .new⟩
  · exact call_tuple_of pins s σ H vs us Q I r ⟨p, ys, ev, .inr ⟨hq, q⟩⟩
theorem bare_at {pins : List (Addr × Obj)} {σ : L2.St} {H : Hp} {s : Shared} {b : Addr} {zs : List V} (I : Inv X pins σ H s) (h : SqP X.K H b zs) : ∃ (jts : List Value) (n : Nat), Vals zs jts ∧ s.heap.get? b = some { cls := .type "tuple", dict := none, data := .seq jts.toArray n, slots := #[] } := by
  rcases h with ⟨o, e, p1, p2, p3⟩ | ⟨o, its, n, e, ⟨p1, p2, p3⟩, hd, hs, r⟩
  · obtain ⟨g, _, its, r, o', e', c', n, d'⟩ := I.hok b _ e
    rw [g] at e'
    cases e'
    refine ⟨its, n, r, ?_⟩
    rw [g]
    obtain ⟨cc, dd, data, sl⟩ := o
    simp only at p1 p2 p3 d'
    subst p1 p2 p3 d'
    rfl
  · refine ⟨its.toList, n, r, ?_⟩
    rw [I.kIn b o e]
    obtain ⟨cc, dd, data, sl⟩ := o
    simp only at p1 p2 p3 hd
    subst p1 p2 p3 hd
    simp
/-- xs.extend(t) -/
def rExtT (K : PySem.W.Frag) : V → List V → Hp → VK → Prop := fun x vs H Q => ∃ l b xs zs, x = .ref l ∧ vs = [.ref b] ∧ H l = some (.lst xs) ∧ SqP K H b zs ∧ xs.length + zs.length ≤ sizeLine ∧ Q .non (upd H l (.lst (xs ++ zs)))
theorem mt_extT : MtM X "list.extend" (rExtT X.K) := by
  intro pins s σ H x
        vs v us Q I rx rv h
  obtain ⟨l, b, xs, zs, ex, ev, hH, hB, hz, q⟩ := h
  subst ex ev
  cases rx
  obtain ⟨u, eu, ru⟩ := rv.one
  subst eu
  cases ru
  obtain ⟨z, its, n, r,
        hl, e⟩ := I.lstM hH
  obtain ⟨jts, n2, r2, e2⟩ := bare_at I hB
  have l2 := r2.length
  have hsz : its.toArray.size + jts.toArray.size ≤ sizeLine := by simp only [List.size_toArray]; omega
  have hlong : ¬ (!its.toArray.isEmpty && Builtin.List.listTooLong (its.toArray.size + jts.toArray.size)) = true := fun w => by
    rw [notLongL hsz, Bool.and_false] at w
    cases w
  refine call_meets PySem.F.slot_list_extend ⟨_, e, rfl⟩ PySem.F.entry_list_extend (PySem.F.args_list_extend_2 _ _) (AutoSeq1.list_extend_list_tuple_0 l its.toArray n b jts.toArray n2 hlong (by rw [List.size_toArray]; omega) (by omega)) ?_
  refine ⟨e, e2, .non, _, I.lset (its' := its ++ jts) hH e (by simp) (r.append r2) ?_, rfl, q⟩
  rw [List.length_append]
  exact hz
/-- a method of a bare tuple -/
def tTM (K : PySem.W.Frag) (r : V → List V → Hp → VK → Prop) (to : TE) (t : TA) : TE := fun σ H Q => to σ H fun x H1 => ∃ a xs, x = .ref a ∧ SqP K H1 a xs ∧ t σ H1 fun vs H2 => r x vs H2 Q
theorem pe_tm {o e : Expr} {es : List Expr} {to : TE} {name : Str} {apos cpos : Pos} {id : String} {r : V → List V → Hp → VK → Prop} (slot : Slot "tuple" name id) (hty : typeOf (.builtin id) = pure (.type "method_descriptor")) (hm : MtR X id r) (ho : PE X o to) (ha : PA X (e :: es) t)
    (hbase : attributeBase o name X.env
          (eval o X.env) = eval o X.env := by rfl)
    (hfew : ((backTo cpos (starEach (e :: es) X.env)).all (fun x => !x.1) && (backToKw cpos (keywordEach [] X.env)).all (fun x => x.1.isSome) && decide ((e :: es).length + ([] : List Keyword).length + (if ([] : List Keyword).isEmpty then 0 else 1) < 30)) = true := by rfl)
    (hline : (apos.endLine == cpos.line) = true := by rfl) (hs : starEach (e :: es) X.env = (false, eval e X.env)
          :: starEach es X.env := by rfl) (hplain : (backTo cpos (starEach es X.env)).any (·.1) = false := by rfl) :
    PE X (.Call (.Attribute o name apos) (e :: es) [] cpos) (tTM X.K r to t) := by
  constructor
  intro pins s σ H Q I h
  refine wpAny_Call_method_late hbase hfew hline rfl (thn (ho.run pins s σ H _ I h) fun v s1 ⟨x, H1, I1, r1, a, xs, ex, hq, q1⟩ => ?_)
  subst ex
  cases r1
  obtain ⟨jts, n, _, e1⟩ := bare_at I1 hq
  refine ⟨"tuple", id, PySem.F.plainAttrs_tuple, slot, hty, ⟨_, e1, rfl⟩, fun b eb => ?_, ?_⟩
  · cases eb
    exact ⟨_, e1, rfl⟩
  · have hA := ha.run cpos pins s1 σ H1 _ I1 q1
    rw [hs] at hA ⊢
    refine Calls.callWith_builtin (by show (false || (backTo cpos (starEach es
          X.env)).any (·.1)) = false; rw [hplain] <;> rfl) (Calls.evalArgs_plain ?_)
    exact thn hA fun us s2 ⟨vs, H2, I2, r2, q2⟩ => hm
          pins s2 σ H2 (.ref a) vs (.ref a) us Q I2 rfl r2 q2
end
end DL
set_option Elab.async false
set_option linter.all false
set_option maxRecDepth 100000
set_option
      maxHeartbeats 4000000
/-! DLA: data, worlds, what a frame knows, the judgements of a data-level reading. -/
namespace DL
open PySem PySem.Spec
      PyProof.Rows L2

/-! ### data -/
inductive D where
  | non
  | bl (b : Bool)
  | int (i : Int)
  | str (x : Str)
  | tup (l : List D)
  | lst (l : List D)
  | dct (ks : List Key) (l : List D)
  | raw (v : V)
  /-- a def of the module, by its name -/
  | fn (x : Str)
  /-- what zip and enumerate give out -/
  | pr (a b : D)
  /-- a list that is read only: the script, a written list -/
  | rol (l : List D)

/-- the drawing source: its dict, its cells -/
structure Src where
  sa : Addr
  ca : Addr
  cells : List Int
  left : Int
  mixed : Int
  turn : Int
abbrev Wo := Option Src
def adr : Wo → List Addr
  | none => []
  | some w => [w.sa, w.ca]

/-- an exception: its class, its own fields -/
structure Xc where
  cls : Value
  ns : List Str
  ds : List D

inductive Slot where
  | free
  | val (d : D)
  | own (l : List D)

abbrev Rho := List Slot
inductive Rs (α : Type) where
  | ok (a : α) (ρ : Rho) (w : Wo)
  | exc (x : Xc) (ρ : Rho) (w : Wo)
abbrev M (α : Type) := Rho → Wo → Option (Rs α)
def ret {α : Type} (a : α) : M α := fun ρ w => some (.ok a ρ w)
def bnd {α β : Type} (m : M α) (k : α → M β) : M β := fun ρ w =>
  match m ρ w with
  | some (.ok a ρ' w') => k a ρ' w'
  | some (.exc x ρ' w') => some (.exc x ρ' w')
  | none => none
def lft {α : Type} (o : Option α) : M α := fun ρ w => o.map fun a => .ok a ρ w
/-- what a def's call comes to -/
inductive Fr where
  | ok (d : D) (w : Wo)
  | exc (x : Xc) (w : Wo)
abbrev Fn1 := List D → Wo → Option Fr
inductive Fl where
  | nx | br | ct | rt (d : D)

/-! ### how data lie -/
mutual
inductive Rp (K : PySem.W.Frag) (F : Hp) : V → D → Prop
  | non : Rp K F .non .non
  | bl (b : Bool) : Rp K F (.bl b) (.bl b)
  | int (i : Int) : Rp K F (.int i) (.int i)
  | str (x : Str) (h : PyData.strOk x = true) : Rp K F (.str x) (.str x)
  | tup {a : Addr} {vs : List V} {ds : List D} : SqP K F a vs → RpAll K F vs ds → Rp K F (.ref a) (.tup ds)
  | lst {a : Addr} {vs : List V} {ds : List D} : F a = some (.lst vs) → RpAll K F vs ds → Rp K F (.ref a) (.lst ds)
  | dct {a : Addr} {ks : List Key} {vs : List V} {ds : List D} : F a = some (.dK (ks.zip vs)) → ks.length = vs.length → RpAll K F vs ds → Rp K F (.ref a) (.dct ks ds)
  | raw (v : V) : Rp K F v (.raw v)
  | fn {a : Addr} (x : Str) : PySem.W.nsIn K mainGlobals x = some (some (.ref a)) → Rp K F (.ref a) (.fn x)
  | pr {a : Addr} {v u : V} {d e : D} : SqT K F a [v, u] → Rp K F v d → Rp K F u e → Rp K F (.ref a) (.pr d e)
  | rol {a : Addr} {vs : List V} {ds : List D} : SqL K F a vs → RpAll K F vs ds → Rp K F (.ref a) (.rol ds)
inductive RpAll (K : PySem.W.Frag) (F : Hp) : List V → List D → Prop
  | nil : RpAll K F [] []
  | cons {v : V} {vs : List V} {d : D} {ds : List D} : Rp K F v d → RpAll K F vs ds → RpAll K F (v :: vs) (d :: ds)
end

def Sub (F F' : Hp) : Prop := ∀ a o, F a = some o → F' a = some o
theorem Sub.refl (F : Hp) : Sub F F := fun _ _ h => h
theorem Sub.trans {F F1 F2 : Hp} (a : Sub F F1) (b : Sub F1 F2) : Sub F F2 := fun x o h => b x o (a x o h)
theorem Sub.new {F : Hp} {p : Addr} {o : HO} (h : F p = none) : Sub F (upd F p o) := fun a u e => by
  rw [upd_ne (ne_of_none e h)]
  exact e
theorem Sub.back {F F' : Hp} (s : Sub F F') {a : Addr} (h : F' a = none) : F a = none := by
  cases q : F a with
  | none => rfl
  | some o =>
    rw [s a o q] at h
    cases h
section
variable {K : PySem.W.Frag} {F F' : Hp}
theorem Sub.rd {a : Addr} {u : HO} (s : Sub F F') (h : Rd F a u) : Rd F' a u := by
  rcases h with h | ⟨o, h⟩
  · exact .inl (s _ _ h)
  · exact .inr ⟨o, s _ _ h⟩
theorem Sub.sqT {a : Addr} {xs : List V} (s : Sub F F') (h : SqT K F a xs) : SqT K F' a xs := by
  rcases h with h | h
  · exact .inl (s.rd h)
  · exact .inr h
theorem Sub.sqP {a : Addr} {xs : List V} (s : Sub F F') (h : SqP K F a xs) : SqP K F' a xs := by
  rcases h with ⟨o, h, p⟩ | h
  · exact .inl ⟨o, s _ _ h, p⟩
  · exact .inr h
theorem Sub.sqL {a : Addr} {xs : List V} (s : Sub F F') (h : SqL K F a xs) : SqL K F' a xs := by
  rcases h with h | h
  · exact .inl (s.rd h)
  · exact .inr h
mutual
theorem Rp.mono (s : Sub F F') : ∀ (d : D) (v : V), Rp K F v d → Rp K F' v d
  | .non, _, h => by cases h; exact .non
  | .bl _, _, h => by cases h; exact .bl _
  | .int _, _, h => by cases h; exact .int _
  | .str _, _, h => by
    cases h with
    | str _ g => exact .str _ g
  | .tup ds, _, h => by
    cases h with
    | tup h1 h2 => exact .tup (s.sqP h1) (RpAll.mono s ds _ h2)
  | .lst ds, _, h => by
    cases h with
    | lst h1 h2 => exact .lst (s _ _ h1) (RpAll.mono s ds _ h2)
  | .dct ks ds, _, h => by
    cases h with
    | dct h1 h2 h3 => exact .dct (s _ _ h1) h2 (RpAll.mono s ds _ h3)
  | .raw v, _, h => by cases h; exact .raw _
  | .fn x, _, h => by
    cases h with
    | fn _ g => exact .fn x g
  | .pr d e, _, h => by
    cases h with
    | pr h1 h2 h3 => exact .pr (s.sqT h1) (Rp.mono s d _ h2) (Rp.mono s e _ h3)
  | .rol ds, _, h => by
    cases h with
    | rol h1 h2 => exact .rol (s.sqL h1) (RpAll.mono s ds _ h2)
theorem RpAll.mono (s : Sub F F') : ∀ (ds : List D) (vs : List V), RpAll K F vs ds → RpAll K F' vs ds
  | [], _, h => by cases h; exact .nil
  | d :: ds, _, h => by
    cases h with
    | cons h1 h2 => exact .cons (Rp.mono s d _ h1) (RpAll.mono s ds _ h2)
end
theorem Rp.up {d : D} {v : V} (h : Rp K F v d) (s : Sub F F') : Rp K F' v d := Rp.mono s d v h
theorem RpAll.up {ds : List D} {vs : List V} (h : RpAll K F vs ds) (s : Sub F F') : RpAll K F' vs ds := RpAll.mono s ds vs h
theorem RpAll.length : ∀ {ds : List D} {vs : List V}, RpAll K F vs ds → vs.length = ds.length
  | [], _, h => by cases h; rfl
  | d :: ds, _, h => by
    cases h with
    | cons h1 h2 => simp [RpAll.length h2]
theorem RpAll.get : ∀ {ds : List D} {vs : List V} {i : Nat} {d : D}, RpAll K F vs ds → ds[i]? = some d → ∃ v, vs[i]? = some v ∧ Rp K F v d
  | [], _, i, d, h, e => by simp at e
  | x :: ds, _, i, d, h, e => by
    cases h with
    | cons h1 h2 =>
      cases i with
      | zero => cases e; exact ⟨_, rfl, h1⟩
      | succ i => exact RpAll.get (i := i) h2 e
theorem RpAll.append : ∀ {ds es : List D} {vs us : List V}, RpAll K F vs ds → RpAll K F us es → RpAll K F (vs ++ us) (ds ++ es)
  | [], _, _, _, h, g => by cases h; exact g
  | d :: ds, _, _, _, h, g => by
    cases h with
    | cons h1 h2 => exact .cons h1 (RpAll.append h2 g)
theorem RpAll.take : ∀ {ds : List D} {vs : List V} (n : Nat), RpAll K F vs ds → RpAll K F (vs.take n) (ds.take n)
  | _, _, 0, _ => .nil
  | [], _, n + 1, h => by cases h; exact .nil
  | d :: ds, _, n + 1, h => by
    cases h with
    | cons h1 h2 => exact .cons h1 (RpAll.take n h2)
theorem RpAll.drop : ∀ {ds : List D} {vs : List V} (n : Nat), RpAll K F vs ds → RpAll K F (vs.drop n) (ds.drop n)
  | _, _, 0, h => h
  | [], _, n + 1, h => by cases h; exact .nil
  | d :: ds, _, n + 1, h => by
    cases h with
    | cons h1 h2 => exact RpAll.drop n h2
theorem RpAll.reverse {ds : List D} {vs : List V} (h : RpAll K F vs ds) : RpAll K F vs.reverse ds.reverse := by
  induction ds generalizing vs with
  | nil => cases h; exact .nil
  | cons d ds ih =>
    cases h with
    | cons h1 h2 =>
      rw [List.reverse_cons,
            List.reverse_cons]
      exact (ih h2).append (.cons h1 .nil)
theorem RpAll.eraseIdx : ∀ {ds : List D} {vs : List V} (n : Nat), RpAll K F vs ds → RpAll K F (vs.eraseIdx n) (ds.eraseIdx n)
  | [], _, _, h => by cases h; exact .nil
  | d :: ds, _, 0, h => by
    cases h with
    | cons h1 h2 => exact h2
  | d :: ds, _, n + 1, h => by
    cases h with
    | cons h1 h2 => exact .cons h1 (RpAll.eraseIdx n h2)
theorem RpAll.dropLast {ds : List D} {vs : List V} (h : RpAll K F vs ds) : RpAll K F vs.dropLast ds.dropLast := by
  rw [List.dropLast_eq_take, List.dropLast_eq_take, h.length]
  exact h.take _
theorem RpAll.getBack : ∀ {ds : List D} {vs : List V} {i : Nat} {v : V}, RpAll K F vs ds → vs[i]? = some v → ∃ d, ds[i]? = some d ∧ Rp K F v d
  | [], _, i, d, h, e => by cases h; simp at e
  | x :: ds, _, i, d, h, e => by
    cases h with
    | cons h1 h2 =>
      cases i with
      | zero => cases e; exact ⟨_, rfl, h1⟩
      | succ i => exact RpAll.getBack (i := i) h2 e
end

/-! ### what a frame knows -/
/-- what is no table -/
def noTb : Option HO → Option HO
  | some (.tbl _) => none
  | x => x
theorem noTb_some {o : Option HO} {u : HO} (h : noTb o = some u) : o = some u ∧ ∀ ps, u ≠ .tbl ps := by
  unfold noTb at h
  split at h
  · cases h
  · rename_i q
    exact ⟨h, fun ps z => by
      subst z
      exact q ps h⟩
theorem noTb_no {o : Option HO} {u : HO} (h : noTb o = none) (e : o = some u) (nt : ∀ ps, u ≠ .tbl ps) : False := by
  subst e
  unfold noTb at h
  split at h
  · rename_i q
    exact nt _ (Option.some.inj q)
  · cases h
theorem noTb_none {o : Option HO} (h : o = none) : noTb o = none := by
  rw [h]
  rfl
/-- the tables of code objects of the defs that make lambdas -/
class Tbs where
  T : List (Addr × Str)
theorem tabs_put {T : List (Addr × Str)} {H : Hp} {p : Addr} {o : HO} (t : LamX.Tabs T H) (h : ∀ u, H p = some u → (∀ ps, u ≠ .tbl ps) ∧ ∀ c q, u ≠ LamX.CodeO c q) : LamX.Tabs T (upd H p o) := fun P hP => by
  obtain ⟨ps, h1, h2, h3⟩ := t P hP
  have n : ∀ {b : Addr} {u : HO}, H b = some u → ((∃ ps, u = .tbl ps) ∨ ∃ c q, u = LamX.CodeO c q) → b ≠ p := fun {b u} e w z => by
    subst z
    obtain ⟨x1, x2⟩ := h u e
    rcases w with ⟨ps, w⟩ | ⟨c, q, w⟩
    · exact x1 ps w
    · exact x2 c q w
  refine ⟨ps, by rw [upd_ne (n h1 (.inl ⟨_, rfl⟩))]; exact h1, h2, fun pos cv hc => ?_⟩
  obtain ⟨c, e1, e2⟩
        := h3 pos cv hc
  exact ⟨c, e1, by rw [upd_ne (n e2 (.inr ⟨_, _, rfl⟩))]; exact e2⟩
theorem tbl_put {H : Hp} {p a : Addr} {o : HO} {ps : Array Value} (h : ∀ u, H p = some u → (∀ ps, u ≠ .tbl ps) ∧ ∀ c q, u ≠ LamX.CodeO c q) (e : H a = some (.tbl ps)) : upd H p o a = some (.tbl ps) := by
  rw [upd_ne (fun z => by subst z; exact (h _ e).1 ps rfl)]
  exact e
theorem pn_none {H : Hp} {p : Addr} (h : H p = none) : ∀ u, H p = some u → (∀ ps, u ≠ .tbl ps) ∧ ∀ c q, u ≠ LamX.CodeO c q := fun u e => by
  rw [h] at e
  cases e
theorem pn_lst {H : Hp} {p : Addr} {vs : List V} (h : H p = some (.lst vs)) : ∀ u, H p = some u → (∀ ps, u ≠ .tbl ps) ∧ ∀ c q, u ≠ LamX.CodeO c q := fun u e => by
  rw [h] at e
  cases e
  exact ⟨fun _ z => (by cases z), fun c q z => (by unfold LamX.CodeO at z; cases z)⟩
theorem pn_dK {H : Hp} {p : Addr} {vs : List (Key × V)} (h : H p = some (.dK vs)) : ∀ u, H p = some u → (∀ ps, u ≠ .tbl ps) ∧ ∀ c q, u ≠ LamX.CodeO c q := fun u e => by
  rw [h] at e
  cases e
  exact ⟨fun _ z => (by cases z), fun c q z => (by unfold LamX.CodeO at z; cases z)⟩
variable [Tbs]
/-- the entry -/
structure Bs where
  K : PySem.W.Frag
  H : Hp
  F : Hp
  w : Wo
def srcK (w : Src) : List (Key × V) := [(.inr "cells", .ref w.ca), (.inr "left", .int w.left), (.inr "mixed", .int w.mixed), (.inr "turn", .int w.turn)]
def WdOk (F : Hp) (H : Hp) : Wo → Prop
  | none => True
  | some w => F w.sa = none ∧ F w.ca = none ∧ w.sa ≠ w.ca ∧ H w.sa = some (.dK (srcK w)) ∧ H w.ca = some (.lst (w.cells.map V.int))
theorem WdOk.there {F H : Hp} {w : Wo} (x : WdOk F H w) {a : Addr} (h : a ∈ adr w) : F a = none ∧ ∃ o, H a = some o ∧ ∀ ps, o ≠ .tbl ps := by
  cases w with
  | none => cases h
  | some w =>
    obtain ⟨h1, h2, h3, h4, h5⟩ := x
    have h : a ∈ [w.sa, w.ca] := h
    rcases List.mem_cons.mp
          h with e | e
    · subst e; exact ⟨h1, _, h4, fun _ z => by cases z⟩
    · rcases List.mem_cons.mp
          e with e | e
      · subst e; exact ⟨h2, _, h5, fun _ z => by cases z⟩
      · cases e
/-- from one heap to a later one: what was there but the world is as it was; what is newly frozen was not there; the world's addresses are the same, or new -/
structure Goes (H : Hp) (F : Hp) (w : Wo) (H' F' : Hp) (w' : Wo) : Prop where
  sub : Sub F F'
  keep : ∀ a o, H a = some o → a ∉ adr w → (∀ ps, o ≠ .tbl ps) → H' a = some o
  frs : ∀ a o, F' a = some o → F a = some o ∨ (noTb (H a) = none ∧ ∀ ps, o ≠ .tbl ps)
  old : ∀ a, a ∈ adr w → a ∈ adr w'
  new : ∀ a, a ∈ adr w' → a ∈ adr w ∨ noTb (H a) = none
  tabs : LamX.Tabs Tbs.T H → LamX.Tabs Tbs.T H'
theorem Goes.refl (H F : Hp) (w : Wo) : Goes H F w H F w := ⟨Sub.refl _, fun _ _ h _ _ => h, fun _ _ h => .inl h, fun _ h => h, fun _ h => .inl h, fun h => h⟩
theorem ho_tbl (o : HO) : (∃ ps, o = .tbl ps) ∨ ∀ ps, o ≠ .tbl ps := by
  cases o with
  | tbl ps => exact .inl ⟨_, rfl⟩
  | _ => exact .inr fun _ z => by cases z
theorem Goes.back {H F H1 F1 : Hp} {w w1 : Wo} (k : WdOk F1 H1 w1) (a : Goes H F w H1 F1 w1) {x : Addr} (e : noTb (H1 x) = none) : noTb (H x) = none := by
  cases q : H x with
  | none => rfl
  | some o =>
    rcases ho_tbl o with ⟨ps, z⟩ | z
    · subst z; rfl
    · exfalso
      by_cases hx : x ∈ adr w
      · obtain ⟨_, o', h, nt⟩ := k.there (a.old x hx)
        exact noTb_no e h nt
      · exact noTb_no e (a.keep x o q hx z) z
theorem Goes.trans {H F H1 F1 H2 F2 : Hp} {w w1 w2 : Wo} (k : WdOk F1 H1 w1) (a : Goes H F w H1 F1 w1) (b : Goes H1 F1 w1 H2 F2 w2) : Goes H F w H2 F2 w2 :=
  ⟨a.sub.trans b.sub, fun x o h n nt => b.keep x o (a.keep x o h n nt) (fun z => (a.new x z).elim n (fun q => noTb_no q h nt)) nt, fun x o h => (b.frs x o h).elim (fun q => a.frs x o q) (fun q => .inr ⟨a.back k q.1, q.2⟩),
    fun x h => b.old x (a.old x h), fun x h => (b.new x h).elim (fun q => a.new x q) (fun q => .inr (a.back k q)), fun h => b.tabs (a.tabs h)⟩

/-- a frame's state: B its entry, F what is frozen, ρ its slots, w the world; σ, H: the layer's own -/
structure Ok (B : Bs) (F : Hp) (ρ : Rho) (w : Wo) (σ : L2.St) (H : Hp) : Prop where
  sub : Sub F H
  go : Goes B.H B.F B.w H F w
  wd : WdOk F H w
  len : σ.length = ρ.length
  val : ∀ (i : Nat) (d : D), ρ[i]? = some (Slot.val d) → ∃ v, σ[i]? = some (some v) ∧ Rp B.K F v d
  own : ∀ (i : Nat) (ds : List D), ρ[i]? = some (Slot.own ds) → ∃ (a : Addr) (vs : List V), σ[i]? = some (some (.ref a)) ∧ H a = some (.lst vs) ∧ F a = none ∧ noTb (B.H a) = none ∧ a ∉ adr w ∧ RpAll B.K F vs ds
  inj : ∀ (i j : Nat) (a : Addr) (di dj : List D), ρ[i]? = some (Slot.own di) → ρ[j]? = some (Slot.own dj) → σ[i]? = some (some (.ref a)) → σ[j]? = some (some (.ref a)) → i = j
  tab : LamX.Tabs Tbs.T H
  nt : ∀ b ps, F b ≠ some (.tbl ps)

/-- an address that a frame may lay anew -/
theorem Ok.fresh {B : Bs} {F : Hp} {ρ : Rho} {w : Wo} {σ : L2.St} {H : Hp} (k : Ok B F ρ w σ H) {p : Addr} (h : H p = none) : noTb (B.H p) = none ∧ F p = none ∧ p ∉ adr w := by
  refine ⟨k.go.back k.wd (noTb_none h), k.sub.back h, fun z => ?_⟩
  obtain ⟨_, o, e, _⟩ := k.wd.there z
  rw [h] at e
  cases e
theorem wd_upd {F H F' : Hp} {w : Wo} {p : Addr} {o : HO} (k : WdOk F H w) (hp : p ∉ adr w) (hF : ∀ a, a ≠ p → F' a = F a) : WdOk F' (upd H p o) w := by
  cases w with
  | none => trivial
  | some w =>
    obtain ⟨h1, h2, h3, h4, h5⟩ := k
    have n1 : w.sa ≠ p := fun e => hp (by rw [← e]; exact List.mem_cons_self)
    have n2 : w.ca ≠ p := fun e => hp (by rw [← e]; exact List.mem_cons_of_mem _ List.mem_cons_self)
    exact ⟨by rw [hF _ n1]; exact h1, by rw [hF _ n2]; exact h2, h3, by rw [upd_ne n1]; exact h4, by rw [upd_ne n2]; exact h5⟩
/-- a new frozen object -/
theorem Ok.laid {B : Bs} {F : Hp} {ρ : Rho} {w : Wo} {σ : L2.St} {H : Hp} (k : Ok B F ρ w σ H) {p : Addr} (h : H p = none) (o : HO) (no : ∀ ps, o ≠ .tbl ps := by intro _ z; cases z) : Sub F (upd F p o) ∧ Ok B (upd F p o) ρ w σ (upd H p o) := by
  obtain ⟨h0, hF, hw⟩ := k.fresh h
  have s : Sub F (upd F p o) := .new hF
  refine ⟨s, ⟨fun a u e => ?_, ⟨k.go.sub.trans s, fun a u e n nt => ?_, fun a u e => ?_, k.go.old, k.go.new, fun _ => tabs_put k.tab (pn_none h)⟩, wd_upd k.wd hw fun a n => upd_ne n, k.len, fun i d e => ?_, fun i ds e => ?_, k.inj, tabs_put k.tab (pn_none h), fun b ps e => ?_⟩⟩
  · by_cases ha : a = p
    · subst ha
      rw [upd_same] at e ⊢
      exact e
    · rw [upd_ne ha] at e ⊢
      exact k.sub a u e
  · rw [upd_ne (fun z => by rw [z] at e; exact noTb_no h0 e nt)]
    exact k.go.keep a u e n nt
  · by_cases ha : a = p
    · subst ha
      rw [upd_same] at e
      cases e
      exact .inr ⟨h0, no⟩
    · rw [upd_ne ha] at e
      exact k.go.frs a u e
  · obtain ⟨v, h1, h2⟩ := k.val i d e
    exact ⟨v, h1, h2.up s⟩
  · obtain ⟨a, vs, h1, h2, h3, h4, h5, h6⟩ := k.own i ds e
    have n : a ≠ p := ne_of_none h2 h
    exact ⟨a, vs, h1, by rw [upd_ne n]; exact h2, by rw [upd_ne n]; exact h3, h4, h5, h6.up s⟩
  · by_cases hb : b = p
    · subst hb
      rw [upd_same] at e
      exact no ps (Option.some.inj e)
    · rw [upd_ne hb] at e
      exact k.nt b ps e
/-- what is known of a new list that nobody holds yet -/
structure New (B : Bs) (F : Hp) (ρ : Rho) (w : Wo) (σ : L2.St) (H : Hp) (a : Addr) (ds : List D) : Prop where
  at' : ∃ vs, H a = some (.lst vs) ∧ RpAll B.K F vs ds
  nF : F a = none
  n0 : noTb (B.H a) = none
  nw : a ∉ adr w
  ns : ∀ (i : Nat) (ds : List D), ρ[i]? = some (Slot.own ds) → σ[i]? ≠ some (some (.ref a))
/-- a new list laid, held by nobody -/
theorem Ok.newL {B : Bs} {F : Hp} {ρ : Rho} {w : Wo} {σ : L2.St} {H : Hp} (k : Ok B F ρ w σ H) {p : Addr} (h : H p = none) {vs : List V} {ds : List D} (r : RpAll B.K F vs ds) : Ok B F ρ w σ (upd H p (.lst vs)) ∧ New B F ρ w σ (upd H p (.lst vs)) p ds := by
  obtain ⟨h0, hF, hw⟩ := k.fresh h
  refine ⟨⟨fun a u e => ?_, ⟨k.go.sub, fun a u e n nt => ?_, k.go.frs, k.go.old, k.go.new, fun _ => tabs_put k.tab (pn_none h)⟩, wd_upd k.wd hw fun a n => rfl, k.len, k.val, fun i ds e => ?_, k.inj, tabs_put k.tab (pn_none h), k.nt⟩, ⟨⟨vs, upd_same, r⟩, hF, h0, hw, fun i ds e z => ?_⟩⟩
  · rw [upd_ne (fun z => by rw [z, hF] at e; cases e)]
    exact k.sub a u e
  · rw [upd_ne (fun z => by rw [z] at e; exact noTb_no h0 e nt)]
    exact k.go.keep a u e n nt
  · obtain ⟨a, vs, h1, h2, h3, h4, h5, h6⟩ := k.own i ds e
    exact ⟨a, vs, h1, by rw [upd_ne (ne_of_none h2 h)]; exact h2, h3, h4, h5, h6⟩
  · obtain ⟨a, vs, h1, h2, _⟩ := k.own i ds e
    rw [h1] at z
    cases z
    rw [h] at h2
    cases h2
/-- it is frozen -/
theorem Ok.freeze {B : Bs} {F : Hp} {ρ : Rho} {w : Wo} {σ : L2.St} {H : Hp} (k : Ok B F ρ w σ H) {a : Addr} {ds : List D} (n : New B F ρ w σ H a ds) : ∃ F', Sub F F' ∧ Ok B F' ρ w σ H ∧ Rp B.K F' (.ref a) (.lst ds) := by
  obtain ⟨⟨vs, h, r⟩, hF, h0, hw, hs⟩ := n
  have s : Sub F (upd F a (.lst vs)) := .new hF
  refine ⟨_, s, ⟨fun b u e => ?_, ⟨k.go.sub.trans s, k.go.keep, fun b u e => ?_, k.go.old, k.go.new, k.go.tabs⟩, ?_, k.len, fun i d e => ?_, fun i ds e => ?_, k.inj, k.tab, fun b ps e => ?_⟩, .lst upd_same (r.up s)⟩
  · by_cases hb : b = a
    · subst hb
      rw [upd_same] at e
      rw [h]
      exact e
    · rw [upd_ne hb] at e
      exact k.sub b u e
  · by_cases hb : b = a
    · subst hb
      rw [upd_same] at e
      cases e
      exact .inr ⟨h0, fun _ z => by cases z⟩
    · rw [upd_ne hb] at e
      exact k.go.frs b u e
  · have k2 := k.wd
    cases w with
    | none => trivial
    | some w =>
      obtain ⟨g1, g2, g3, g4, g5⟩ := k2
      have n1 : w.sa ≠ a := fun e => hw (by rw [← e]; exact List.mem_cons_self)
      have n2 : w.ca ≠ a := fun e => hw (by rw [← e]; exact List.mem_cons_of_mem _ List.mem_cons_self)
      exact ⟨by rw [upd_ne n1]; exact g1, by rw [upd_ne n2]; exact g2, g3, g4, g5⟩
  · obtain ⟨v, h1, h2⟩ := k.val i d e
    exact ⟨v, h1, h2.up s⟩
  · obtain ⟨b, us, h1, h2, h3, h4, h5, h6⟩ := k.own i ds e
    have nb : b ≠ a := fun z => hs i ds e (by rw [h1, z])
    exact ⟨b, us, h1, h2, by rw [upd_ne nb]; exact h3, h4, h5, h6.up s⟩
  · by_cases hb : b = a
    · subst hb
      rw [upd_same] at e
      cases e
    · rw [upd_ne hb] at e
      exact k.nt b ps e
section
variable {B : Bs} {F : Hp} {ρ : Rho} {w : Wo} {σ : L2.St} {H : Hp}
theorem get_set_self {α : Type} {l : List α} {i : Nat} {x y : α} (h : (l.set i x)[i]? = some y) : x = y ∧ i < l.length := by
  rw [List.getElem?_set] at h
  simp at h
  exact ⟨h.2, h.1⟩
theorem get_set_ne {α : Type} {l : List α} {i j : Nat} {x y : α} (n : i ≠ j) (h : (l.set i x)[j]? = some y) : l[j]? = some y := by
  rw [List.getElem?_set_ne n] at h
  exact h
/-- a slot takes a value -/
theorem Ok.setV (k : Ok B F ρ w σ H) {v : V} {d : D} (i : Nat) (r : Rp B.K F v d) : Ok B F (ρ.set i (.val d)) w (σ.set i (some v)) H := by
  refine ⟨k.sub, k.go, k.wd, by rw [List.length_set, List.length_set]; exact k.len, fun j e h => ?_, fun j e h => ?_, fun j l a dj dl h1 h2 h3 h4 => ?_, k.tab, k.nt⟩
  · by_cases hj : i = j
    · subst hj
      obtain ⟨q, hi⟩ := get_set_self h
      cases q
      exact ⟨v, by rw [List.getElem?_set_self (by rw [k.len]; exact hi)], r⟩
    · obtain ⟨u, h1, h2⟩ := k.val j e (get_set_ne hj h)
      exact ⟨u, by rw [List.getElem?_set_ne hj]; exact h1, h2⟩
  · by_cases hj : i = j
    · subst hj
      obtain ⟨q, _⟩ := get_set_self h
      cases q
    · obtain ⟨a, vs, h1, h2⟩ := k.own j e (get_set_ne hj h)
      exact ⟨a, vs, by rw [List.getElem?_set_ne hj]; exact h1, h2⟩
  · have n1 : i ≠ j := fun z => by
      subst z
      obtain ⟨q, _⟩ := get_set_self h1
      cases q
    have n2 : i ≠ l := fun z => by
      subst z
      obtain ⟨q, _⟩ := get_set_self h2
      cases q
    rw [List.getElem?_set_ne n1] at h3
    rw [List.getElem?_set_ne n2] at h4
    exact k.inj j l a dj dl (get_set_ne n1 h1) (get_set_ne n2 h2) h3 h4
/-- a slot takes a new list -/
theorem Ok.setN (k : Ok B F ρ w σ H) {a : Addr} {ds : List D} (i : Nat) (n : New B F ρ w σ H a ds) : Ok B F (ρ.set i (.own ds)) w (σ.set i (some (.ref a))) H := by
  obtain ⟨⟨vs, h, r⟩, hF, h0, hw, hs⟩ := n
  refine ⟨k.sub, k.go, k.wd, by rw [List.length_set, List.length_set]; exact k.len, fun j e h => ?_, fun j e g => ?_, fun j l b dj dl h1 h2 h3 h4 => ?_, k.tab, k.nt⟩
  · by_cases hj : i = j
    · subst hj
      obtain ⟨q, hi⟩ := get_set_self h
      cases q
    · obtain ⟨u, h1, h2⟩ := k.val j e (get_set_ne hj h)
      exact ⟨u, by rw [List.getElem?_set_ne hj]; exact h1, h2⟩
  · by_cases hj : i = j
    · subst hj
      obtain ⟨q, hi⟩ := get_set_self g
      cases q
      exact ⟨a, vs, by rw [List.getElem?_set_self (by rw [k.len]; exact hi)], h, hF, h0, hw, r⟩
    · obtain ⟨a, vs, h1, h2⟩ := k.own j e (get_set_ne hj g)
      exact ⟨a, vs, by rw [List.getElem?_set_ne hj]; exact h1, h2⟩
  · by_cases n1 : i = j
    · by_cases n2 : i = l
      · rw [← n1, ← n2]
      · exfalso
        subst n1
        obtain ⟨_, hi⟩ := get_set_self h1
        rw [List.getElem?_set_self (by rw [k.len]; exact hi)] at h3
        rw [List.getElem?_set_ne n2] at h4
        cases h3
        exact hs l dl (get_set_ne n2 h2) h4
    · by_cases n2 : i = l
      · exfalso
        subst n2
        obtain ⟨_, hi⟩ := get_set_self h2
        rw [List.getElem?_set_self (by rw [k.len]; exact hi)] at h4
        rw [List.getElem?_set_ne n1] at h3
        cases h4
        exact hs j dj (get_set_ne n1 h1) h3
      · rw [List.getElem?_set_ne n1] at h3
        rw [List.getElem?_set_ne n2] at h4
        exact k.inj j l b dj dl (get_set_ne n1 h1) (get_set_ne n2 h2) h3 h4
/-- a slot's own list is frozen; the slot keeps it as a value -/
theorem Ok.freezeAt (k : Ok B F ρ w σ H) {i : Nat} {ds : List D} (e : ρ[i]? = some (.own ds)) : ∃ v F', σ[i]? = some (some v) ∧ Sub F F' ∧ Ok B F' (ρ.set i (.val (.lst ds))) w σ H ∧ Rp B.K F' v (.lst ds) := by
  obtain ⟨a, vs, h1, h2, h3, h4, h5, h6⟩ := k.own i ds e
  have hi : i < σ.length := (List.getElem?_eq_some_iff.mp h1).1
  have hi2 : i < ρ.length := (List.getElem?_eq_some_iff.mp e).1
  have ns : ∀ (j : Nat) (dj : List D), (ρ.set i Slot.free)[j]? = some (Slot.own dj) → σ[j]? ≠ some (some (V.ref a)) := fun j dj g z => by
    by_cases hj : i = j
    · subst hj
      obtain ⟨q, _⟩ := get_set_self g
      cases q
    · exact hj (k.inj i j a ds dj e (get_set_ne hj g) h1 z)
  have k0 : Ok B F (ρ.set i Slot.free) w σ H := by
    refine ⟨k.sub, k.go, k.wd, by rw [List.length_set]; exact k.len, fun j e h => ?_, fun j e h => ?_, fun j l a dj dl h1 h2 h3 h4 => ?_, k.tab, k.nt⟩
    · by_cases hj : i = j
      · subst hj
        obtain ⟨q, _⟩ := get_set_self h
        cases q
      · exact k.val j e (get_set_ne hj h)
    · by_cases hj : i = j
      · subst hj
        obtain ⟨q, _⟩ := get_set_self h
        cases q
      · exact k.own j e (get_set_ne hj h)
    · have n1 : i ≠ j := fun z => by
        subst z
        obtain ⟨q, _⟩ := get_set_self h1
        cases q
      have n2 : i ≠ l := fun z => by
        subst z
        obtain ⟨q, _⟩ := get_set_self h2
        cases q
      exact k.inj j l a dj dl (get_set_ne n1 h1) (get_set_ne n2 h2) h3 h4
  obtain ⟨F', s, k', r⟩ := k0.freeze ⟨⟨vs, h2, h6⟩, h3, h4, h5, ns⟩
  refine ⟨_, F', h1, s, ?_, r⟩
  have k2 := k'.setV i r
  rw [List.set_set] at k2
  have es : σ.set i (some (V.ref a)) = σ := by
    apply List.ext_getElem?
    intro j
    by_cases hj : i = j
    · subst hj
      rw [List.getElem?_set_self hi, h1]
    · rw [List.getElem?_set_ne hj]
  rw [es] at k2
  exact k2
/-- a slot's own list is changed -/
theorem Ok.change (k : Ok B F ρ w σ H) {i : Nat} {ds es : List D} {a : Addr} {us : List V} (e : ρ[i]? = some (.own ds)) (h : σ[i]? = some (some (.ref a))) (r : RpAll B.K F us es) : Ok B F (ρ.set i (.own es)) w σ (upd H a (.lst us)) := by
  obtain ⟨a', vs, h1, h2, h3, h4, h5, h6⟩ := k.own i ds e
  rw [h] at h1
  cases h1
  have hi2 : i < ρ.length := (List.getElem?_eq_some_iff.mp e).1
  refine ⟨fun b u g => ?_, ⟨k.go.sub, fun b u g n nt => ?_, k.go.frs, k.go.old, k.go.new, fun _ => tabs_put k.tab (pn_lst h2)⟩, wd_upd k.wd h5 fun _ _ => rfl, by rw [List.length_set]; exact k.len, fun j d g => ?_, fun j d g => ?_, fun j l b dj dl g1 g2 g3 g4 => ?_, tabs_put k.tab (pn_lst h2), k.nt⟩
  · rw [upd_ne (fun z => by rw [z, h3] at g; cases g)]
    exact k.sub b u g
  · rw [upd_ne (fun z => by rw [z] at g; exact noTb_no h4 g nt)]
    exact k.go.keep b u g n nt
  · by_cases hj : i = j
    · subst hj
      obtain ⟨q, _⟩ := get_set_self g
      cases q
    · exact k.val j d (get_set_ne hj g)
  · by_cases hj : i = j
    · subst hj
      obtain ⟨q, _⟩ := get_set_self g
      cases q
      exact ⟨a, us, h, upd_same, h3, h4, h5, r⟩
    · obtain ⟨b, ws, g1, g2, g3, g4, g5, g6⟩ := k.own j d (get_set_ne hj g)
      have nb : b ≠ a := fun z => hj (k.inj i j a ds d e (get_set_ne hj g) h (by rw [g1, z]))
      exact ⟨b, ws, g1, by rw [upd_ne nb]; exact g2, g3, g4, g5, g6⟩
  · have own' : ∀ (j : Nat) (dj : List D), (ρ.set i (Slot.own es))[j]? = some (Slot.own dj) → ∃ dj', ρ[j]? = some (Slot.own dj') := fun j dj g => by
      by_cases hj : i = j
      · subst hj; exact ⟨ds, e⟩
      · exact ⟨dj, get_set_ne hj g⟩
    obtain ⟨d1, e1⟩ := own' j dj g1
    obtain ⟨d2, e2⟩ := own' l dl g2
    exact k.inj j l b d1 d2 e1 e2 g3 g4
end
end DL
set_option Elab.async false
set_option linter.all false
set_option maxRecDepth 100000
set_option
      maxHeartbeats 4000000
/-! DLB: the judgements; names, constants, operators. -/
namespace DL
open PySem PySem.Spec
      PyProof.Rows L2
variable [Tbs]

/-- what must follow a run that comes to r -/
def Post {α β : Type} (B : Bs) (W : WX) (R : Hp → β → α → Prop) (r : Rs α) (F : Hp) (σ : L2.St) (Q : β → Hp → Prop) : Prop :=
  match r with
  | .ok a ρ w => ∀ b F' H', Sub F F' → Ok B F' ρ w σ H' → R F' b a → Q b H'
  | .exc x ρ w => ∀ d F' H', Sub F F' → Ok B F' ρ w σ H' → (x.ns = [] ∧ d = none ∨ ∃ p vs, d = some p ∧ H' p = some (.xd (x.ns.zip vs)) ∧ x.ns.length = vs.length ∧ RpAll B.K F' vs x.ds) → W x.cls d σ H'
theorem Post.imp {α β : Type} {B : Bs} {W : WX} {R : Hp → β → α → Prop} {r : Rs α} {F F1 : Hp} {σ : L2.St} {Q : β → Hp → Prop} (s : Sub F F1) (p : Post B W R r F σ Q) : Post B W R r F1 σ Q := by
  cases r with
  | ok a ρ w => exact fun b F' H' s' k h => p b F' H' (s.trans s') k h
  | exc x ρ w => exact fun d F' H' s' k h => p d F' H' (s.trans s') k h
abbrev TX (β : Type) := L2.St → Hp → (β → Hp → Prop) → Prop
def Sim {α β : Type} (B : Bs) (W : WX) (R : Hp → β → α → Prop) (t : TX β) (m : M α) : Prop :=
  ∀ ρ w r, m ρ w = some r → ∀ F σ H, Ok B F ρ w σ H → ∀ Q, Post B W R r F σ Q → t σ H Q
abbrev RV (B : Bs) : Hp → V → D → Prop := fun F v d => Rp B.K F v d
abbrev RA (B : Bs) : Hp → List V → List D → Prop := fun F v d => RpAll B.K F v d
abbrev RB : Hp → Bool → Bool → Prop := fun _ b a => b = a

/-- one after the other: the first one's value is at hand in the second one -/
theorem Sim.bnd {α α' β β' : Type} {B : Bs} {W : WX} {R : Hp → β → α → Prop} {R' : Hp → β' → α' → Prop} {t : TX β} {m : M α} {k : α → M α'} {tk : β → TX β'}
    (ha : Sim B W R t m) (hk : ∀ a ρ w r, k a ρ w = some r → ∀ b F σ H, Ok B F ρ w σ H → R F b a → ∀ Q, Post B W R' r F σ Q → tk b σ H Q) : Sim B W R' (fun σ H Q => t σ H fun b H1 => tk b σ H1 Q) (bnd m k) := by
  intro ρ w r hr F σ H ok Q p
  unfold DL.bnd at hr
  cases h : m ρ w with
  | none => rw [h] at hr; cases hr
  | some r1 =>
    rw [h] at hr
    cases r1 with
    | ok a ρ1 w1 => exact ha ρ w _ h F σ H ok _ fun b F' H' s ok' h' => hk a ρ1 w1 r hr b F' σ H' ok' h' Q (p.imp s)
    | exc x ρ1 w1 =>
      cases hr
      exact ha ρ w _ h F σ H ok _ fun d F' H' s ok' h' => p d F' H' s ok' h'

/-- the same from frames of which P holds -/
def SimP {α β : Type} (B : Bs) (W : WX) (P : Hp → Prop) (R : Hp → β → α → Prop) (t : TX β) (m : M α) : Prop :=
  ∀ ρ w r, m ρ w = some r → ∀ F σ H, Ok B F ρ w σ H → P F → ∀ Q, Post B W R r F σ Q → t σ H Q
def Mono (P : Hp → Prop) : Prop := ∀ F F', Sub F F' → P F → P F'
theorem Mono.triv : Mono fun _ => True := fun _ _ _ h => h
theorem Mono.rp {K : PySem.W.Frag} {v : V} {d : D} : Mono fun F => Rp K F v d := fun _ _ s h => h.up s
theorem Mono.rps {K : PySem.W.Frag} {v : List V} {d : List D} : Mono fun F => RpAll K F v d := fun _ _ s h => h.up s
theorem Mono.and {P P' : Hp → Prop} (a : Mono P) (b : Mono P') : Mono fun F => P F ∧ P' F := fun F F' s h => ⟨a F F' s h.1, b F F' s h.2⟩
theorem SimP.bnd {α α' β β' : Type} {B : Bs} {W : WX} {P : Hp → Prop} {R : Hp → β → α → Prop} {R' : Hp → β' → α' → Prop} {t : TX β} {m : M α} {k : α → M α'} {tk : β → TX β'} (hP : Mono P)
    (ha : Sim B W R t m) (hk : ∀ a b, SimP B W (fun F => P F ∧ R F b a) R' (tk b) (k a)) : SimP B W P R' (fun σ H Q => t σ H fun b H1 => tk b σ H1 Q) (bnd m k) := by
  intro ρ w r hr F σ H ok hp Q p
  unfold DL.bnd at hr
  cases h : m ρ w with
  | none => rw [h] at hr; cases hr
  | some r1 =>
    rw [h] at hr
    cases r1 with
    | ok a ρ1 w1 => exact ha ρ w _ h F σ H ok _ fun b F' H' s ok' h' => hk a b ρ1 w1 r hr F' σ H' ok' ⟨hP F F' s hp, h'⟩ Q (p.imp s)
    | exc x ρ1 w1 =>
      cases hr
      exact ha ρ w _ h F σ H ok _ fun d F' H' s ok' h' => p d F' H' s ok' h'
theorem SimP.top {α β : Type} {B : Bs} {W : WX} {R : Hp → β → α → Prop} {t : TX β} {m : M α} (h : SimP B W (fun _ => True) R t m) : Sim B W R t m := fun ρ w r hr F σ H ok Q p => h ρ w r hr F σ H ok trivial Q p
theorem Sim.p {α β : Type} {B : Bs} {W : WX} {P : Hp → Prop} {R : Hp → β → α → Prop} {t : TX β} {m : M α} (h : Sim B W R t m) : SimP B W P R t m := fun ρ w r hr F σ H ok _ Q p => h ρ w r hr F σ H ok Q p

/-- an operation on values that the frame knows -/
def OpS (B : Bs) (W : WX) (r : R2) (f : D → D → M D) : Prop :=
  ∀ dx dy ρ w res, f dx dy ρ w = some res → ∀ F σ H x y, Ok B F ρ w σ H → Rp B.K F x dx → Rp B.K F y dy → ∀ Q, Post B W (RV B) res F σ Q → r x y H Q
theorem sim_op {B : Bs} {W : WX} {ta tb : TE} {ma mb : M D} {r : R2} {f : D → D → M D} (ha : Sim B W (RV B) ta ma) (hb : Sim B W (RV B) tb mb) (hr : OpS B W r f) : Sim B W (RV B) (tOp r ta tb) (bnd ma fun a => bnd mb fun b => f a b) := by
  intro ρ w res hres F σ H ok Q p
  refine (Sim.bnd (R' := RV B) (tk := fun x σ H Q => tb σ H fun y H2 => r x y H2 Q) ha fun a ρ1 w1 r1 hr1 x F1 σ1 H1 ok1 rx Q1 p1 => ?_) ρ w res hres F σ H ok Q p
  unfold DL.bnd at hr1
  cases h : mb ρ1 w1 with
  | none => rw [h] at hr1; cases hr1
  | some r2 =>
    rw [h] at hr1
    cases r2 with
    | ok b ρ2 w2 => exact hb ρ1 w1 _ h F1 σ1 H1 ok1 _ fun y F2 H2 s2 ok2 ry => hr a b ρ2 w2 r1 hr1 F2 σ1 H2 x y ok2 (rx.up s2) ry Q1 (p1.imp s2)
    | exc z ρ2 w2 =>
      cases hr1
      exact hb ρ1 w1 _ h F1 σ1 H1 ok1 _ fun d F2 H2 s2 ok2 q => p1 d F2 H2 s2 ok2 q
/-- a pure one: nothing is laid -/
theorem OpS.pure {B : Bs} {W : WX} {r : R2} {f : D → D → Option D} (h : ∀ dx dy d, f dx dy = some d → ∀ (F H : Hp) x y, Sub F H → Rp B.K F x dx → Rp B.K F y dy → ∀ Q : VK, (∀ v, Rp B.K F v d → Q v H) → r x y H Q) : OpS B W r fun a b => lft (f a b) := by
  intro dx dy ρ w res hres F σ H x y ok rx ry Q p
  have hres : (f dx dy).map (fun a => Rs.ok a ρ w) = some res := hres
  cases e : f dx dy with
  | none => rw [e] at hres; cases hres
  | some d =>
    rw [e] at hres
    cases hres
    exact h dx dy d e F H x y ok.sub rx ry Q fun v rv => p v F H (Sub.refl F) ok rv
/-- one that may lay a new tuple -/
theorem OpS.tup {B : Bs} {W : WX} {r : R2} {f : D → D → Option D} (h : ∀ dx dy d, f dx dy = some d → ∀ (F H : Hp) x y, Sub F H → Rp B.K F x dx → Rp B.K F y dy → ∀ Q : VK, (∀ v, Rp B.K F v d → Q v H) → (∀ vs ds, d = .tup ds → RpAll B.K F vs ds → NewT vs H Q) →
    (∀ vs ds, d = .lst ds → RpAll B.K F vs ds → ∀ p, H p = none → Q (.ref p) (upd H p (.lst vs))) → r x y H Q) : OpS B W r fun a b => lft (f a b) := by
  intro dx dy ρ w res hres F σ H x y ok rx ry Q p
  have hres : (f dx dy).map (fun a => Rs.ok a ρ w) = some res := hres
  cases e : f dx dy with
  | none => rw [e] at hres; cases hres
  | some d =>
    rw [e] at hres
    cases hres
    refine h dx dy d e F H x y ok.sub rx ry Q (fun v rv => p v F H (Sub.refl F) ok rv) (fun vs ds ed rs q o hq po => ?_) (fun vs ds ed rs q hq => ?_)
    · subst ed
      obtain ⟨s, ok'⟩ := ok.laid hq (.frz o (.tup vs))
      exact p _ _ _ s ok' (.tup (.inl ⟨o, upd_same, po⟩) (rs.up s))
    · subst ed
      obtain ⟨s, ok'⟩ := ok.laid hq (.lst vs)
      exact p _ _ _ s ok' (.lst upd_same (rs.up s))

theorem lft_some {α : Type} {o : Option α} {ρ : Rho} {w : Wo} {r : Rs α} (h : lft o ρ w = some r) : ∃ a, o = some a ∧ r = .ok a ρ w := by
  cases o with
  | none => cases h
  | some a => exact ⟨a, rfl, (Option.some.inj h).symm⟩
/-! ### judgements -/
/-- the context that the rules ask for: n the level of the defs that may be called -/
structure Cq (K : PySem.W.Frag) (X : Cx) (B : Bs) (W : WX) (n : Nat) : Prop where
  hX : X.K = K
  hK : K = B.K
  tk : Takes X W
  hr : Room n X.A
  calm : X.calm = true
  nd : X.N.Nodup
structure SE (X : Cx) (B : Bs) (W : WX) (e : Expr) (t : TE) (m : M D) : Prop where
  pe : PE X e t
  sim : Sim B W (RV B) t m
structure ST (X : Cx) (B : Bs) (W : WX) (e : Expr) (t : TT) (m : M Bool) : Prop where
  pt : PT X e t
  sim : Sim B W RB t m
structure SA (X : Cx) (B : Bs) (W : WX) (es : List Expr) (t : TA) (m : M (List D)) : Prop where
  pa : PA X es t
  sim : Sim B W (RA B) t m

section
variable {X : Cx} {Kf : PySem.W.Frag} {B : Bs} {W : WX} {n : Nat} {a b c e : Expr} {es : List Expr} {ta tb tc te : TE} {ma mb mc me : M D} {pos : Pos}
/-! ### DL: names and constants -/
def getS (i : Nat) : M D := fun ρ w =>
  match ρ[i]? with
  | some (.val d) => some (.ok d ρ w)
  | some (.own l) => some (.ok (.lst l) (ρ.set i (.val (.lst l))) w)
  | _ => none
theorem sim_var (i : Nat) : Sim B W (RV B) (tVar i) (getS i) := by
  intro ρ w r hr F σ H ok Q p
  unfold getS at hr
  split at hr
  · rename_i d h
    cases hr
    obtain ⟨v, h1, h2⟩ := ok.val i d h
    exact ⟨v, h1, p v F H (Sub.refl F) ok h2⟩
  · rename_i l h
    cases hr
    obtain ⟨v, F', h1, s, ok', rv⟩ := ok.freezeAt h
    exact ⟨v, h1, p v F' H s ok' rv⟩
  · cases hr
theorem se_var (i : Nat) {x : Str} (hN : X.N[i]? = some x := by rfl) (hv : Vis X.env.scope x := by first | exact Or.inl rfl | exact Or.inr (Or.inl rfl) | exact Or.inr (Or.inr rfl)) (hd : (x == ("__debug__" : Str)) = false := by decide)
    (hcd : (x == ("__classdict__" : Str)) = false := by decide) : SE X B W (.Name x pos) (tVar i) (getS i) := ⟨pe_var hN hv hd hcd, sim_var i⟩
theorem sim_c {v : V} {d : D} (h : ∀ F, Rp B.K F v d) : Sim B W (RV B) (tC v) (ret d) := by
  intro ρ w r hr F σ H ok Q p
  cases hr
  exact p v F H (Sub.refl F) ok (h F)
theorem se_int {i j} : SE X B W (.Constant (.int i) j pos) (tC (.int i)) (ret (.int i)) := ⟨pe_int, sim_c fun _ => .int i⟩
theorem se_bl {i j} : SE X B W (.Constant (.bool i) j pos) (tC (.bl i)) (ret (.bl i)) := ⟨pe_bl, sim_c fun _ => .bl i⟩
theorem se_non {j} : SE X B W (.Constant .none j pos) (tC .non) (ret .non) := ⟨pe_non, sim_c fun _ => .non⟩
theorem se_str {x j} (h : PyData.strOk x = true := by decide +kernel) : SE X B W (.Constant (.str x) j pos) (tC (.str x)) (ret (.str x)) := ⟨pe_str, sim_c fun _ => .str x h⟩
theorem se_glob {x : Str} {v : V} {u : Value} {d : D} (hg : Gl X x) (hm : X.mg x = some u) (r : RelV v u) (h : ∀ F, Rp B.K F v d) (hd : (x == ("__debug__" : Str)) = false := by decide) : SE X B W (.Name x pos) (tC v) (ret d) := ⟨pe_glob hg hm r hd, sim_c h⟩

/-! ### argument lists, displays -/
def mNil : M (List D) := ret []
def mCons (m : M D) (ms : M (List D)) : M (List D) := bnd m fun d => bnd ms fun ds => ret (d :: ds)
theorem sim_cons {t : TE} {ts : TA} {m : M D} {ms : M (List D)} (h : Sim B W (RV B) t m) (hs : Sim B W (RA B) ts ms) : Sim B W (RA B) (tCons t ts) (mCons m ms) := by
  intro ρ w r hr F σ H ok Q p
  refine (Sim.bnd (R' := RA B) (tk := fun x σ H Q => ts σ H fun xs H2 => Q (x :: xs) H2) h fun d ρ1 w1 r1 hr1 x F1 σ1 H1 ok1 rx Q1 p1 => ?_) ρ w r hr F σ H ok Q p
  unfold DL.bnd at hr1
  cases h : ms ρ1 w1 with
  | none => rw [h] at hr1; cases hr1
  | some r2 =>
    rw [h] at hr1
    cases r2 with
    | ok ds ρ2 w2 =>
      cases hr1
      exact hs ρ1 w1 _ h F1 σ1 H1 ok1 _ fun vs F2 H2 s2 ok2 rs => p1 (x :: vs) F2 H2 s2 ok2 (.cons (rx.up s2) rs)
    | exc z ρ2 w2 =>
      cases hr1
      exact hs ρ1 w1 _ h F1 σ1 H1 ok1 _ fun d F2 H2 s2 ok2 q => p1 d F2 H2 s2 ok2 q
theorem sa_nil : SA X B W [] tNil mNil := ⟨pa_nil, fun ρ w r hr F σ H ok Q p => by
  cases hr
  exact p [] F H (Sub.refl F) ok .nil⟩
theorem sa_cons {ts : TA} {ms : M (List D)} (h : SE X B W e te me) (hs : SA X B W es ts ms) (hst : starEach (e :: es) X.env = (false, eval e X.env) :: starEach es X.env := by rfl) : SA X B W (e :: es) (tCons te ts) (mCons me ms) := ⟨pa_cons h.pe hs.pa hst, sim_cons h.sim hs.sim⟩
def mTup (ms : M (List D)) : M D := bnd ms fun ds => if ds.length ≤ 100000 then ret (.tup ds) else fun _ _ => none
theorem small {k : Nat} (h : k ≤ 100000) : k ≤ sizeLine := Nat.le_trans h (by decide)
theorem sim_tup {ts : TA} {ms : M (List D)} (hs : Sim B W (RA B) ts ms) : Sim B W (RV B) (tTupP ts) (mTup ms) := by
  intro ρ w r hr F σ H ok Q p
  refine (Sim.bnd (R' := RV B) (tk := fun xs σ H Q => xs.length ≤ sizeLine ∧ NewT xs H Q) hs fun ds ρ1 w1 r1 hr1 vs F1 σ1 H1 ok1 rs Q1 p1 => ?_) ρ w r hr F σ H ok Q p
  split at hr1
  · rename_i hl
    cases hr1
    refine ⟨by rw [rs.length]; exact small hl, fun q o hq po => ?_⟩
    obtain ⟨s, ok'⟩ := ok1.laid hq (.frz o (.tup vs))
    exact p1 _ _ _ s ok' (.tup (.inl ⟨o, upd_same, po⟩) (rs.up s))
  · cases hr1
theorem se_tup {ts : TA} {ms : M (List D)} {k : Nat} (hs : SA X B W es ts ms) : SE X B W (.Tuple es k pos) (tTupP ts) (mTup ms) := ⟨pe_tupP hs.pa, sim_tup hs.sim⟩
def mLst (ms : M (List D)) : M D := bnd ms fun ds => if ds.length ≤ 100000 then ret (.lst ds) else fun _ _ => none
theorem sim_lst {ts : TA} {ms : M (List D)} (hs : Sim B W (RA B) ts ms) : Sim B W (RV B) (tLst ts) (mLst ms) := by
  intro ρ w r hr F σ H ok Q p
  refine (Sim.bnd (R' := RV B) (tk := fun xs σ H Q => xs.length ≤ sizeLine ∧ ∀ p, H p = none → Q (.ref p) (upd H p (.lst xs))) hs fun ds ρ1 w1 r1 hr1 vs F1 σ1 H1 ok1 rs Q1 p1 => ?_) ρ w r hr F σ H ok Q p
  split at hr1
  · rename_i hl
    cases hr1
    refine ⟨by rw [rs.length]; exact small hl, fun q hq => ?_⟩
    obtain ⟨s, ok'⟩ := ok1.laid hq (.lst vs)
    exact p1 _ _ _ s ok' (.lst upd_same (rs.up s))
  · cases hr1
theorem se_lst {ts : TA} {ms : M (List D)} (hs : SA X B W es ts ms) : SE X B W (.List es pos) (tLst ts) (mLst ms) := ⟨pe_lst hs.pa, sim_lst hs.sim⟩

/-! ### operators -/
theorem strOk_app {x y : Str} (h : PyData.strOk x = true) (g : PyData.strOk y = true) : PyData.strOk (x ++ y) = true := by
  unfold PyData.strOk at *
  show (x.cps ++ y.cps).all _ = true
  rw [Array.all_append, h, g]
  rfl
def addD : D → D → Option D
  | .int i, .int j => some (.int (i + j))
  | .str x, .str y => if x.length + y.length ≤ 100000 then some (.str (x ++ y)) else none
  | .tup xs, .tup ys => if xs.length + ys.length ≤ 100000 then some (.tup (xs ++ ys)) else none
  | .lst xs, .lst ys => if xs.length + ys.length ≤ 100000 then some (.lst (xs ++ ys)) else none
  | _, _ => none
def rAddA (K : PySem.W.Frag) : R2 := fun x y H Q => (∃ i j, x = .int i ∧ y = .int j ∧ Q (.int (i + j)) H) ∨ (∃ i j, x = .str i ∧ y = .str j ∧ i.length + j.length ≤ sizeLine ∧ Q (.str (i ++ j)) H) ∨ rCatP K x y H Q ∨ rCat x y H Q
theorem op_addA : OpR X (binaryOp .Add) (rAddA X.K) := op_add.or (op_add_str.or (op_catP.or op_cat))
theorem ops_add : OpS B W (rAddA B.K) fun a b => lft (addD a b) := by
  refine .tup fun dx dy d h F H x y sub rx ry Q q qt ql => ?_
  unfold addD at h
  split at h
  · cases h; cases rx; cases ry
    exact .inl ⟨_, _, rfl, rfl, q _ (.int _)⟩
  · split at h
    · rename_i hl
      cases h
      cases rx with
      | str _ g1 =>
        cases ry with
        | str _ g2 => exact .inr (.inl ⟨_, _, rfl, rfl, small hl, q _ (.str _ (strOk_app g1 g2))⟩)
    · cases h
  · split at h
    · rename_i hl
      cases h
      cases rx with
      | tup h1 r1 =>
        cases ry with
        | tup h2 r2 =>
          refine .inr (.inr (.inl ⟨_, _, _, _, rfl, rfl, ⟨(sub.sqP h1).sqT, (sub.sqP h2).sqT⟩, by rw [r1.length, r2.length]; exact small hl, fun e => ?_, fun e _ => ?_, fun _ _ => qt _ _ rfl (r1.append r2)⟩))
          · subst e
            cases r1
            exact q _ (.tup h2 r2)
          · subst e
            cases r2
            refine q _ ?_
            rw [List.append_nil]
            exact .tup h1 r1
    · cases h
  · split at h
    · rename_i hl
      cases h
      cases rx with
      | lst h1 r1 =>
        cases ry with
        | lst h2 r2 =>
          exact .inr (.inr (.inr ⟨_, _, _, _, rfl, rfl, sub _ _ h1, sub _ _ h2, by rw [r1.length, r2.length]; exact small hl, fun p hp => ql _ _ rfl (r1.append r2) p hp⟩))
    · cases h
  · cases h
def mBin (f : D → D → Option D) (ma mb : M D) : M D := bnd ma fun a => bnd mb fun b => lft (f a b)
theorem se_add (q : Cq Kf X B W n) (ha : SE X B W a ta ma) (hb : SE X B W b tb mb) : SE X B W (.BinOp a .Add b pos) (tOp (rAddA Kf) ta tb) (mBin addD ma mb) := by
  cases q.hX
  exact ⟨pe_op op_addA ha.pe hb.pe, by rw [q.hK]; exact sim_op ha.sim hb.sim ops_add⟩
def intD (C : Int → Int → Bool) (g : Int → Int → Int) : D → D → Option D
  | .int i, .int j => if C i j then some (.int (g i j)) else none
  | _, _ => none
theorem ops_int {C : Int → Int → Bool} {C' : Int → Int → Prop} {g : Int → Int → Int} (hC : ∀ i j, C i j = true → C' i j) : OpS B W (rI C' fun i j => .int (g i j)) fun a b => lft (intD C g a b) := by
  refine .pure fun dx dy d h F H x y sub rx ry Q q => ?_
  unfold intD at h
  split at h
  · split at h
    · rename_i hc
      cases h; cases rx; cases ry
      exact ⟨_, _, rfl, rfl, hC _ _ hc, q _ (.int _)⟩
    · cases h
  · cases h
theorem ops_int0 {g : Int → Int → Int} : OpS B W (rI0 fun i j => .int (g i j)) fun a b => lft (intD (fun _ _ => true) g a b) := by
  refine .pure fun dx dy d h F H x y sub rx ry Q q => ?_
  unfold intD at h
  split at h
  · cases h; cases rx; cases ry
    exact ⟨_, _, rfl, rfl, q _ (.int _)⟩
  · cases h
abbrev subD := intD (fun _ _ => true) fun i j => i - j
abbrev modD := intD (fun _ j => decide (0 < j)) fun i j => i % j
abbrev fdivD := intD (fun _ j => decide (0 < j) && decide (j < 1073741824)) fun i j => i / j
theorem se_sub (ha : SE X B W a ta ma) (hb : SE X B W b tb mb) : SE X B W (.BinOp a .Sub b pos) (tOp (rI0 fun i j => .int (i - j)) ta tb) (mBin subD ma mb) := ⟨pe_op op_sub ha.pe hb.pe, sim_op ha.sim hb.sim ops_int0⟩
theorem se_mod (ha : SE X B W a ta ma) (hb : SE X B W b tb mb) : SE X B W (.BinOp a .Mod b pos) (tOp (rI (fun _ j => 0 < j) fun i j => .int (i % j)) ta tb) (mBin modD ma mb) := ⟨pe_op op_mod ha.pe hb.pe, sim_op ha.sim hb.sim (ops_int fun _ _ h => of_decide_eq_true h)⟩
theorem se_fdiv (ha : SE X B W a ta ma) (hb : SE X B W b tb mb) : SE X B W (.BinOp a .FloorDiv b pos) (tOp (rI CDiv fun i j => .int (i / j)) ta tb) (mBin fdivD ma mb) := ⟨pe_op op_fdiv ha.pe hb.pe, sim_op ha.sim hb.sim (ops_int fun _ _ h => by
  rw [Bool.and_eq_true] at h
  exact ⟨of_decide_eq_true h.1, of_decide_eq_true h.2⟩)⟩
/-- *: ints, one below 2^64; a list, an int -/
def inB (i : Int) : Bool := decide (-18446744073709551616 < i) && decide (i < 18446744073709551616)
def mulD : D → D → Option D
  | .int i, .int j => if inB i || inB j then some (.int (i * j)) else none
  | .lst xs, .int k => if 0 ≤ k ∧ k ≤ 1000 ∧ xs.length ≤ 100 then some (.lst (List.replicate k.toNat xs).flatten) else none
  | _, _ => none
def rMulA : R2 := fun x y H Q => rI CMul (fun i j => .int (i * j)) x y H Q ∨ rRep x y H Q
theorem op_mulA : OpR X (binaryOp .Mult) rMulA := op_mul.or op_rep
theorem RpAll.rep {K : PySem.W.Frag} {F : Hp} {vs : List V} {ds : List D} (h : RpAll K F vs ds) : ∀ k : Nat, RpAll K F (List.replicate k vs).flatten (List.replicate k ds).flatten
  | 0 => .nil
  | k + 1 => by
    rw [List.replicate_succ, List.replicate_succ,
          List.flatten_cons, List.flatten_cons]
    exact h.append (RpAll.rep h k)
theorem ops_mul : OpS B W rMulA fun a b => lft (mulD a b) := by
  refine .tup fun dx dy d h F H x y sub rx ry Q q qt ql => ?_
  unfold mulD at h
  split at h
  · split at h
    · rename_i i j hc
      cases h; cases rx; cases ry
      refine .inl ⟨_, _, rfl, rfl, ?_, q _ (.int _)⟩
      unfold inB at hc
      simp only [Bool.or_eq_true, Bool.and_eq_true, decide_eq_true_eq] at hc
      exact hc
    · cases h
  · split at h
    · rename_i xs k hc
      obtain ⟨c1, c2, c3⟩ := hc
      cases h
      cases rx with
      | lst h1 r1 =>
        cases ry
        refine .inr ⟨_, _, _, rfl, rfl, sub _ _ h1, by omega, by omega, ?_, fun p hp => ql _ _ rfl (r1.rep _) p hp⟩
        rw [r1.length]
        have : xs.length * k.toNat ≤ 100 * 1000 := Nat.mul_le_mul c3 (by omega)
        exact small this
    · cases h
  · cases h
theorem se_mul (ha : SE X B W a ta ma) (hb : SE X B W b tb mb) : SE X B W (.BinOp a .Mult b pos) (tOp rMulA ta tb) (mBin mulD ma mb) := ⟨pe_op op_mulA ha.pe hb.pe, sim_op ha.sim hb.sim ops_mul⟩
end
end DL
set_option Elab.async false
set_option linter.all false
set_option maxRecDepth 100000
set_option
      maxHeartbeats 4000000
/-! DLC0: a dict beside a text. -/
namespace DL
open PySem PySem.Spec
      PyProof.Rows L2
open AutoSeq1
      (wpAny_loadPart')
open MeetsSeq SeqAt
theorem dictEq_no (l : Addr) (es : Array DictEntry) (n : Nat) (dd : Option Addr) (sl : Array (Option Value)) (b : Str) (u : Tok) :
    Meets (Builtin.«dict.__eq__» ⟨[.ref l, .str b u], []⟩) (fun _ R s => s.heap.get? l = some { cls := .type "dict", dict := dd, data := .dict es n, slots := sl } ∧ R (.ok (.ret .notImplemented)) s) :=
  .of_wp fun pr wd A R s => by
    rcases s with ⟨hp, gs, dr, tk, ot⟩
    rintro ⟨at_, post⟩
    have no := F.sub_str_dict
    unfold Builtin.«dict.__eq__»
    wp_walk using (wpAny_loadPart' at_)
    exact ⟨_, rfl, post⟩
theorem strEq_no (b : Str) (u : Tok) (l : Addr) (es : Array DictEntry) (n : Nat) (dd : Option Addr) (sl : Array (Option Value)) :
    Meets (Builtin.«str.__eq__» ⟨[.str b u, .ref l], []⟩) (fun _ R s => s.heap.get? l = some { cls := .type "dict", dict := dd, data := .dict es n, slots := sl } ∧ R (.ok (.ret .notImplemented)) s) :=
  .of_wp fun pr wd A R s => by
    rcases s with ⟨hp, gs, dr, tk, ot⟩
    rintro ⟨at_, post⟩
    wp_walk using wpAny_loadPart' at_, wpAny_load at_
    exact ⟨_, rfl, post⟩
theorem dict_str {A : Around} {s : Shared} {l : Addr} {o : Obj} {es : Array DictEntry} {n : Nat} (b : Str) (u : Tok) (ho : s.heap.get? l = some o) (hc : o.cls = .type "dict") (hd : o.data = .dict es n) (hu : A.units < cLine) : RcAt A s (.ref l) (.str b u) false := fun prog w E Q h => by
  obtain ⟨cls, dd, data, sl⟩ := o
  simp only at hc hd
  subst hc hd
  exact rc_eq_decline_or (k := false) ⟨_, ho, rfl⟩ (typeIs_str s b u) (by decide) F.sub_str_dict F.slot_dict_eq F.slot_str_eq_refl
    (fun _ hq => call_meets F.slot_dict_eq ⟨_, ho, rfl⟩ F.entry_dict_eq (F.args_dict_eq_2 _ _) (dictEq_no l es n dd sl b u) ⟨ho, hq⟩)
    (fun _ hq => call_meets F.slot_str_eq_refl (typeIs_str s b u) F.entry_str_eq (F.args_str_eq_2 _ _) (strEq_no b u l es n dd sl) ⟨ho, hq⟩)
    (fun _ hq => wpAny_of_eq (rfl : isSame (.ref
          l) (.str b u) = pure false) hq) (.inr hu) h
/-- a dict with nothing in it is no text -/
def rDS : R2 := fun x y H Q => ∃ a i, x = .ref a ∧ y = .str i ∧ H a = some (.dK []) ∧ Q (.bl false) H
theorem op_ds {X : Cx} (hu : X.A.units < cLine) : OpR X (compareOp .Eq) rDS := by
  intro pins s σ H x
        y v u Q I rx ry h
  obtain ⟨a, i, ex, ey, e, q⟩ := h
  subst ex ey
  cases (show v =
        Value.ref a from rx)
  obtain ⟨t, rfl⟩ := ry
  obtain ⟨_, _, vs, _, o, es, ep, ho, hx, hd, _⟩ := dk_of I.hok e
  exact dict_str i t ho hx.1 hd hu _ _ _ _ ⟨.bl false, H, I, rfl, q⟩
end DL
set_option Elab.async false
set_option linter.all false
set_option maxRecDepth 100000
set_option
      maxHeartbeats 4000000
/-! DLC: equality, membership, comparisons, tests, subscripts. -/
namespace DL
open PySem PySem.Spec
      PyProof.Rows L2
variable [Tbs]

/-! ### equality of data -/
mutual
def deq : D → D → Bool
  | .non, .non => true
  | .bl a, .bl b => a == b
  | .bl a, .int j => (if a then 1 else 0) == j
  | .int i, .bl b => i == (if b then 1 else 0)
  | .int i, .int j => i == j
  | .str x, .str y => x == y
  | .lst xs, .lst ys => deqs xs ys
  | .tup xs, .tup ys => deqs xs ys
  | _, _ => false
def deqs : List D → List D → Bool
  | [], [] => true
  | x :: xs, y :: ys => deq x y && deqs xs ys
  | _, _ => false
end
mutual
def dat : Nat → D → Bool
  | _, .non => true
  | _, .bl _ => true
  | _, .int _ => true
  | _, .str _ => true
  | n + 1, .lst xs => dats n xs
  | n + 1, .tup xs => dats n xs
  | _, _ => false
def dats : Nat → List D → Bool
  | _, [] => true
  | n, x :: xs => dat n x && dats n xs
end
mutual
def toP : D → PyData
  | .non => .none
  | .bl b => .bool b
  | .int i => .int i
  | .str x => .str x
  | .lst xs => .list (toPs xs)
  | .tup xs => .tuple (toPs xs)
  | .dct _ _ => .none
  | .raw _ => .none
  | .fn _ => .none
  | .pr _ _ => .none
  | .rol _ => .none
def toPs : List D → List PyData
  | [] => []
  | x :: xs => toP x :: toPs xs
end
mutual
theorem deq_eqv : ∀ (n : Nat) (d e : D), dat n d = true → dat n e = true → PyData.eqv (toP d) (toP e) = deq d e
  | n, .non, e, h, g => by cases e <;> simp_all [deq, toP, PyData.eqv, dat]
  | n, .bl a, e, h, g => by cases e <;> simp_all [deq, toP, PyData.eqv, dat]
  | n, .int a, e, h, g => by cases e <;> simp_all [deq, toP, PyData.eqv, dat]
  | n, .str a, e, h, g => by cases e <;> simp_all [deq, toP, PyData.eqv, dat]
  | 0, .lst a, e, h, g => by simp [dat] at h
  | 0, .tup a, e, h, g => by simp [dat] at h
  | n + 1, .lst a, e, h, g => by
    cases e with
    | lst b =>
      simp only [deq, toP, PyData.eqv]
      exact deqs_eqv n a b (by simpa [dat] using h) (by simpa [dat] using g)
    | _ => simp_all [deq, toP, PyData.eqv, dat]
  | n + 1, .tup a, e, h, g => by
    cases e with
    | tup b =>
      simp only [deq, toP, PyData.eqv]
      exact deqs_eqv n a b (by simpa [dat] using h) (by simpa [dat] using g)
    | _ => simp_all [deq, toP, PyData.eqv, dat]
  | n, .dct _ _, e, h, g => by cases n <;> simp [dat] at h
  | n, .raw _, e, h, g => by cases n <;> simp [dat] at h
  | n, .fn _, e, h, g => by cases n <;> simp [dat] at h
  | n, .pr _ _, e, h, g => by cases n <;> simp [dat] at h
  | n, .rol _, e, h, g => by cases n <;> simp [dat] at h
theorem deqs_eqv : ∀ (n : Nat) (d e : List D), dats n d = true → dats n e = true → PyData.eqvAll (toPs d) (toPs e) = deqs d e
  | n, [], [], h, g => by simp only [deqs, toPs, PyData.eqvAll]
  | n, [], e :: es, h, g => by simp only [deqs, toPs, PyData.eqvAll]
  | n, d :: ds, [], h, g => by simp only [deqs, toPs, PyData.eqvAll]
  | n, d :: ds, e :: es, h, g => by
    simp only [dats, Bool.and_eq_true] at h g
    simp only [deqs, toPs, PyData.eqvAll]
    rw [deq_eqv n d e h.1 g.1, deqs_eqv n ds es h.2 g.2]
end
mutual
theorem dat_depth : ∀ (n : Nat) (d : D), dat n d = true → (toP d).depth ≤ n
  | n, .non, h => by simp [toP, PyData.depth]
  | n, .bl a, h => by simp [toP, PyData.depth]
  | n, .int a, h => by simp [toP, PyData.depth]
  | n, .str a, h => by simp [toP, PyData.depth]
  | 0, .lst a, h => by simp [dat] at h
  | 0, .tup a, h => by simp [dat] at h
  | n + 1, .lst a, h => by
    have := dats_depth n a (by simpa [dat] using h)
    simp only [toP, PyData.depth]
    omega
  | n + 1, .tup a, h => by
    have := dats_depth n a (by simpa [dat] using h)
    simp only [toP, PyData.depth]
    omega
  | n, .dct _ _, h => by cases n <;> simp [dat] at h
  | n, .raw _, h => by cases n <;> simp [dat] at h
  | n, .fn _, h => by cases n <;> simp [dat] at h
  | n, .pr _ _, h => by cases n <;> simp [dat] at h
  | n, .rol _, h => by cases n <;> simp [dat] at h
theorem dats_depth : ∀ (n : Nat) (d : List D), dats n d = true → PyData.depthAll (toPs d) ≤ n
  | n, [], h => by simp [toPs, PyData.depthAll]
  | n, d :: ds, h => by
    simp only [dats, Bool.and_eq_true] at h
    have h1 := dat_depth n d h.1
    have h2 := dats_depth n ds h.2
    simp only [toPs, PyData.depthAll]
    omega
end
section
variable {K : PySem.W.Frag} {F H : Hp}
mutual
theorem rp_dp (s : Sub F H) : ∀ (n : Nat) (d : D) (v : V), dat n d = true → Rp K F v d → Dp K H v (toP d) ∧ (toP d).canLay0 = true
  | n, .non, _, h, r => by cases r; exact ⟨.non, by simp [toP, PyData.canLay0]⟩
  | n, .bl _, _, h, r => by cases r; exact ⟨.bl _, by simp [toP, PyData.canLay0]⟩
  | n, .int _, _, h, r => by cases r; exact ⟨.int _, by simp [toP, PyData.canLay0]⟩
  | n, .str _, _, h, r => by
    cases r with
    | str _ g => exact ⟨.str _, by simpa [toP, PyData.canLay0] using g⟩
  | 0, .lst a, _, h, r => by simp [dat] at h
  | 0, .tup a, _, h, r => by simp [dat] at h
  | n + 1, .lst a, _, h, r => by
    cases r with
    | lst h1 h2 =>
      obtain ⟨g1, g2⟩ := rps_dp s n a _ (by simpa [dat] using h) h2
      exact ⟨.lst (SqL.of (s _ _ h1)) g1, by simpa [toP, PyData.canLay0] using g2⟩
  | n + 1, .tup a, _, h, r => by
    cases r with
    | tup h1 h2 =>
      obtain ⟨g1, g2⟩ := rps_dp s n a _ (by simpa [dat] using h) h2
      exact ⟨.tup (s.sqP h1).sqT g1, by simpa [toP, PyData.canLay0] using g2⟩
  | n, .dct _ _, _, h, r => by cases n <;> simp [dat] at h
  | n, .raw _, _, h, r => by cases n <;> simp [dat] at h
  | n, .fn _, _, h, r => by cases n <;> simp [dat] at h
  | n, .pr _ _, _, h, r => by cases n <;> simp [dat] at h
  | n, .rol _, _, h, r => by cases n <;> simp [dat] at h
theorem rps_dp (s : Sub F H) : ∀ (n : Nat) (d : List D) (v : List V), dats n d = true → RpAll K F v d → DpAll K H v (toPs d) ∧ PyData.canLayAll0 (toPs d) = true
  | n, [], _, h, r => by cases r; exact ⟨.nil, by simp [toPs, PyData.canLayAll0]⟩
  | n, d :: ds, _, h, r => by
    cases r with
    | cons r1 r2 =>
      simp only [dats, Bool.and_eq_true] at h
      obtain ⟨g1, g2⟩ := rp_dp s n d _ h.1 r1
      obtain ⟨g3, g4⟩ := rps_dp s n ds _ h.2 r2
      exact ⟨.cons g1 g3, by simp [toPs, PyData.canLayAll0, g2, g4]⟩
end
theorem rp_shaped (s : Sub F H) {d : D} {v : V} (h : dat 60 d = true) (r : Rp K F v d) : Dp K H v (toP d) ∧ SeqAt.shaped (toP d) = true := by
  obtain ⟨h1, h2⟩ := rp_dp s 60 d v h r
  refine ⟨h1, ?_⟩
  show ((toP d).canLay0 && decide ((toP d).depth ≤ 64)) = true
  rw [h2, decide_eq_true (Nat.le_trans (dat_depth 60 d h) (by decide))]
  rfl
end
/-- a dict with nothing in it beside a text -/
def eqX : D → D → Option D
  | .dct [] [], .str _ => some (.bl false)
  | _, _ => none
def eqD (a b : D) : Option D := if dat 60 a && dat 60 b then some (.bl (deq a b)) else eqX a b
def rEqE (K : PySem.W.Frag) : R2 := fun x y H Q => rEqD K x y H Q ∨ rDS x y H Q
theorem op_eqE {X : Cx} (hu : X.A.units + 64 < cLine) : OpR X (compareOp .Eq) (rEqE X.K) := (op_eqD hu).or (op_ds (by omega))
def neD (a b : D) : Option D := if dat 60 a && dat 60 b then some (.bl (!deq a b)) else none
section
variable {X : Cx} {Kf : PySem.W.Frag} {B : Bs} {W : WX} {n : Nat}
theorem ops_eq : OpS B W (rEqE B.K) fun a b => lft (eqD a b) := by
  refine .pure fun dx dy d h F H x y sub rx ry Q q => ?_
  unfold eqD at h
  split at h
  · rename_i hc
    rw [Bool.and_eq_true] at hc
    cases h
    obtain ⟨p1, s1⟩ := rp_shaped sub hc.1 rx
    obtain ⟨p2, s2⟩ := rp_shaped sub hc.2 ry
    exact .inl ⟨_, _, p1, p2, s1, s2, by rw [deq_eqv 60 dx dy hc.1 hc.2]; exact q _ (.bl _)⟩
  · unfold eqX at h
    split at h
    · cases h
      cases ry
      cases rx with
      | dct h1 h2 h3 =>
        cases h3
        exact .inr ⟨_, _, rfl, rfl, sub _ _ h1, q _ (.bl _)⟩
    · cases h
theorem ops_ne : OpS B W (rNeD B.K) fun a b => lft (neD a b) := by
  refine .pure fun dx dy d h F H x y sub rx ry Q q => ?_
  unfold neD at h
  split at h
  · rename_i hc
    rw [Bool.and_eq_true] at hc
    cases h
    obtain ⟨p1, s1⟩ := rp_shaped sub hc.1 rx
    obtain ⟨p2, s2⟩ := rp_shaped sub hc.2 ry
    exact ⟨_, _, p1, p2, s1, s2, by rw [deq_eqv 60 dx dy hc.1 hc.2]; exact q _ (.bl _)⟩
  · cases h
/-! ### membership: lists, tuples; texts -/
def memD (x : D) : List D → Bool
  | [] => false
  | y :: ys => deq y x || memD x ys
def inD : D → D → Option D
  | x, .lst ys => if dat 60 x && dats 59 ys then some (.bl (memD x ys)) else none
  | x, .tup ys => if dat 60 x && dats 59 ys then some (.bl (memD x ys)) else none
  | .str x, .str y => some (.bl (!(Builtin.Str.occurrences y x 0 y.length 1).isEmpty))
  | _, _ => none
def notD : Option D → Option D
  | some (.bl b) => some (.bl (!b))
  | _ => none
def niD (x y : D) : Option D := notD (inD x y)
def rInTD (K : PySem.W.Frag) : R2 := fun x y H Q => ∃ d ds, Dp K H x d ∧ Dp K H y (.tuple ds) ∧ SeqAt.shaped d = true ∧ SeqAt.shaped (.tuple ds) = true ∧ Q (.bl (ds.any fun z => PyData.eqv z d)) H
def rNiTD (K : PySem.W.Frag) : R2 := fun x y H Q => ∃ d ds, Dp K H x d ∧ Dp K H y (.tuple ds) ∧ SeqAt.shaped d = true ∧ SeqAt.shaped (.tuple ds) = true ∧ Q (.bl (!ds.any fun z => PyData.eqv z d)) H
theorem op_inTD (hu : X.A.units + 65 < cLine) : OpR X (compareOp .In) (rInTD X.K) := by
  intro pins s σ H x
        y v u Q I rx ry h
  obtain ⟨d, ds, hd,
        he, sd, se, q⟩ := h
  obtain ⟨as, r1⟩ :=
        Dp.reads I d x v hd rx
  obtain ⟨bs, r2⟩ := Dp.reads I (.tuple ds) y u he ry
  exact SeqAt.in_tuple_reads r2 r1 (SeqAt.canLay_of_shaped se) (SeqAt.canLay_of_shaped sd) (room_in_shaped sd hu) ⟨.bl _, H, I, rfl, q⟩
theorem op_niTD (hu : X.A.units + 65 < cLine) : OpR X (compareOp .NotIn) (rNiTD X.K) := by
  intro pins s σ H x
        y v u Q I rx ry h
  obtain ⟨d, ds, hd,
        he, sd, se, q⟩ := h
  obtain ⟨as, r1⟩ :=
        Dp.reads I d x v hd rx
  obtain ⟨bs, r2⟩ := Dp.reads I (.tuple ds) y u he ry
  exact SeqAt.notIn_tuple_reads r2 r1 (SeqAt.canLay_of_shaped se) (SeqAt.canLay_of_shaped sd) (room_in_shaped sd hu) ⟨.bl _, H, I, rfl, q⟩
def rStrIn (neg : Bool) : R2 := fun x y H Q => ∃ i j, x = .str i ∧ y = .str j ∧ Q (.bl (if neg then (!(!(Builtin.Str.occurrences j i 0 j.length 1).isEmpty)) else (!(Builtin.Str.occurrences j i 0 j.length 1).isEmpty))) H
def rInA (K : PySem.W.Frag) : R2 := fun x y H Q => rInD K x y H Q ∨ rInTD K x y H Q ∨ rStrIn false x y H Q
def rNiA (K : PySem.W.Frag) : R2 := fun x y H Q => rNotInD K x y H Q ∨ rNiTD K x y H Q ∨ rStrIn true x y H Q
theorem op_inA (hu : X.A.units + 65 < cLine) : OpR X (compareOp .In) (rInA X.K) := (op_inD hu).or ((op_inTD hu).or op_in_str)
theorem op_niA (hu : X.A.units + 65 < cLine) : OpR X (compareOp .NotIn) (rNiA X.K) := (op_notInD hu).or ((op_niTD hu).or op_notin_str)
theorem mem_any : ∀ (x : D) (ys : List D), dat 60 x = true → dats 59 ys = true → ((toPs ys).any fun z => PyData.eqv z (toP x)) = memD x ys
  | x, [], _, _ => rfl
  | x, y :: ys, h, g => by
    simp only [dats, Bool.and_eq_true] at g
    have g1 : dat 60 y = true := dat_up 59 y g.1
    show (PyData.eqv (toP y) (toP x) || (toPs ys).any _) = (deq y x || memD x ys)
    rw [deq_eqv 60 y x g1 h, mem_any x ys h g.2]
where
  dat_up : ∀ (n : Nat) (d : D), dat n d = true → dat (n + 1) d = true
    | n, .non, _ => by simp [dat]
    | n, .bl _, _ => by simp [dat]
    | n, .int _, _ => by simp [dat]
    | n, .str _, _ => by simp [dat]
    | 0, .lst _, h => by simp [dat] at h
    | 0, .tup _, h => by simp [dat] at h
    | n + 1, .lst a, h => by
      simp only [dat] at h ⊢
      exact dats_up n a h
    | n + 1, .tup a, h => by
      simp only [dat] at h ⊢
      exact dats_up n a h
    | n, .dct _ _, h => by cases n <;> simp [dat] at h
    | n, .raw _, h => by cases n <;> simp [dat] at h
    | n, .fn _, h => by cases n <;> simp [dat] at h
    | n, .pr _ _, h => by cases n <;> simp [dat] at h
    | n, .rol _, h => by cases n <;> simp [dat] at h
  dats_up : ∀ (n : Nat) (d : List D), dats n d = true → dats (n + 1) d = true
    | n, [], _ => by simp [dats]
    | n, d :: ds, h => by
      simp only [dats, Bool.and_eq_true] at h ⊢
      exact ⟨dat_up n d h.1, dats_up n ds h.2⟩
theorem ops_in : OpS B W (rInA B.K) fun a b => lft (inD a b) := by
  refine .pure fun dx dy d h F H x y sub rx ry Q q => ?_
  unfold inD at h
  split at h
  · split at h
    · rename_i ys hc
      rw [Bool.and_eq_true] at hc
      cases h
      obtain ⟨p1, s1⟩ := rp_shaped sub hc.1 rx
      obtain ⟨p2, s2⟩ := rp_shaped sub (d := .lst ys) (by simpa [dat] using hc.2) ry
      refine .inl ⟨_, toPs ys, p1, by simpa [toP] using p2, s1, by simpa [toP] using s2, ?_⟩
      rw [mem_any _ _ hc.1 hc.2]
      exact q _ (.bl _)
    · cases h
  · split at h
    · rename_i ys hc
      rw [Bool.and_eq_true] at hc
      cases h
      obtain ⟨p1, s1⟩ := rp_shaped sub hc.1 rx
      obtain ⟨p2, s2⟩ := rp_shaped sub (d := .tup ys) (by simpa [dat] using hc.2) ry
      refine .inr (.inl ⟨_, toPs ys, p1, by simpa [toP] using p2, s1, by simpa [toP] using s2, ?_⟩)
      rw [mem_any _ _ hc.1 hc.2]
      exact q _ (.bl _)
    · cases h
  · cases h; cases rx; cases ry
    exact .inr (.inr ⟨_, _, rfl, rfl, q _ (.bl _)⟩)
  · cases h
theorem ops_ni : OpS B W (rNiA B.K) fun a b => lft (niD a b) := by
  refine .pure fun dx dy d h F H x y sub rx ry Q q => ?_
  unfold niD inD at h
  split at h
  · split at h
    · rename_i ys hc
      rw [Bool.and_eq_true] at hc
      cases h
      obtain ⟨p1, s1⟩ := rp_shaped sub hc.1 rx
      obtain ⟨p2, s2⟩ := rp_shaped sub (d := .lst ys) (by simpa [dat] using hc.2) ry
      refine .inl ⟨_, toPs ys, p1, by simpa [toP] using p2, s1, by simpa [toP] using s2, ?_⟩
      rw [mem_any _ _ hc.1 hc.2]
      exact q _ (.bl _)
    · cases h
  · split at h
    · rename_i ys hc
      rw [Bool.and_eq_true] at hc
      cases h
      obtain ⟨p1, s1⟩ := rp_shaped sub hc.1 rx
      obtain ⟨p2, s2⟩ := rp_shaped sub (d := .tup ys) (by simpa [dat] using hc.2) ry
      refine .inr (.inl ⟨_, toPs ys, p1, by simpa [toP] using p2, s1, by simpa [toP] using s2, ?_⟩)
      rw [mem_any _ _ hc.1 hc.2]
      exact q _ (.bl _)
    · cases h
  · cases h; cases rx; cases ry
    exact .inr (.inr ⟨_, _, rfl, rfl, q _ (.bl _)⟩)
  · cases h
/-! ### order: ints, texts -/
def cmpD (p : Int → Int → Bool) : D → D → Option D
  | .int i, .int j => some (.bl (p i j))
  | _, _ => none
theorem ops_cmp {p : Int → Int → Bool} : OpS B W (rI0 fun i j => .bl (p i j)) fun a b => lft (cmpD p a b) := by
  refine .pure fun dx dy d h F H x y sub rx ry Q q => ?_
  unfold cmpD at h
  split at h
  · cases h; cases rx; cases ry
    exact ⟨_, _, rfl, rfl, q _ (.bl _)⟩
  · cases h
/-- texts in order -/
def leT : D → D → Option D
  | .str i, .str j => some (.bl (!decide (j.cps.toList < i.cps.toList)))
  | _, _ => none
def ltT : D → D → Option D
  | .str i, .str j => some (.bl (decide (i.cps.toList < j.cps.toList)))
  | _, _ => none
theorem ops_leT : OpS B W (fun x y H Q => ∃ i j, x = .str i ∧ y = .str j ∧ Q (.bl (!decide (j.cps.toList < i.cps.toList))) H) fun a b => lft (leT a b) := by
  refine .pure fun dx dy d h F H x y sub rx ry Q q => ?_
  unfold leT at h
  split at h
  · cases h; cases rx; cases ry
    exact ⟨_, _, rfl, rfl, q _ (.bl _)⟩
  · cases h
theorem ops_ltT : OpS B W (fun x y H Q => ∃ i j, x = .str i ∧ y = .str j ∧ Q (.bl (decide (i.cps.toList < j.cps.toList))) H) fun a b => lft (ltT a b) := by
  refine .pure fun dx dy d h F H x y sub rx ry Q q => ?_
  unfold ltT at h
  split at h
  · cases h; cases rx; cases ry
    exact ⟨_, _, rfl, rfl, q _ (.bl _)⟩
  · cases h
def isN (neg : Bool) (d e : D) : Option D :=
  match e with
  | .non => match d with
    | .raw _ => none
    | .fn _ => none
    | .pr _ _ => none
    | .rol _ => none
    | .non => some (.bl (!neg))
    | _ => some (.bl neg)
  | _ => none
def rIsN (neg : Bool) : R2 := fun x y H Q => y = .non ∧ Q (.bl (if neg then !decide (x = .non) else decide (x = .non))) H
theorem ops_isN {neg : Bool} : OpS B W (rIsN neg) fun a b => lft (isN neg a b) := by
  refine .pure fun dx dy d h F H x y sub rx ry Q q => ?_
  unfold isN at h
  split at h
  · cases ry
    refine ⟨rfl, ?_⟩
    split at h
    · cases h
    · cases h
    · cases h
    · cases h
    · cases h; cases rx
      have e : (if neg = true then !decide (V.non = V.non) else decide (V.non = V.non)) = !neg := by cases neg <;> rfl
      rw [e]
      exact q _ (.bl _)
    · cases h
      have hx : x ≠ .non := by
        intro z
        subst z
        cases rx <;> simp_all
      have e : (if neg = true then !decide (x = V.non) else decide (x = V.non)) = neg := by
        rw [decide_eq_false hx]
        cases neg <;> rfl
      rw [e]
      exact q _ (.bl _)
  · cases h
end
end DL
set_option Elab.async false
set_option linter.all false
set_option maxRecDepth 100000
set_option
      maxHeartbeats 4000000
/-! DLD: comparisons and tests as rules, subscripts, slices. -/
namespace DL
open PySem PySem.Spec
      PyProof.Rows L2
variable [Tbs]
theorem Cq.u65 {Kf : PySem.W.Frag} {X : Cx} {B : Bs} {W : WX} {n : Nat} (q : Cq Kf X B W n) : X.A.units + 65 < cLine := by
  cases q.hX
  have := q.hr.un; omega
theorem Cq.u64 {Kf : PySem.W.Frag} {X : Cx} {B : Bs} {W : WX} {n : Nat} (q : Cq Kf X B W n) : X.A.units + 64 < cLine := by
  cases q.hX
  have := q.hr.un; omega

def asB : Option D → M Bool
  | some (.bl c) => ret c
  | _ => fun _ _ => none
theorem asB_some {o : Option D} {ρ : Rho} {w : Wo} {r : Rs Bool} (h : asB o ρ w = some r) : ∃ k, o = some (.bl k) ∧ r = .ok k ρ w := by
  cases o with
  | none => cases h
  | some d => cases d <;> first | (cases h; done) | exact ⟨_, rfl, (Option.some.inj h).symm⟩
def mBinT (f : D → D → Option D) (ma mb : M D) : M Bool := bnd ma fun a => bnd mb fun b => asB (f a b)
section
variable {X : Cx} {Kf : PySem.W.Frag} {B : Bs} {W : WX} {n : Nat} {a b c e : Expr} {es : List Expr} {ta tb tc te : TE} {ma mb mc me : M D} {pos : Pos} {r r' : R2} {f g : D → D → Option D}
theorem se_cmp1 {op : CmpOp} (ho : OpR X (compareOp op) r) (hs : OpS B W r fun a b => lft (f a b)) (ha : SE X B W a ta ma) (hb : SE X B W b tb mb) (hm : behindInMarks op b = false) : SE X B W (.Compare a [op] [b] pos) (tOp r ta tb) (mBin f ma mb) :=
  ⟨pe_cmpR ho ha.pe hb.pe hm, sim_op ha.sim hb.sim hs⟩
/-- a bool value as a test -/
theorem sim_asB (hs : OpS B W r fun a b => lft (f a b)) (ha : Sim B W (RV B) ta ma) (hb : Sim B W (RV B) tb mb) : Sim B W RB (tTest (tOp r ta tb)) (mBinT f ma mb) := by
  intro ρ w res hres F σ H ok Q p
  have key : ∀ r1, mBin f ma mb ρ w = some r1 → Post B W (RV B) r1 F σ (fun x H' => ∃ k, x = .bl k ∧ Q k H') → tTest (tOp r ta tb) σ H Q := fun r1 h1 p1 => sim_op ha hb hs ρ w r1 h1 F σ H ok _ p1
  unfold mBinT bnd at hres
  unfold mBin bnd at key
  cases h1 : ma ρ w with
  | none => rw [h1] at hres; cases hres
  | some r1 =>
    rw [h1] at hres key
    cases r1 with
    | exc x ρ1 w1 =>
      cases hres
      exact key _ rfl p
    | ok d1 ρ1 w1 =>
      dsimp only at hres key
      cases h2 : mb ρ1 w1 with
      | none => rw [h2] at hres; cases hres
      | some r2 =>
        rw [h2] at hres key
        cases r2 with
        | exc x ρ2 w2 =>
          cases hres
          exact key _ rfl p
        | ok d2 ρ2 w2 =>
          dsimp only at hres key
          obtain ⟨k, hk, e⟩ := asB_some hres
          subst e
          refine key (.ok (.bl k) ρ2 w2) (by unfold lft; rw [hk]; rfl) fun v F' H' s ok' rv => ?_
          cases rv
          exact ⟨k, rfl, p k F' H' s ok' rfl⟩
theorem st_cmp1 {op : CmpOp} (ho : OpR X (compareOp op) r) (hs : OpS B W r fun a b => lft (f a b)) (ha : SE X B W a ta ma) (hb : SE X B W b tb mb) (hm : behindInMarks op b = false) : ST X B W (.Compare a [op] [b] pos) (tTest (tOp r ta tb)) (mBinT f ma mb) :=
  ⟨pt_cmpR ho ha.pe hb.pe hm, sim_asB hs ha.sim hb.sim⟩
abbrev ltD := cmpD fun i j => decide (i < j)
abbrev leD := cmpD fun i j => decide (i ≤ j)
abbrev gtD := cmpD fun i j => decide (j < i)
abbrev geD := cmpD fun i j => decide (j ≤ i)
theorem op_isNA : OpR X (compareOp .Is) (rIsN false) := op_isN
theorem op_notNA : OpR X (compareOp .IsNot) (rIsN true) := op_notN
theorem se_eq (q : Cq Kf X B W n) (ha : SE X B W a ta ma) (hb : SE X B W b tb mb) : SE X B W (.Compare a [.Eq] [b] pos) (tOp (rEqE Kf) ta tb) (mBin eqD ma mb) := by
  cases q.hX
  exact se_cmp1 (op_eqE q.u64) (by rw [q.hK]; exact ops_eq) ha hb (nomark _)
theorem se_ne (q : Cq Kf X B W n) (ha : SE X B W a ta ma) (hb : SE X B W b tb mb) : SE X B W (.Compare a [.NotEq] [b] pos) (tOp (rNeD Kf) ta tb) (mBin neD ma mb) := by
  cases q.hX
  exact se_cmp1 (op_neD q.u64) (by rw [q.hK]; exact ops_ne) ha hb (nomark _)
theorem se_in (q : Cq Kf X B W n) (ha : SE X B W a ta ma) (hb : SE X B W b tb mb) (hm : behindInMarks .In b = false := by with_unfolding_all rfl) : SE X B W (.Compare a [.In] [b] pos) (tOp (rInA Kf) ta tb) (mBin inD ma mb) := by
  cases q.hX
  exact se_cmp1 (op_inA q.u65) (by rw [q.hK]; exact ops_in) ha hb hm
theorem se_ni (q : Cq Kf X B W n) (ha : SE X B W a ta ma) (hb : SE X B W b tb mb) (hm : behindInMarks .NotIn b = false := by with_unfolding_all rfl) : SE X B W (.Compare a [.NotIn] [b] pos) (tOp (rNiA Kf) ta tb) (mBin niD ma mb) := by
  cases q.hX
  exact se_cmp1 (op_niA q.u65) (by rw [q.hK]; exact ops_ni) ha hb hm
theorem se_lt (ha : SE X B W a ta ma) (hb : SE X B W b tb mb) : SE X B W (.Compare a [.Lt] [b] pos) (tOp (rI0 fun i j => .bl (decide (i < j))) ta tb) (mBin ltD ma mb) := se_cmp1 op_lt ops_cmp ha hb (nomark _)
theorem se_le (ha : SE X B W a ta ma) (hb : SE X B W b tb mb) : SE X B W (.Compare a [.LtE] [b] pos) (tOp (rI0 fun i j => .bl (decide (i ≤ j))) ta tb) (mBin leD ma mb) := se_cmp1 op_le ops_cmp ha hb (nomark _)
theorem se_gt (ha : SE X B W a ta ma) (hb : SE X B W b tb mb) : SE X B W (.Compare a [.Gt] [b] pos) (tOp (rI0 fun i j => .bl (decide (j < i))) ta tb) (mBin gtD ma mb) := se_cmp1 op_gt ops_cmp ha hb (nomark _)
theorem se_ge (ha : SE X B W a ta ma) (hb : SE X B W b tb mb) : SE X B W (.Compare a [.GtE] [b] pos) (tOp (rI0 fun i j => .bl (decide (j ≤ i))) ta tb) (mBin geD ma mb) := se_cmp1 op_ge ops_cmp ha hb (nomark _)
theorem se_is (ha : SE X B W a ta ma) (hb : SE X B W b tb mb) : SE X B W (.Compare a [.Is] [b] pos) (tOp (rIsN false) ta tb) (mBin (isN false) ma mb) := se_cmp1 op_isNA ops_isN ha hb (nomark _)
theorem se_isnot (ha : SE X B W a ta ma) (hb : SE X B W b tb mb) : SE X B W (.Compare a [.IsNot] [b] pos) (tOp (rIsN true) ta tb) (mBin (isN true) ma mb) := se_cmp1 op_notNA ops_isN ha hb (nomark _)
theorem st_eq (q : Cq Kf X B W n) (ha : SE X B W a ta ma) (hb : SE X B W b tb mb) : ST X B W (.Compare a [.Eq] [b] pos) (tTest (tOp (rEqE Kf) ta tb)) (mBinT eqD ma mb) := by
  cases q.hX
  exact st_cmp1 (op_eqE q.u64) (by rw [q.hK]; exact ops_eq) ha hb (nomark _)
theorem st_ne (q : Cq Kf X B W n) (ha : SE X B W a ta ma) (hb : SE X B W b tb mb) : ST X B W (.Compare a [.NotEq] [b] pos) (tTest (tOp (rNeD Kf) ta tb)) (mBinT neD ma mb) := by
  cases q.hX
  exact st_cmp1 (op_neD q.u64) (by rw [q.hK]; exact ops_ne) ha hb (nomark _)
theorem st_in (q : Cq Kf X B W n) (ha : SE X B W a ta ma) (hb : SE X B W b tb mb) (hm : behindInMarks .In b = false := by with_unfolding_all rfl) : ST X B W (.Compare a [.In] [b] pos) (tTest (tOp (rInA Kf) ta tb)) (mBinT inD ma mb) := by
  cases q.hX
  exact st_cmp1 (op_inA q.u65) (by rw [q.hK]; exact ops_in) ha hb hm
theorem st_ni (q : Cq Kf X B W n) (ha : SE X B W a ta ma) (hb : SE X B W b tb mb) (hm : behindInMarks .NotIn b = false := by with_unfolding_all rfl) : ST X B W (.Compare a [.NotIn] [b] pos) (tTest (tOp (rNiA Kf) ta tb)) (mBinT niD ma mb) := by
  cases q.hX
  exact st_cmp1 (op_niA q.u65) (by rw [q.hK]; exact ops_ni) ha hb hm
theorem st_lt (ha : SE X B W a ta ma) (hb : SE X B W b tb mb) : ST X B W (.Compare a [.Lt] [b] pos) (tTest (tOp (rI0 fun i j => .bl (decide (i < j))) ta tb)) (mBinT ltD ma mb) := st_cmp1 op_lt ops_cmp ha hb (nomark _)
theorem st_le (ha : SE X B W a ta ma) (hb : SE X B W b tb mb) : ST X B W (.Compare a [.LtE] [b] pos) (tTest (tOp (rI0 fun i j => .bl (decide (i ≤ j))) ta tb)) (mBinT leD ma mb) := st_cmp1 op_le ops_cmp ha hb (nomark _)
theorem st_gt (ha : SE X B W a ta ma) (hb : SE X B W b tb mb) : ST X B W (.Compare a [.Gt] [b] pos) (tTest (tOp (rI0 fun i j => .bl (decide (j < i))) ta tb)) (mBinT gtD ma mb) := st_cmp1 op_gt ops_cmp ha hb (nomark _)
theorem st_ge (ha : SE X B W a ta ma) (hb : SE X B W b tb mb) : ST X B W (.Compare a [.GtE] [b] pos) (tTest (tOp (rI0 fun i j => .bl (decide (j ≤ i))) ta tb)) (mBinT geD ma mb) := st_cmp1 op_ge ops_cmp ha hb (nomark _)
theorem st_is (ha : SE X B W a ta ma) (hb : SE X B W b tb mb) : ST X B W (.Compare a [.Is] [b] pos) (tTest (tOp (rIsN false) ta tb)) (mBinT (isN false) ma mb) := st_cmp1 op_isNA ops_isN ha hb (nomark _)
theorem st_isnot (ha : SE X B W a ta ma) (hb : SE X B W b tb mb) : ST X B W (.Compare a [.IsNot] [b] pos) (tTest (tOp (rIsN true) ta tb)) (mBinT (isN true) ma mb) := st_cmp1 op_notNA ops_isN ha hb (nomark _)

/-! ### and, or, not; a if t else b -/
section
variable {tT tU : TT} {mT mU : M Bool} {rest : List Expr}
structure SW (X : Cx) (B : Bs) (W : WX) (e : Expr) (t : TT) (m : M Bool) : Prop where
  pw : PW X e t
  sim : Sim B W RB t m
def mAnd (m k : M Bool) : M Bool := bnd m fun c => if c = true then k else ret false
def mOr (m k : M Bool) : M Bool := bnd m fun c => if c = true then ret true else k
def mNot (m : M Bool) : M Bool := bnd m fun c => ret (!c)
theorem sim_and (h : Sim B W RB tT mT) (g : Sim B W RB tU mU) : Sim B W RB (tAnd tT tU) (mAnd mT mU) :=
  Sim.bnd (R' := RB) (k := fun c => if c = true then mU else ret false) (tk := fun c σ H Q => if c = true then tU σ H Q else Q false H) h fun c ρ w r hr b F σ H ok e Q p => by
    cases e
    cases c with
    | true =>
      rw [if_pos rfl] at hr ⊢
      exact g ρ w r hr F σ H ok Q p
    | false =>
      rw [if_neg Bool.false_ne_true] at hr ⊢
      cases hr
      exact p false F H (Sub.refl F) ok rfl
theorem sim_or (h : Sim B W RB tT mT) (g : Sim B W RB tU mU) : Sim B W RB (tOr tT tU) (mOr mT mU) :=
  Sim.bnd (R' := RB) (k := fun c => if c = true then ret true else mU) (tk := fun c σ H Q => if c = true then Q true H else tU σ H Q) h fun c ρ w r hr b F σ H ok e Q p => by
    cases e
    cases c with
    | true =>
      rw [if_pos rfl] at hr ⊢
      cases hr
      exact p true F H (Sub.refl F) ok rfl
    | false =>
      rw [if_neg Bool.false_ne_true] at hr ⊢
      exact g ρ w r hr F σ H ok Q p
theorem sim_not (h : Sim B W RB tT mT) : Sim B W RB (tNot tT) (mNot mT) :=
  Sim.bnd (R' := RB) (k := fun c => ret (!c)) (tk := fun c σ H Q => Q (!c) H) h fun c ρ w r hr b F σ H ok e Q p => by
    cases e
    cases hr
    exact p _ F H (Sub.refl F) ok rfl
theorem sw_and1 (h : ST X B W a tT mT) : SW X B W (.BoolOp .And [a] pos) tT mT := ⟨pw_and1 h.pt, h.sim⟩
theorem sw_or1 (h : ST X B W a tT mT) : SW X B W (.BoolOp .Or [a] pos) tT mT := ⟨pw_or1 h.pt, h.sim⟩
theorem sw_and (h : ST X B W a tT mT) (g : SW X B W (.BoolOp .And (b :: rest) pos) tU mU) : SW X B W (.BoolOp .And (a :: b :: rest) pos) (tAnd tT tU) (mAnd mT mU) := ⟨pw_and h.pt g.pw, sim_and h.sim g.sim⟩
theorem sw_or (h : ST X B W a tT mT) (g : SW X B W (.BoolOp .Or (b :: rest) pos) tU mU) : SW X B W (.BoolOp .Or (a :: b :: rest) pos) (tOr tT tU) (mOr mT mU) := ⟨pw_or h.pt g.pw, sim_or h.sim g.sim⟩
theorem st_w {e : Expr} (h : SW X B W e tT mT) : ST X B W e tT mT := ⟨h.pw.pt, h.sim⟩
theorem st_not (h : ST X B W a tT mT) : ST X B W (.UnaryOp .Not a pos) (tNot tT) (mNot mT) := ⟨pt_not h.pt, sim_not h.sim⟩
/-- a value that is a bool, as a test -/
def mVal (m : M D) : M Bool := bnd m fun d => asB (some d)
theorem st_val (h : SE X B W e te me) (he : ∀ whole, isTrue e X.env whole = (do let v ← whole; standAt e.pos; holding [v] (truthy v)) := by intro _; rfl) : ST X B W e (tB te) (mVal me) :=
  ⟨pt_val h.pe he, Sim.bnd (R' := RB) (k := fun d => asB (some d)) (tk := fun x σ H Q => ∃ c, x = V.bl c ∧ Q c H) h.sim fun d ρ w r hr v F σ H ok rv Q p => by
    obtain ⟨k, hk, e⟩ := asB_some hr
    cases hk
    subst e
    cases rv
    exact ⟨k, rfl, p k F H (Sub.refl F) ok rfl⟩⟩
/-- as values, all but the last bools -/
def kBool (k : Bool → M D) : D → M D
  | .bl c => k c
  | _ => fun _ _ => none
theorem kBool_some {k : Bool → M D} {d : D} {ρ : Rho} {w : Wo} {r : Rs D} (h : kBool k d ρ w = some r) : ∃ c, d = .bl c ∧ k c ρ w = some r := by
  cases d <;> first | (cases h; done) | exact ⟨_, rfl, h⟩
def mAndV (m k : M D) : M D := bnd m (kBool fun c => if c = true then k else ret (.bl false))
def mOrV (m k : M D) : M D := bnd m (kBool fun c => if c = true then ret (.bl true) else k)
def mNotV (m : M D) : M D := bnd m (kBool fun c => ret (.bl (!c)))
theorem se_one {op} (h : SE X B W a ta ma) : SE X B W (.BoolOp op [a] pos) ta ma := ⟨pe_one h.pe, h.sim⟩
theorem se_and (h : SE X B W a ta ma) (g : SE X B W (.BoolOp .And (b :: rest) pos) tb mb) : SE X B W (.BoolOp .And (a :: b :: rest) pos) (tAndV ta tb) (mAndV ma mb) :=
  ⟨pe_and h.pe g.pe, Sim.bnd (R' := RV B) (k := kBool fun c => if c = true then mb else ret (.bl false)) (tk := fun x σ H Q => ∃ c, x = V.bl c ∧ if c = true then tb σ H Q else Q (.bl false) H) h.sim fun d ρ w r hr v F σ H ok rv Q p => by
    obtain ⟨c, e, hr2⟩ := kBool_some hr
    clear hr
    subst e
    cases rv
    cases c with
    | true => exact ⟨true, rfl, by rw [if_pos rfl] at hr2 ⊢; exact g.sim ρ w r hr2 F σ H ok Q p⟩
    | false =>
      rw [if_neg Bool.false_ne_true] at hr2
      cases hr2
      exact ⟨false, rfl, by rw [if_neg Bool.false_ne_true]; exact p _ F H (Sub.refl F) ok (.bl _)⟩⟩
theorem se_or (h : SE X B W a ta ma) (g : SE X B W (.BoolOp .Or (b :: rest) pos) tb mb) : SE X B W (.BoolOp .Or (a :: b :: rest) pos) (tOrV ta tb) (mOrV ma mb) :=
  ⟨pe_or h.pe g.pe, Sim.bnd (R' := RV B) (k := kBool fun c => if c = true then ret (.bl true) else mb) (tk := fun x σ H Q => ∃ c, x = V.bl c ∧ if c = true then Q (.bl true) H else tb σ H Q) h.sim fun d ρ w r hr v F σ H ok rv Q p => by
    obtain ⟨c, e, hr2⟩ := kBool_some hr
    clear hr
    subst e
    cases rv
    cases c with
    | true =>
      rw [if_pos rfl] at hr2
      cases hr2
      exact ⟨true, rfl, by rw [if_pos rfl]; exact p _ F H (Sub.refl F) ok (.bl _)⟩
    | false => exact ⟨false, rfl, by rw [if_neg Bool.false_ne_true] at hr2 ⊢; exact g.sim ρ w r hr2 F σ H ok Q p⟩⟩
theorem se_not (h : SE X B W a ta ma) : SE X B W (.UnaryOp .Not a pos) (tNotV ta) (mNotV ma) :=
  ⟨pe_not h.pe, Sim.bnd (R' := RV B) (k := kBool fun c => ret (.bl (!c))) (tk := fun x σ H Q => ∃ c, x = V.bl c ∧ Q (.bl (!c)) H) h.sim fun d ρ w r hr v F σ H ok rv Q p => by
    obtain ⟨c, e, hr2⟩ := kBool_some hr
    clear hr
    subst e
    cases rv
    cases hr2
    exact ⟨_, rfl, p _ F H (Sub.refl F) ok (.bl _)⟩⟩
def mIte {α : Type} (m : M Bool) (k l : M α) : M α := bnd m fun c => if c = true then k else l
theorem se_if (h : ST X B W c tT mT) (ga : SE X B W a ta ma) (gb : SE X B W b tb mb) : SE X B W (.IfExp c a b pos) (tIf tT ta tb) (mIte mT ma mb) :=
  ⟨pe_ifExp h.pt ga.pe gb.pe, Sim.bnd (R' := RV B) (k := fun c => if c = true then ma else mb) (tk := fun c σ H Q => if c = true then ta σ H Q else tb σ H Q) h.sim fun d ρ w r hr v F σ H ok rv Q p => by
    cases rv
    cases d with
    | true =>
      rw [if_pos rfl] at hr ⊢
      exact ga.sim ρ w r hr F σ H ok Q p
    | false =>
      rw [if_neg Bool.false_ne_true] at hr ⊢
      exact gb.sim ρ w r hr F σ H ok Q p⟩
/-- a op1 b op2 c -/
def mChain (f g : D → D → Option D) (ma mb mc : M D) : M D := bnd ma fun a => bnd mb fun b => match f a b with
  | some d => kBool (fun k => if k = true then bnd mc fun c => lft (g b c) else ret (.bl false)) d
  | none => fun _ _ => none
theorem sim_chain (hr : OpS B W r fun a b => lft (f a b)) (hr' : OpS B W r' fun a b => lft (g a b)) (ha : Sim B W (RV B) ta ma) (hb : Sim B W (RV B) tb mb) (hc : Sim B W (RV B) tc mc) : Sim B W (RV B) (tChain r r' ta tb tc) (mChain f g ma mb mc) := by
  refine Sim.bnd (R' := RV B) (tk := fun x σ H Q => tb σ H fun y H2 => r x y H2 fun z H3 => ∃ k, z = .bl k ∧ (if k = true then tc σ H3 fun w' H4 => r' y w' H4 Q else Q (.bl false) H3)) ha fun a ρ1 w1 r1 hr1 x F1 σ1 H1 ok1 rx Q1 p1 => ?_
  unfold bnd at hr1
  cases h : mb ρ1 w1 with
  | none => rw [h] at hr1; cases hr1
  | some r2 =>
    rw [h] at hr1
    cases r2 with
    | exc z ρ2 w2 =>
      cases hr1
      exact hb ρ1 w1 _ h F1 σ1 H1 ok1 _ fun d F2 H2 s2 ok2 q => p1 d F2 H2 s2 ok2 q
    | ok b ρ2 w2 =>
      refine hb ρ1 w1 _ h F1 σ1 H1 ok1 _ fun y F2 H2 s2 ok2 ry => ?_
      dsimp only at hr1
      cases hf : f a b with
      | none => rw [hf] at hr1; cases hr1
      | some dk =>
        rw [hf] at hr1
        obtain ⟨k, e, hr3⟩ := kBool_some hr1
        clear hr1
        subst e
        refine hr a b ρ2 w2 (.ok (.bl k) ρ2 w2) (by show (f a b).map (fun z => Rs.ok z ρ2 w2) = _; rw [hf]; rfl) F2 σ1 H2 x y ok2 (rx.up s2) ry _ fun z F3 H3 s3 ok3 rz => ?_
        cases rz
        refine ⟨k, rfl, ?_⟩
        have p3 := (p1.imp s2).imp s3
        cases k with
        | true =>
          rw [if_pos rfl] at hr3 ⊢
          cases hm : mc ρ2 w2 with
          | none => rw [hm] at hr3; cases hr3
          | some r3 =>
            rw [hm] at hr3
            cases r3 with
            | exc z ρ3 w3 =>
              cases hr3
              exact hc ρ2 w2 _ hm F3 σ1 H3 ok3 _ fun d F4 H4 s4 ok4 q => p3 d F4 H4 s4 ok4 q
            | ok c ρ3 w3 => exact hc ρ2 w2 _ hm F3 σ1 H3 ok3 _ fun z F4 H4 s4 ok4 rz => hr' b c ρ3 w3 r1 hr3 F4 σ1 H4 y z ok4 ((ry.up s3).up s4) rz Q1 (p3.imp s4)
        | false =>
          rw [if_neg Bool.false_ne_true] at hr3 ⊢
          cases hr3
          exact p3 _ F3 H3 (Sub.refl F3) ok3 (.bl _)
theorem se_chain {op op' : CmpOp} (ho : OpR X (compareOp op) r) (ho' : OpR X (compareOp op') r') (hr : OpS B W r fun a b => lft (f a b)) (hr' : OpS B W r' fun a b => lft (g a b)) (ha : SE X B W a ta ma) (hb : SE X B W b tb mb) (hc : SE X B W c tc mc)
    (hm : lastMarks [op, op'] [b, c] = false := by with_unfolding_all rfl) : SE X B W (.Compare a [op, op'] [b, c] pos) (tChain r r' ta tb tc) (mChain f g ma mb mc) := ⟨pe_chain ho ho' ha.pe hb.pe hc.pe hm, sim_chain hr hr' ha.sim hb.sim hc.sim⟩
theorem sim_val (h : Sim B W (RV B) te me) : Sim B W RB (tTest te) (mVal me) :=
  Sim.bnd (R' := RB) (k := fun d => asB (some d)) (tk := fun x σ H Q => ∃ c, x = V.bl c ∧ Q c H) h fun d ρ w r hr v F σ H ok rv Q p => by
    obtain ⟨k, hk, e⟩ := asB_some hr
    cases hk
    subst e
    cases rv
    exact ⟨k, rfl, p k F H (Sub.refl F) ok rfl⟩
theorem st_chain {op op' : CmpOp} (ho : OpR X (compareOp op) r) (ho' : OpR X (compareOp op') r') (hr : OpS B W r fun a b => lft (f a b)) (hr' : OpS B W r' fun a b => lft (g a b)) (ha : SE X B W a ta ma) (hb : SE X B W b tb mb) (hc : SE X B W c tc mc)
    (hm : lastMarks [op, op'] [b, c] = false := by with_unfolding_all rfl) : ST X B W (.Compare a [op, op'] [b, c] pos) (tTest (tChain r r' ta tb tc)) (mVal (mChain f g ma mb mc)) := ⟨pt_chain ho ho' ha.pe hb.pe hc.pe hm, sim_val (sim_chain hr hr' ha.sim hb.sim hc.sim)⟩
end

/-! ### subscripts, slices -/
def ixD : D → D → Option D
  | .tup xs, .int i => atI xs i
  | .pr a b, .int i => atI [a, b] i
  | .lst xs, .int i => atI xs i
  | .str x, .int i => if x.length ≤ 100000 then (atI x.cps.toList i).map fun c => .str ⟨#[c]⟩ else none
  | _, _ => none
theorem atI_rp {K : PySem.W.Frag} {F : Hp} {vs : List V} {ds : List D} {i : Int} {d : D} (r : RpAll K F vs ds) (h : atI ds i = some d) : ∃ v, atI vs i = some v ∧ Rp K F v d := by
  unfold atI at h ⊢
  rw [r.length]
  cases e : ixN ds.length i with
  | none => rw [e]
        at h; cases h
  | some j =>
    rw [e] at h
    obtain ⟨v, h1, h2⟩ := r.get (i := j) h
    exact ⟨v, h1, h2⟩
theorem strOk_one {x : Str} (h : PyData.strOk x = true) {i : Int} {c : Nat} (e : atI x.cps.toList i = some c) : PyData.strOk ⟨#[c]⟩ = true := by
  obtain ⟨j, _, h2, _⟩ := atI_get e
  unfold PyData.strOk at *
  rw [Array.all_eq_true'] at h
  have hc := h c (Array.mem_toList_iff.mp (List.mem_of_getElem? h2))
  simpa using hc
theorem ops_ix : OpS B W (rIx B.K) fun a b => lft (ixD a b) := by
  refine .pure fun dx dy d h F H x y sub rx ry Q q => ?_
  unfold ixD at h
  split at h
  · cases ry
    cases rx with
    | tup h1 r1 =>
      obtain ⟨v, h2, r2⟩ := atI_rp r1 h
      exact .inr (.inl ⟨_, _, _, _, rfl, rfl, (sub.sqP h1).sqT, h2, q _ r2⟩)
  · cases ry
    cases rx with
    | pr h1 r1 r1' =>
      obtain ⟨v, h2, r2⟩ := atI_rp (.cons r1 (.cons r1' .nil)) h
      exact .inr (.inl ⟨_, _, _, _, rfl, rfl, sub.sqT h1, h2, q _ r2⟩)
  · cases ry
    cases rx with
    | lst h1 r1 =>
      obtain ⟨v, h2, r2⟩ := atI_rp r1 h
      exact .inl ⟨_, _, _, _, rfl, rfl, SqL.of (sub _ _ h1), h2, q _ r2⟩
  · split at h
    · rename_i hl
      cases ry
      cases rx with
      | str _ g =>
        rename_i i
        cases e : atI (Str.cps _).toList i with
        | none => rw [e]
              at h; cases h
        | some c =>
          rw [e] at h
          cases h
          exact .inr (.inr ⟨_, _, c, rfl, rfl, small hl, e, q _ (.str _ (strOk_one g e))⟩)
    · cases h
  · cases h
theorem se_ix (q : Cq Kf X B W n) (ha : SE X B W a ta ma) (hb : SE X B W b tb mb) (hs : PlainIx b := by intro _ _; rfl) : SE X B W (.Subscript a b pos) (tOp (rIx Kf) ta tb) (mBin ixD ma mb) := by
  cases q.hX
  exact ⟨pe_ix ix_seq ha.pe hb.pe hs, sim_op ha.sim hb.sim (by rw [q.hK]; exact ops_ix)⟩
end
end DL
set_option Elab.async false
set_option linter.all false
set_option maxRecDepth 100000
set_option
      maxHeartbeats 4000000
/-! DLE: slices, calls of defs and of built-ins. -/
namespace DL
open PySem PySem.Spec
      PyProof.Rows L2
variable [Tbs]
section
variable {X : Cx} {Kf : PySem.W.Frag} {B : Bs} {W : WX} {n : Nat} {a b c e : Expr} {es : List Expr} {ta tb tc te : TE} {ma mb mc me : M D} {pos p2 : Pos} {ts : TA} {ms : M (List D)}
/-! ### slices -/
structure SO (X : Cx) (B : Bs) (W : WX) (e : Option Expr) (t : TO) (m : M (Option Int)) : Prop where
  po : PO X e t
  sim : Sim B W (fun _ b a => b = a) t m
theorem so_none : SO X B W none tNoPart (ret none) := ⟨po_none, fun ρ w r hr F σ H ok Q p => by
  cases hr
  exact p none F H (Sub.refl F) ok rfl⟩
def kInt {α : Type} (k : Int → M α) : D → M α
  | .int i => k i
  | _ => fun _ _ => none
theorem kInt_some {α : Type} {k : Int → M α} {d : D} {ρ : Rho} {w : Wo} {r : Rs α} (h : kInt k d ρ w = some r) : ∃ i, d = .int i ∧ k i ρ w = some r := by
  cases d <;> first | (cases h; done) | exact ⟨_, rfl, h⟩
theorem so_some (h : SE X B W e te me) : SO X B W (some e) (tPart te) (bnd me (kInt fun i => ret (some i))) :=
  ⟨po_some h.pe, Sim.bnd (R' := fun _ b a => b = a) (k := kInt fun i => ret (some i)) (tk := fun x σ H Q => ∃ i, x = V.int i ∧ Q (some i) H) h.sim fun d ρ w r hr v F σ H ok rv Q p => by
    obtain ⟨i, e1, hr2⟩ := kInt_some hr
    clear hr
    subst e1
    cases rv
    cases hr2
    exact ⟨i, rfl, p _ F H (Sub.refl F) ok rfl⟩⟩
def cutD (xs : List D) (lo hi : Option Int) : List D := (xs.drop (HT.sIx xs.length 0 lo)).take (HT.sIx xs.length xs.length hi - HT.sIx xs.length 0 lo)
theorem RpAll.cut {K : PySem.W.Frag} {F : Hp} {vs : List V} {ds : List D} (r : RpAll K F vs ds) (lo hi : Option Int) : RpAll K F (cutV vs lo hi) (cutD ds lo hi) := by
  unfold cutV cutD
  rw [r.length]
  exact (r.drop _).take _
theorem cutD_whole {ds : List D} {lo hi : Option Int} (h : HT.sIx ds.length 0 lo = 0 ∧ HT.sIx ds.length ds.length hi = ds.length) : cutD ds lo hi = ds := by
  unfold cutD
  rw [h.1, h.2]
  simp
def slD (lo hi : Option Int) : D → Option D
  | .tup xs => some (.tup (cutD xs lo hi))
  | .lst xs => some (.lst (cutD xs lo hi))
  | .str x => if x.length ≤ 100000 then some (.str (cutS x lo hi)) else none
  | _ => none
theorem strOk_cut {x : Str} (h : PyData.strOk x = true) (lo hi : Option Int) : PyData.strOk (cutS x lo hi) = true := by
  unfold PyData.strOk at *
  rw [Array.all_eq_true'] at *
  intro c hc
  refine h c (Array.mem_toList_iff.mp ?_)
  have : c ∈ (x.cps.toList.drop (HT.sIx x.length 0 lo)).take (HT.sIx x.length x.length hi - HT.sIx x.length 0 lo) := by
    unfold cutS at hc
    simpa using hc
  exact List.mem_of_mem_drop (List.mem_of_mem_take this)
def rSlAll (K : PySem.W.Frag) : V → Option Int → Option Int → Hp → VK → Prop := fun x lo hi H Q => rSlP K x lo hi H Q ∨ rSlL K x lo hi H Q ∨ rSlS x lo hi H Q
theorem sl_all : SlR X (rSlAll X.K) := sl_tupP.or (sl_list.or sl_str)
def mSl (m : M D) (ml mh : M (Option Int)) : M D := bnd m fun d => bnd ml fun lo => bnd mh fun hi => lft (slD lo hi d)
theorem sim_sl {te : TE} {tl th : TO} {ml mh : M (Option Int)} (h : Sim B W (RV B) te me) (hl : Sim B W (fun _ b a => b = a) tl ml) (hh : Sim B W (fun _ b a => b = a) th mh) : Sim B W (RV B) (tSl (rSlAll B.K) te tl th) (mSl me ml mh) := by
  refine SimP.top (.bnd (tk := fun x σ H Q => tl σ H fun l H2 => th σ H2 fun u H3 => rSlAll B.K x l u H3 Q) .triv h fun d x => .bnd (tk := fun l σ H Q => th σ H fun u H3 => rSlAll B.K x l u H3 Q) (Mono.triv.and .rp) hl fun lo l => .bnd (tk := fun u σ H Q => rSlAll B.K x l u H Q) ((Mono.triv.and .rp).and fun _ _ _ h => h) hh fun hi u => ?_)
  rintro ρ w r hr F σ H ok ⟨⟨⟨-, rx⟩, e1⟩, e2⟩ Q p
  cases e1
  cases e2
  obtain ⟨z, hz, e3⟩ := lft_some hr
  subst e3
  unfold slD at hz
  split at hz
  · cases hz
    cases rx with
    | tup h1 r1 =>
      refine .inl ⟨_, _, rfl, (ok.sub.sqP h1).sqT, fun hw => p _ F H (Sub.refl F) ok (.tup h1 ?_), fun _ q o hq po => ?_⟩
      · rw [r1.length] at hw
        rw [cutD_whole hw]
        exact r1
      · obtain ⟨s, ok'⟩ := ok.laid hq (.frz o (.tup (cutV _ lo hi)))
        exact p _ _ _ s ok' (.tup (.inl ⟨o, upd_same, po⟩) ((r1.cut lo hi).up s))
  · cases hz
    cases rx with
    | lst h1 r1 =>
      refine .inr (.inl ⟨_, _, rfl, SqL.of (ok.sub _ _ h1), fun q hq => ?_⟩)
      obtain ⟨s, ok'⟩ := ok.laid hq (.lst (cutV _ lo hi))
      exact p _ _ _ s ok' (.lst upd_same ((r1.cut lo hi).up s))
  · split at hz
    · rename_i hl
      cases hz
      cases rx with
      | str _ g => exact .inr (.inr ⟨_, rfl, small hl, p _ F H (Sub.refl F) ok (.str _ (strOk_cut g lo hi))⟩)
    · cases hz
  · cases hz
theorem se_sl {lo hi : Option Expr} {tl th : TO} {ml mh : M (Option Int)} (q : Cq Kf X B W n) (h : SE X B W e te me) (hl : SO X B W lo tl ml) (hh : SO X B W hi th mh) : SE X B W (.Subscript e (.Slice lo hi none p2) pos) (tSl (rSlAll Kf) te tl th) (mSl me ml mh) := by
  cases q.hX
  exact ⟨pe_slice sl_all h.pe hl.po hh.po, by rw [q.hK]; exact sim_sl h.sim hl.sim hh.sim⟩
/-! ### calls of defs -/
def excAt (K : PySem.W.Frag) (F H : Hp) (d : Option Addr) (x : Xc) : Prop := x.ns = [] ∧ d = none ∨ ∃ p vs, d = some p ∧ H p = some (.xd (x.ns.zip vs)) ∧ x.ns.length = vs.length ∧ RpAll K F vs x.ds
/-- what a def promises: with k arguments it comes to what g tells -/
def spG (K : PySem.W.Frag) (k : Nat) (g : Fn1) : Sp := fun vs H Q E => ∃ F ds w r, vs.length = k ∧ Sub F H ∧ WdOk F H w ∧ LamX.Tabs Tbs.T H ∧ (∀ b ps, F b ≠ some (.tbl ps)) ∧ RpAll K F vs ds ∧ g ds w = some r ∧
  match r with
  | .ok d w' => ∀ v F' H', Sub F' H' → WdOk F' H' w' → Goes H F w H' F' w' → Rp K F' v d → Q v H'
  | .exc x w' => ∀ d F' H', Sub F' H' → WdOk F' H' w' → Goes H F w H' F' w' → excAt K F' H' d x → E x.cls d H'
def mCall (k : Nat) (g : Fn1) (ms : M (List D)) : M D := bnd ms fun ds ρ w =>
  if ds.length = k then
    match g ds w with
    | some (.ok d w') => some (.ok d ρ w')
    | some (.exc x w') => some (.exc x ρ w')
    | none => none
  else none
theorem Ok.called {F : Hp} {ρ : Rho} {w : Wo} {σ : L2.St} {H F' H' : Hp} {w' : Wo} (ok : Ok B F ρ w σ H) (s : Sub F' H') (k : WdOk F' H' w') (g : Goes H F w H' F' w') : Ok B F' ρ w' σ H' := by
  refine ⟨s, ok.go.trans ok.wd g, k, ok.len, fun i d e => ?_, fun i ds e => ?_, ok.inj, g.tabs ok.tab, fun b ps e => (g.frs b _ e).elim (fun z => ok.nt b ps z) fun z => z.2 ps rfl⟩
  · obtain ⟨v, h1, h2⟩ := ok.val i d e
    exact ⟨v, h1, h2.up g.sub⟩
  · obtain ⟨a, vs, h1, h2, h3, h4, h5, h6⟩ := ok.own i ds e
    refine ⟨a, vs, h1, g.keep a _ h2 h5 (fun _ z => by cases z), ?_, h4, fun z => ?_, h6.up g.sub⟩
    · cases q : F' a with
      | none => rfl
      | some o =>
        rcases g.frs a o q with z | z
        · rw [h3] at z; cases z
        · exact (noTb_no z.1 h2 (fun _ q => by cases q)).elim
    · rcases g.new a z with z | z
      · exact h5 z
      · exact noTb_no z h2 (fun _ q => by cases q)
theorem sim_call {k : Nat} {g : Fn1} (hs : Sim B W (RA B) ts ms) : Sim B W (RV B) (tCallS (spG B.K k g) (WE W) ts) (mCall k g ms) :=
  Sim.bnd (R' := RV B) (tk := fun vs σ H Q => spG B.K k g vs H Q (WE W σ)) hs fun ds ρ w r hr vs F σ H ok rs Q p => by
    split at hr
    · rename_i hk
      cases hg : g ds w with
      | none => rw [hg] at hr; cases hr
      | some r1 =>
        rw [hg] at hr
        refine ⟨F, ds, w, r1, by rw [rs.length]; exact hk, ok.sub, ok.wd, ok.tab, ok.nt, rs, hg, ?_⟩
        cases r1 with
        | ok d w' =>
          cases hr
          exact fun v F' H' s kw go rv => p v F' H' go.sub (ok.called s kw go) rv
        | exc x w' =>
          cases hr
          exact fun d F' H' s kw go hx => p d F' H' go.sub (ok.called s kw go) hx
    · cases hr
/-- a def of the text, at the level n, as g tells -/
structure Fnc (P : Program) (w : World) (K : PySem.W.Frag) (mg : Str → Option Value) (base : Heap) (n : Nat) (x : Str) (k : Nat) (g : Fn1) : Prop where
  ex : ∃ (f : Addr) (fd : FuncData) (ps : List Str), mg x = some (.ref f) ∧ PySem.W.keepIn K (.ref f) = true ∧ Binds K fd ps [] ∧ FnOk P w K mg base (L2.CX P w) n f fd ps (spG K k g)
theorem pe_call0S {k : Nat} {f : Addr} {fd : FuncData} {ps : List Str} {sp : Sp} {E : L2.St → XK} {x : Str} {p : Pos} (F : FnOk X.prog X.w X.K X.mg X.base (L2.CX X.prog X.w) k f fd ps sp) (hr : Room k X.A) (hg : Gl X x) (hm : X.mg x = some (.ref f)) (hk : PySem.W.keepIn X.K (.ref f) = true) (hb : Binds X.K fd ps [])
    (hx : ∀ σ, PassesAt (L2.CX X.prog X.w) X σ (E σ)) (hdb : (x == ("__debug__" : Str)) = false := by decide) : PE X (.Call (.Name x p) [] [] pos) (tCallS sp E tNil) := by
  refine ⟨fun pins
        s σ H Q I h => ?_⟩
  refine wpAny_Call_Name_kw
        (ld_glob I hg hm ?_ hdb)
  exact PySem.W.callWith_K0 I.kIn hk (run_fnS (us := []) F hr hb (hx σ) I .nil h)
theorem se_call {x : Str} {p : Pos} {k : Nat} {g : Fn1} (q : Cq Kf X B W n) (F : Fnc X.prog X.w X.K X.mg X.base n x k g) (hg : Gl X x) (hs : SA X B W (e :: es) ts ms) (hdb : (x == ("__debug__" : Str)) = false := by decide)
    (he : starEach (e :: es) X.env = (false, eval e X.env) :: starEach es X.env := by rfl) (hpl : (backTo pos (starEach es X.env)).any (·.1) = false := by rfl) : SE X B W (.Call (.Name x p) (e :: es) [] pos) (tCallS (spG Kf k g) (WE W) ts) (mCall k g ms) := by
  cases q.hX
  obtain ⟨f, fd, ps, h1, h2, h3, h4⟩ := F.ex
  exact ⟨pe_callS h4 q.hr hg h1 h2 h3 (fun σ => passAt q.tk σ) hs.pa hdb he hpl, by rw [q.hK]; exact sim_call hs.sim⟩
theorem se_call0 {x : Str} {p : Pos} {k : Nat} {g : Fn1} (q : Cq Kf X B W n) (F : Fnc X.prog X.w X.K X.mg X.base n x k g) (hg : Gl X x) (hdb : (x == ("__debug__" : Str)) = false := by decide) : SE X B W (.Call (.Name x p) [] [] pos) (tCallS (spG Kf k g) (WE W) tNil) (mCall k g mNil) := by
  cases q.hX
  obtain ⟨f, fd, ps, h1, h2, h3, h4⟩ := F.ex
  exact ⟨pe_call0S h4 q.hr hg h1 h2 h3 (fun σ => passAt q.tk σ) hdb, by rw [q.hK]; exact sim_call (sa_nil (X := X)).sim⟩
end
end DL
set_option Elab.async false
set_option linter.all false
set_option maxRecDepth 100000
set_option
      maxHeartbeats 4000000
/-! DLF: built-ins called by their names. -/
namespace DL
open PySem PySem.Spec
      PyProof.Rows L2
variable [Tbs]
def CaS (B : Bs) (W : WX) (r : List V → Hp → VK → Prop) (f : List D → M D) : Prop :=
  ∀ ds ρ w res, f ds ρ w = some res → ∀ F σ H vs, Ok B F ρ w σ H → RpAll B.K F vs ds → ∀ Q, Post B W (RV B) res F σ Q → r vs H Q
section
variable {X : Cx} {Kf : PySem.W.Frag} {B : Bs} {W : WX} {n : Nat} {a b c e : Expr} {es : List Expr} {ta tb tc te : TE} {ma mb mc me : M D} {pos p p2 : Pos} {ts : TA} {ms : M (List D)} {r : List V → Hp → VK → Prop} {x : Str}
theorem CaS.pure {f : List D → Option D} (h : ∀ ds d, f ds = some d → ∀ (F H : Hp) vs, Sub F H → RpAll B.K F vs ds → ∀ Q : VK, (∀ v, Rp B.K F v d → Q v H) → (∀ us ds', d = .tup ds' → RpAll B.K F us ds' → NewT us H Q) →
    (∀ us ds', d = .lst ds' → RpAll B.K F us ds' → ∀ p, H p = none → Q (.ref p) (upd H p (.lst us))) → r vs H Q) : CaS B W r fun ds => lft (f ds) := by
  intro ds ρ w res hres F σ H vs ok rs Q p
  obtain ⟨d, hd, e⟩ := lft_some hres
  subst e
  refine h ds d hd F H vs ok.sub rs Q (fun v rv => p v F H (Sub.refl F) ok rv) (fun us ds' ed ru q o hq po => ?_) (fun us ds' ed ru q hq => ?_)
  · subst ed
    obtain ⟨s, ok'⟩ := ok.laid hq (.frz o (.tup us))
    exact p _ _ _ s ok' (.tup (.inl ⟨o, upd_same, po⟩) (ru.up s))
  · subst ed
    obtain ⟨s, ok'⟩ := ok.laid hq (.lst us)
    exact p _ _ _ s ok' (.lst upd_same (ru.up s))
theorem sim_cb {f : List D → M D} (hs : CaS B W r f) (h : Sim B W (RA B) ts ms) : Sim B W (RV B) (tCB r ts) (bnd ms f) :=
  Sim.bnd (R' := RV B) (tk := fun vs σ H Q => r vs H Q) h fun ds ρ w res hr vs F σ H ok rs Q p => hs ds ρ w res hr F σ H vs ok rs Q p
theorem se_cb {f : List D → M D} {id : String} (hc : CallR X (.builtin id) r) (hs : CaS B W r f) (hg : Gl X x) (hm : X.mg x = none) (hv : bootBuiltins x = some (.builtin id)) (ha : SA X B W (e :: es) ts ms) (hn : x ≠ "__name__" := by decide) (hdb : (x == ("__debug__" : Str)) = false := by decide)
    (he : starEach (e :: es) X.env = (false, eval e X.env) :: starEach es X.env := by rfl) (hpl : (backTo pos (starEach es X.env)).any (·.1) = false := by rfl) : SE X B W (.Call (.Name x p) (e :: es) [] pos) (tCB r ts) (bnd ms f) := ⟨pe_callB hc hg hm hv ha.pa hn hdb he hpl, sim_cb hs ha.sim⟩
theorem se_ct {f : List D → M D} {T : String} (hc : CallR X (.type T) r) (hs : CaS B W r f) (hg : Gl X x) (hm : X.mg x = none) (hv : bootBuiltins x = some (.type T)) (ha : SA X B W (e :: es) ts ms) (hn : x ≠ "__name__" := by decide) (hdb : (x == ("__debug__" : Str)) = false := by decide)
    (he : starEach (e :: es) X.env = (false, eval e X.env) :: starEach es X.env := by rfl) (hpl : (backTo pos (starEach es X.env)).any (·.1) = false := by rfl) : SE X B W (.Call (.Name x p) (e :: es) [] pos) (tCB r ts) (bnd ms f) := ⟨pe_callTy hc hg hm hv ha.pa hn hdb he hpl, sim_cb hs ha.sim⟩
theorem RpAll.one {K : PySem.W.Frag} {F : Hp} {vs : List V} {d : D} (h : RpAll K F vs [d]) : ∃ v, vs = [v] ∧ Rp K F v d := by
  cases h with
  | cons h1 h2 => cases h2; exact ⟨_, rfl, h1⟩
theorem RpAll.two {K : PySem.W.Frag} {F : Hp} {vs : List V} {d d' : D} (h : RpAll K F vs [d, d']) : ∃ v u, vs = [v, u] ∧ Rp K F v d ∧ Rp K F u d' := by
  cases h with
  | cons h1 h2 =>
    obtain ⟨u, e, h3⟩ := h2.one
    subst e
    exact ⟨_, _, rfl, h1, h3⟩
/-! ### len -/
def lenD : List D → Option D
  | [.tup xs] => some (.int xs.length)
  | [.lst xs] => some (.int xs.length)
  | [.str x] => if x.length ≤ 100000 then some (.int x.length) else none
  | _ => none
def rLenA (K : PySem.W.Frag) : List V → Hp → VK → Prop := fun xs H Q => ∃ x n, xs = [x] ∧ LenV K x H n ∧ Q (.int n) H
theorem call_lenA : CallR X (.builtin "len") (rLenA X.K) := call_len
theorem cas_len : CaS B W (rLenA B.K) fun ds => lft (lenD ds) := by
  refine .pure fun ds d h F H vs sub rs Q q _ _ => ?_
  unfold lenD at h
  split at h
  · cases h
    obtain ⟨v, e, rv⟩ := rs.one
    subst e
    cases rv with
    | tup h1 r1 => exact ⟨_, _, rfl, .inr ⟨_, (sub.sqP h1).sqT, rfl⟩, by rw [r1.length]; exact q _ (.int _)⟩
  · cases h
    obtain ⟨v, e, rv⟩ := rs.one
    subst e
    cases rv with
    | lst h1 r1 => exact ⟨_, _, rfl, .inl ⟨_, SqL.of (sub _ _ h1), rfl⟩, by rw [r1.length]; exact q _ (.int _)⟩
  · split at h
    · rename_i hl
      cases h
      obtain ⟨v, e, rv⟩ := rs.one
      subst e
      cases rv
      exact ⟨_, _, rfl, ⟨small hl, rfl⟩, q _ (.int _)⟩
    · cases h
  · cases h
theorem se_len (q : Cq Kf X B W n) (hg : Gl X "len") (hm : X.mg "len" = none) (ha : SA X B W (e :: es) ts ms) (he : starEach (e :: es) X.env = (false, eval e X.env) :: starEach es X.env := by rfl) (hpl : (backTo pos (starEach es X.env)).any (·.1) = false := by rfl) :
    SE X B W (.Call (.Name "len" p) (e :: es) [] pos) (tCB (rLenA Kf) ts) (bnd ms fun ds => lft (lenD ds)) := by
  cases q.hX
  exact se_cb call_lenA (by rw [q.hK]; exact cas_len) hg hm PySem.boot_len ha (by decide) (by decide) he hpl
/-! ### int, abs -/
def int1D : List D → Option D
  | [.int i] => some (.int i)
  | [.bl k] => some (.int (if k then 1 else 0))
  | [.str a] => if a.length ≤ 640 then (PySem.intText? a).map .int else none
  | _ => none
def rInt1 : List V → Hp → VK → Prop := fun xs H Q => ((∃ i, xs = [.int i] ∧ Q (.int i) H) ∨ ∃ k, xs = [.bl k] ∧ Q (.int (if k then 1 else 0)) H) ∨ ∃ a n, xs = [.str a] ∧ PySem.intText? a = some n ∧ a.length ≤ 640 ∧ Q (.int n) H
theorem call_intA : CallR X (.type "int") rInt1 := fun pins s σ H xs us Q I r h => h.elim (fun h => call_int1 pins s σ H xs us Q I r h) fun h => call_int_str pins s σ H xs us Q I r h
theorem cas_int : CaS B W rInt1 fun ds => lft (int1D ds) := by
  refine .pure fun ds d h F H vs sub rs Q q _ _ => ?_
  unfold int1D at h
  split at h
  · cases h
    obtain ⟨v, e, rv⟩ := rs.one
    subst e
    cases rv
    exact .inl (.inl ⟨_, rfl, q _ (.int _)⟩)
  · cases h
    obtain ⟨v, e, rv⟩ := rs.one
    subst e
    cases rv
    exact .inl (.inr ⟨_, rfl, q _ (.int _)⟩)
  · split at h
    · rename_i a hl
      obtain ⟨v, e, rv⟩ := rs.one
      subst e
      cases rv
      cases hn : PySem.intText? a with
      | none => rw [hn] at h; cases h
      | some n =>
        rw [hn] at h
        cases h
        exact .inr ⟨_, n, rfl, hn, hl, q _ (.int _)⟩
    · cases h
  · cases h
theorem se_int1 (hg : Gl X "int") (hm : X.mg "int" = none) (ha : SA X B W (e :: es) ts ms) (he : starEach (e :: es) X.env = (false, eval e X.env) :: starEach es X.env := by rfl) (hpl : (backTo pos (starEach es X.env)).any (·.1) = false := by rfl) :
    SE X B W (.Call (.Name "int" p) (e :: es) [] pos) (tCB rInt1 ts) (bnd ms fun ds => lft (int1D ds)) := se_ct call_intA cas_int hg hm PyProof.Rows.boot_int ha (by decide) (by decide) he hpl
def absD : List D → Option D
  | [.int i] => some (.int (if i < 0 then -i else i))
  | _ => none
def rAbs : List V → Hp → VK → Prop := fun xs H Q => ∃ i, xs = [.int i] ∧ Q (.int (if i < 0 then -i else i)) H
theorem cas_abs : CaS B W rAbs fun ds => lft (absD ds) := by
  refine .pure fun ds d h F H vs sub rs Q q _ _ => ?_
  unfold absD at h
  split at h
  · cases h
    obtain ⟨v, e, rv⟩ := rs.one
    subst e
    cases rv
    exact ⟨_, rfl, q _ (.int _)⟩
  · cases h
theorem se_abs (hg : Gl X "abs") (hm : X.mg "abs" = none) (ha : SA X B W (e :: es) ts ms) (he : starEach (e :: es) X.env = (false, eval e X.env) :: starEach es X.env := by rfl) (hpl : (backTo pos (starEach es X.env)).any (·.1) = false := by rfl) :
    SE X B W (.Call (.Name "abs" p) (e :: es) [] pos) (tCB rAbs ts) (bnd ms fun ds => lft (absD ds)) := se_cb call_abs cas_abs hg hm PyProof.Rows.boot_abs ha (by decide) (by decide) he hpl
/-! ### list, tuple of a list, a tuple -/
def listD : List D → Option D
  | [.tup xs] => some (.lst xs)
  | [.lst xs] => some (.lst xs)
  | _ => none
def rListA (K : PySem.W.Frag) : List V → Hp → VK → Prop := fun xs H Q => ∃ p ys, xs = [.ref p] ∧ (SqL K H p ys ∨ SqT K H p ys) ∧ ∀ l, H l = none → Q (.ref l) (upd H l (.lst ys))
theorem call_listA : CallR X (.type "list") (rListA X.K) := call_list_of
theorem cas_list : CaS B W (rListA B.K) fun ds => lft (listD ds) := by
  refine .pure fun ds d h F H vs sub rs Q q qt ql => ?_
  unfold listD at h
  split at h
  · cases h
    obtain ⟨v, e, rv⟩ := rs.one
    subst e
    cases rv with
    | tup h1 r1 => exact ⟨_, _, rfl, .inr (sub.sqP h1).sqT, fun l hl => ql _ _ rfl r1 l hl⟩
  · cases h
    obtain ⟨v, e, rv⟩ := rs.one
    subst e
    cases rv with
    | lst h1 r1 => exact ⟨_, _, rfl, .inl (SqL.of (sub _ _ h1)), fun l hl => ql _ _ rfl r1 l hl⟩
  · cases h
theorem se_list (q : Cq Kf X B W n) (hg : Gl X "list") (hm : X.mg "list" = none) (ha : SA X B W (e :: es) ts ms) (he : starEach (e :: es) X.env = (false, eval e X.env) :: starEach es X.env := by rfl) (hpl : (backTo pos (starEach es X.env)).any (·.1) = false := by rfl) :
    SE X B W (.Call (.Name "list" p) (e :: es) [] pos) (tCB (rListA Kf) ts) (bnd ms fun ds => lft (listD ds)) := by
  cases q.hX
  exact se_ct call_listA (by rw [q.hK]; exact cas_list) hg hm PyProof.Rows.boot_list ha (by decide) (by decide) he hpl
def tupleD : List D → Option D
  | [.tup xs] => some (.tup xs)
  | [.lst xs] => some (.tup xs)
  | _ => none
theorem cas_tuple : CaS B W (rTupP B.K) fun ds => lft (tupleD ds) := by
  refine .pure fun ds d h F H vs sub rs Q q qt ql => ?_
  unfold tupleD at h
  split at h
  · cases h
    obtain ⟨v, e, rv⟩ := rs.one
    subst e
    cases rv with
    | tup h1 r1 => exact ⟨_, _, rfl, .inr ⟨(sub.sqP h1).sqT, q _ (.tup h1 r1)⟩⟩
  · cases h
    obtain ⟨v, e, rv⟩ := rs.one
    subst e
    cases rv with
    | lst h1 r1 => exact ⟨_, _, rfl, .inl ⟨SqL.of (sub _ _ h1), qt _ _ rfl r1⟩⟩
  · cases h
theorem se_tuple (q : Cq Kf X B W n) (hg : Gl X "tuple") (hm : X.mg "tuple" = none) (ha : SA X B W (e :: es) ts ms) (he : starEach (e :: es) X.env = (false, eval e X.env) :: starEach es X.env := by rfl) (hpl : (backTo pos (starEach es X.env)).any (·.1) = false := by rfl) :
    SE X B W (.Call (.Name "tuple" p) (e :: es) [] pos) (tCB (rTupP Kf) ts) (bnd ms fun ds => lft (tupleD ds)) := by
  cases q.hX
  exact se_ct call_tupP (by rw [q.hK]; exact cas_tuple) hg hm PyProof.Rows.boot_tuple ha (by decide) (by decide) he hpl
/-! ### all, any of a list of bools -/
def bools : List D → Option (List Bool)
  | [] => some []
  | .bl b :: r => (bools r).map (b :: ·)
  | _ => none
theorem bools_rp {K : PySem.W.Frag} {F : Hp} : ∀ {ds : List D} {vs : List V} {bs : List Bool}, bools ds = some bs → RpAll K F vs ds → vs = bs.map V.bl
  | [], vs, bs, h, r => by cases h; cases r; rfl
  | d :: ds, vs, bs, h, r => by
    unfold bools at h
    split at h
    · rename_i e
      cases e
    · rename_i b r' e
      cases e
      cases hb : bools ds with
      | none => rw [hb]
            at h; cases h
      | some bs' =>
        rw [hb] at h
        cases h
        cases r with
        | cons r1 r2 =>
          cases r1
          rw [bools_rp hb r2]
          rfl
    · cases h
def allD : List D → Option D
  | [.lst xs] => (bools xs).map fun bs => .bl (bs.all id)
  | _ => none
def anyD : List D → Option D
  | [.lst xs] => (bools xs).map fun bs => .bl (bs.any id)
  | _ => none
theorem cas_all : CaS B W (rAll B.K) fun ds => lft (allD ds) := by
  refine .pure fun ds d h F H vs sub rs Q q _ _ => ?_
  unfold allD at h
  split at h
  · rename_i xs
    cases hb : bools xs with
    | none => rw [hb]
          at h; cases h
    | some bs =>
      rw [hb] at h
      cases h
      obtain ⟨v, e, rv⟩ := rs.one
      subst e
      cases rv with
      | lst h1 r1 =>
        have e := bools_rp hb r1
        subst e
        exact ⟨_, bs, rfl, SqL.of (sub _ _ h1), q _ (.bl _)⟩
  · cases h
theorem cas_any : CaS B W (rAny B.K) fun ds => lft (anyD ds) := by
  refine .pure fun ds d h F H vs sub rs Q q _ _ => ?_
  unfold anyD at h
  split at h
  · rename_i xs
    cases hb : bools xs with
    | none => rw [hb]
          at h; cases h
    | some bs =>
      rw [hb] at h
      cases h
      obtain ⟨v, e, rv⟩ := rs.one
      subst e
      cases rv with
      | lst h1 r1 =>
        have e := bools_rp hb r1
        subst e
        exact ⟨_, bs, rfl, SqL.of (sub _ _ h1), q _ (.bl _)⟩
  · cases h
theorem se_all (q : Cq Kf X B W n) (hg : Gl X "all") (hm : X.mg "all" = none) (ha : SA X B W (e :: es) ts ms) (he : starEach (e :: es) X.env = (false, eval e X.env) :: starEach es X.env := by rfl) (hpl : (backTo pos (starEach es X.env)).any (·.1) = false := by rfl) :
    SE X B W (.Call (.Name "all" p) (e :: es) [] pos) (tCB (rAll Kf) ts) (bnd ms fun ds => lft (allD ds)) := by
  cases q.hX
  exact se_cb (cr_all q.calm) (by rw [q.hK]; exact cas_all) hg hm (by decide +kernel) ha (by decide) (by decide) he hpl
theorem se_any (q : Cq Kf X B W n) (hg : Gl X "any") (hm : X.mg "any" = none) (ha : SA X B W (e :: es) ts ms) (he : starEach (e :: es) X.env = (false, eval e X.env) :: starEach es X.env := by rfl) (hpl : (backTo pos (starEach es X.env)).any (·.1) = false := by rfl) :
    SE X B W (.Call (.Name "any" p) (e :: es) [] pos) (tCB (rAny Kf) ts) (bnd ms fun ds => lft (anyD ds)) := by
  cases q.hX
  exact se_cb (cr_any q.calm) (by rw [q.hK]; exact cas_any) hg hm (by decide +kernel) ha (by decide) (by decide) he hpl
/-! ### isinstance -/
def tyD : D → Option String
  | .non => some "NoneType"
  | .bl _ => some "bool"
  | .int _ => some "int"
  | .str _ => some "str"
  | .tup _ => some "tuple"
  | .lst _ => some "list"
  | .dct _ _ => some "dict"
  | .raw _ => none
  | .fn _ => none
  | .pr _ _ => none
  | .rol _ => none
def kinds : List String := ["NoneType", "bool", "int", "str", "tuple", "list", "dict"]
def isK (t T : String) : Bool := t == T || (t == "bool" && T == "int")
theorem kit_all : (kinds.all fun t => kinds.all fun T => T == "NoneType" || kitB t T == some (isK t T)) = true := by decide +kernel
theorem tyD_mem {d : D} {t : String} (h : tyD d = some t) : t ∈ kinds := by
  cases d <;> cases h <;> decide
theorem tyD_x {K : PySem.W.Frag} {F H : Hp} {v : V} {d : D} {t : String} (s : Sub F H) (r : Rp K F v d) (h : tyD d = some t) : TyX K H v (.type t) := by
  cases d with
  | non => cases h; cases r; exact .base .non
  | bl b => cases h; cases r; exact .base (.bl b)
  | int i => cases h; cases r; exact .base (.int i)
  | str x => cases h; cases r; exact .base (.str x)
  | tup l =>
    cases h
    cases r with
    | tup h1 r1 =>
      rcases (s.sqP h1).sqT with (h1 | ⟨o, h1⟩) | ⟨o, its, n, h1, h2, _⟩
      · exact .base (.tup h1)
      · exact .fTuple h1
      · exact .kTuple h1 h2
  | lst l =>
    cases h
    cases r with
    | lst h1 r1 => exact .base (.lst (s _ _ h1))
  | dct ks l =>
    cases h
    cases r with
    | dct h1 h2 r1 => exact .base (.dK (s _ _ h1))
  | raw v => cases h
  | fn x => cases h
  | pr a b => cases h
  | rol l => cases h
def isiD : List D → Option D
  | [d, .raw (.ty T)] => if kinds.contains T && T != "NoneType" then (tyD d).map fun t => .bl (isK t T) else none
  | _ => none
theorem cas_isi : CaS B W (rIsi B.K) fun ds => lft (isiD ds) := by
  refine .pure fun ds d h F H vs sub rs Q q _ _ => ?_
  unfold isiD at h
  split at h
  · rename_i d1 T
    split at h
    · rename_i hT
      cases ht : tyD d1 with
      | none => rw [ht]
            at h; cases h
      | some t =>
        rw [ht] at h
        cases h
        obtain ⟨v, u, e, rv, ru⟩ := rs.two
        subst e
        cases ru
        rw [Bool.and_eq_true] at hT
        have k := kit_all
        rw [List.all_eq_true] at k
        have k1 := k t (tyD_mem ht)
        rw [List.all_eq_true] at k1
        have k2 := k1 T (List.contains_iff_mem.mp hT.1)
        have k3 : (T == "NoneType") = false := by simpa [bne] using hT.2
        rw [k3, Bool.false_or] at k2
        exact ⟨_, _, _, _, _, rfl, .ty T, tyD_x sub rv ht, kit_ty (eq_of_beq k2), q _ (.bl _)⟩
    · cases h
  · cases h
theorem se_isi (q : Cq Kf X B W n) (hg : Gl X "isinstance") (hm : X.mg "isinstance" = none) (ha : SA X B W (e :: es) ts ms) (he : starEach (e :: es) X.env = (false, eval e X.env) :: starEach es X.env := by rfl) (hpl : (backTo pos (starEach es X.env)).any (·.1) = false := by rfl) :
    SE X B W (.Call (.Name "isinstance" p) (e :: es) [] pos) (tCB (rIsi Kf) ts) (bnd ms fun ds => lft (isiD ds)) := by
  cases q.hX
  exact se_cb call_isi (by rw [q.hK]; exact cas_isi) hg hm PyProof.Rows.boot_isinstance ha (by decide) (by decide) he hpl
/-- a built-in type by its name, as a value -/
theorem se_ty {T : String} (hg : Gl X x) (hm : X.mg x = none) (hv : bootBuiltins x = some (.type T)) (hn : x ≠ "__name__" := by decide) (hdb : (x == ("__debug__" : Str)) = false := by decide) : SE X B W (.Name x pos) (tC (.ty T)) (ret (.raw (.ty T))) := ⟨pe_bltn hg hm hv rfl hn hdb, sim_c fun _ => .raw _⟩
end
end DL
set_option Elab.async false
set_option linter.all false
set_option maxRecDepth 100000
set_option
      maxHeartbeats 4000000
/-! DLG: targets, what is walked, comprehensions. -/
namespace DL
open PySem PySem.Spec
      PyProof.Rows L2
variable [Tbs]
/-! ### the entry with one more object that must stay -/
def Bs.plus (B : Bs) (D : Addr) (o : HO) : Bs := { B with H := upd B.H D o }
section
variable {B : Bs} {F : Hp} {ρ : Rho} {w : Wo} {σ : L2.St} {H : Hp}
theorem Ok.plus (k : Ok B F ρ w σ H) {L : Addr} {ds : List D} (n : New B F ρ w σ H L ds) {vs : List V} (h : H L = some (.lst vs)) : Ok (B.plus L (.lst vs)) F ρ w σ H := by
  obtain ⟨_, hF, h0, hw, hs⟩ := n
  refine ⟨k.sub, ⟨k.go.sub, fun a o e m nt => ?_, fun a o e => ?_, k.go.old, fun a e => ?_, fun _ => k.tab⟩, k.wd, k.len, k.val, fun i es e => ?_, k.inj, k.tab, k.nt⟩
  · by_cases ha : a = L
    · subst ha
      have e : upd B.H a (.lst vs) a = some o := e
      rw [upd_same] at e
      rw [h]
      exact e
    · have e : upd B.H L (.lst vs) a = some o := e
      rw [upd_ne ha] at e
      exact k.go.keep a o e m nt
  · rcases k.go.frs a o e with z | z
    · exact .inl z
    · refine .inr ⟨?_, z.2⟩
      show noTb (upd B.H L (.lst vs) a) = none
      rw [upd_ne (fun q => by rw [q, hF] at e; cases e)]
      exact z.1
  · rcases k.go.new a e with z | z
    · exact .inl z
    · refine .inr ?_
      show noTb (upd B.H L (.lst vs) a) = none
      rw [upd_ne (fun q => hw (by rw [← q]; exact e))]
      exact z
  · obtain ⟨a, us, h1, h2, h3, h4, h5, h6⟩ := k.own i es e
    refine ⟨a, us, h1, h2, h3, ?_, h5, h6⟩
    show noTb (upd B.H L (.lst vs) a) = none
    rw [upd_ne (fun q => hs i es e (by rw [h1, q]))]
    exact h4
/-- the addresses of the world at the entry are old -/
theorem Ok.minus {L : Addr} {vs : List V} {es : List D} {F1 : Hp} (h0 : noTb (B.H L) = none) (hw : L ∉ adr B.w) (hF : B.F L = none) (r : RpAll B.K F1 vs es) (s : Sub F1 F) (k : Ok (B.plus L (.lst vs)) F ρ w σ H) : Ok B F ρ w σ H ∧ New B F ρ w σ H L es ∧ H L = some (.lst vs) := by
  have hL : H L = some (.lst vs) := k.go.keep L _ (show upd B.H L (.lst vs) L = _ from upd_same) hw (fun _ z => by cases z)
  have back : ∀ a, noTb ((B.plus L (.lst vs)).H a) = none → noTb (B.H a) = none := fun a e => by
    have e : noTb (upd B.H L (.lst vs) a) = none := e
    by_cases ha : a = L
    · subst ha
      rw [upd_same] at e
      cases e
    · rw [upd_ne ha] at e
      exact e
  have nw : L ∉ adr w := fun z => by
    rcases k.go.new L z with q | q
    · exact hw q
    · have q : noTb (upd B.H L (.lst vs) L) = none := q
      rw [upd_same] at q
      cases q
  have nF : F L = none := by
    cases q : F L with
    | none => rfl
    | some o =>
      rcases k.go.frs L o q with z | z
      · have z : B.F L = some o := z
        rw [hF] at z
        cases z
      · have z : noTb (upd B.H L (.lst vs) L) = none := z.1
        rw [upd_same] at z
        cases z
  refine ⟨⟨k.sub, ⟨k.go.sub, fun a o e m nt => k.go.keep a o ?_ m nt, fun a o e => (k.go.frs a o e).elim .inl fun z => .inr ⟨back a z.1, z.2⟩, k.go.old, fun a e => (k.go.new a e).elim .inl fun z => .inr (back a z), fun _ => k.tab⟩, k.wd, k.len, k.val, fun i fs e => ?_, k.inj, k.tab, k.nt⟩, ⟨⟨vs, hL, r.up s⟩, nF, h0, nw, fun i fs e z => ?_⟩, hL⟩
  · show upd B.H L (.lst vs) a = some o
    rw [upd_ne (fun q => by rw [q] at e; exact noTb_no h0 e nt)]
    exact e
  · obtain ⟨a, us, h1, h2, h3, h4, h5, h6⟩ := k.own i fs e
    exact ⟨a, us, h1, h2, h3, back a h4, h5, h6⟩
  · obtain ⟨a, us, h1, h2, h3, h4, h5, h6⟩ := k.own i fs e
    rw [h1] at z
    cases z
    have h4 : noTb (upd B.H L (.lst vs) L) = none := h4
    rw [upd_same] at h4
    cases h4
/-- a list that nobody holds may change -/
theorem Ok.grow (k : Ok B F ρ w σ H) {L : Addr} {es : List D} (n : New B F ρ w σ H L es) {us : List V} : Ok B F ρ w σ (upd H L (.lst us)) := by
  obtain ⟨⟨vL, hL, _⟩, hF, h0, hw, hs⟩ := n
  refine ⟨fun a o e => ?_, ⟨k.go.sub, fun a o e m nt => ?_, k.go.frs, k.go.old, k.go.new, fun _ => tabs_put k.tab (pn_lst hL)⟩, wd_upd k.wd hw fun _ _ => rfl, k.len, k.val, fun i fs e => ?_, k.inj, tabs_put k.tab (pn_lst hL), k.nt⟩
  · rw [upd_ne (fun z => by rw [z, hF] at e; cases e)]
    exact k.sub a o e
  · rw [upd_ne (fun z => by rw [z] at e; exact noTb_no h0 e nt)]
    exact k.go.keep a o e m nt
  · obtain ⟨a, vs, h1, h2, h3, h4, h5, h6⟩ := k.own i fs e
    exact ⟨a, vs, h1, by rw [upd_ne (fun z => hs i fs e (by rw [h1, z]))]; exact h2, h3, h4, h5, h6⟩
/-- slots forgotten -/
def wipeR (ρ : Rho) : List Nat → Rho
  | [] => ρ
  | v :: vs => (wipeR ρ vs).set v .free
theorem Ok.free1 (k : Ok B F ρ w σ H) (i : Nat) : Ok B F (ρ.set i .free) w (σ.set i none) H := by
  have ne : ∀ (j : Nat) (s : Slot), s ≠ .free → (ρ.set i Slot.free)[j]? = some s → i ≠ j ∧ ρ[j]? = some s := fun j s hs e => by
    by_cases hj : i = j
    · subst hj
      obtain ⟨q, _⟩ := get_set_self e
      exact absurd q.symm hs
    · exact ⟨hj, get_set_ne hj e⟩
  refine ⟨k.sub, k.go, k.wd, by rw [List.length_set, List.length_set]; exact k.len, fun j d e => ?_, fun j d e => ?_, fun j l a dj dl h1 h2 h3 h4 => ?_, k.tab, k.nt⟩
  · obtain ⟨n, e⟩ := ne j (.val d) (fun z => nomatch z) e
    obtain ⟨v, h1, h2⟩ := k.val j d e
    exact ⟨v, by rw [List.getElem?_set_ne n]; exact h1, h2⟩
  · obtain ⟨n, e⟩ := ne j (.own d) (fun z => nomatch z) e
    obtain ⟨a, us, h1, h2⟩ := k.own j d e
    exact ⟨a, us, by rw [List.getElem?_set_ne n]; exact h1, h2⟩
  · obtain ⟨n1, e1⟩ := ne j (.own dj) (fun z => nomatch z) h1
    obtain ⟨n2, e2⟩ := ne l (.own dl) (fun z => nomatch z) h2
    rw [List.getElem?_set_ne n1] at h3
    rw [List.getElem?_set_ne n2] at h4
    exact k.inj j l a dj dl e1 e2 h3 h4
theorem Ok.wiped (k : Ok B F ρ w σ H) : ∀ vs : List Nat, Ok B F (wipeR ρ vs) w (wipe σ vs) H
  | [] => k
  | v :: vs => (Ok.wiped k vs).free1 v
/-- the wiped slots may hold anything in σ -/
theorem Ok.unwipe {vs : List Nat} (k : Ok B F (wipeR ρ vs) w (wipe σ vs) H) : Ok B F (wipeR ρ vs) w σ H := by
  have up : ∀ (i : Nat) (x : V), (wipe σ vs)[i]? = some (some x) → σ[i]? = some (some x) := fun i x e => (wipe_some e).1
  refine ⟨k.sub, k.go, k.wd, by rw [← wipe_length σ vs]; exact k.len, fun j d e => ?_, fun j d e => ?_, fun j l a dj dl h1 h2 h3 h4 => ?_, k.tab, k.nt⟩
  · obtain ⟨v, h1, h2⟩ := k.val j d e
    exact ⟨v, up _ _ h1, h2⟩
  · obtain ⟨a, us, h1, h2⟩ := k.own j d e
    exact ⟨a, us, up _ _ h1, h2⟩
  · obtain ⟨a1, u1, g1, _⟩ := k.own j dj h1
    obtain ⟨a2, u2, g2, _⟩ := k.own l dl h2
    have q1 := up _ _ g1
    have q2 := up _ _ g2
    rw [h3] at q1
    rw [h4] at q2
    cases q1
    cases q2
    exact k.inj j l a dj dl h1 h2 g1 g2
theorem New.to {L : Addr} {es : List D} {ρ' : Rho} {σ' : L2.St} (n : New B F ρ w σ H L es) (h : ∀ (i : Nat) (ds : List D), ρ'[i]? = some (Slot.own ds) → ρ[i]? = some (Slot.own ds) ∧ (σ'[i]? = some (some (V.ref L)) → σ[i]? = some (some (V.ref L)))) : New B F ρ' w σ' H L es :=
  ⟨n.at', n.nF, n.n0, n.nw, fun i ds e z => n.ns i ds (h i ds e).1 ((h i ds e).2 z)⟩
theorem wipeR_own : ∀ {vs : List Nat} {i : Nat} {es : List D}, (wipeR ρ vs)[i]? = some (Slot.own es) → ρ[i]? = some (Slot.own es) ∧ i ∉ vs
  | [], i, es, h => ⟨h, by simp⟩
  | v :: vs, i, es, h => by
    unfold wipeR at h
    by_cases hi : v = i
    · subst hi
      obtain ⟨q, _⟩ := get_set_self h
      cases q
    · obtain ⟨h1, h2⟩ := wipeR_own (get_set_ne hi h)
      refine ⟨h1, fun z => ?_⟩
      rcases List.mem_cons.mp
            z with z | z
      · exact hi z.symm
      · exact h2 z
end

/-! ### targets -/
section
variable {X : Cx} {Kf : PySem.W.Frag} {B : Bs} {W : WX} {n : Nat} {a b c e : Expr} {es : List Expr} {ta tb tc te : TE} {ma mb mc me : M D} {pos p p2 : Pos} {ts : TA} {ms : M (List D)} {x : Str}
/-- only the slots vs are touched -/
def Touch (vs : List Nat) (σ σ' : L2.St) : Prop := ∀ own : List Nat, (∀ i ∈ vs, i ∈ own) → wipe σ' own = wipe σ own
theorem wipe_set {i : Nat} {o : Option V} {σ : L2.St} : ∀ {own : List Nat}, i ∈ own → wipe (σ.set i o) own = wipe σ own
  | [], h => by cases h
  | v :: r, h => by
    show (wipe (σ.set i o) r).set v none = (wipe σ r).set v none
    by_cases hv : v = i
    · subst hv
      by_cases hr : v ∈ r
      · rw [wipe_set hr]
      · have e : ∀ (r : List Nat), v ∉ r → wipe (σ.set v o) r = (wipe σ r).set v o := by
          intro r
          induction r with
          | nil => intro _; rfl
          | cons u r ih =>
            intro h
            show (wipe (σ.set v o) r).set u none = ((wipe σ r).set u none).set v o
            rw [ih fun z => h (List.mem_cons_of_mem _ z), List.set_comm _ _ fun z => h (by rw [z]; exact List.mem_cons_self)]
        rw [e r hr, List.set_set]
    · rw [wipe_set ((List.mem_cons.mp h).resolve_left fun z => hv z.symm)]
theorem Touch.set (σ : L2.St) (i : Nat) (o : Option V) : Touch [i] σ (σ.set i o) := fun own h => wipe_set (h i List.mem_cons_self)
theorem Touch.refl (σ : L2.St) : Touch [] σ σ := fun _ _ => rfl
theorem Touch.app {vs us : List Nat} {σ σ1 σ2 : L2.St} (a : Touch vs σ σ1) (b : Touch us σ1 σ2) : Touch (vs ++ us) σ σ2 := fun own h => (b own fun i hi => h i (List.mem_append_right _ hi)).trans (a own fun i hi => h i (List.mem_append_left _ hi))
structure SG (X : Cx) (B : Bs) (vs : List Nat) (e : Expr) (g : TG) (m : D → Rho → Option Rho) : Prop where
  pg : PG X e g
  sim : ∀ d ρ ρ', m d ρ = some ρ' → ∀ F w σ H v, Ok B F ρ w σ H → Rp B.K F v d → ∀ Q : L2.St → Hp → Prop, (∀ σ', Touch vs σ σ' → Ok B F ρ' w σ' H → Q σ' H) → g v σ H Q
structure SGs (X : Cx) (B : Bs) (vs : List Nat) (es : List Expr) (g : TGs) (m : List D → Rho → Option Rho) : Prop where
  pg : PGs X es g
  sim : ∀ ds ρ ρ', m ds ρ = some ρ' → ∀ F w σ H us, Ok B F ρ w σ H → RpAll B.K F us ds → ∀ Q : L2.St → Hp → Prop, (∀ σ', Touch vs σ σ' → Ok B F ρ' w σ' H → Q σ' H) → g us σ H Q
def bName (i : Nat) (d : D) (ρ : Rho) : Option Rho := some (ρ.set i (.val d))
theorem sg_name (i : Nat) (hN : X.N.Nodup) (hi : X.N[i]? = some x := by rfl) (hx : Loc X.env.scope x := by first | exact Or.inl rfl | exact Or.inr rfl) (hf : X.fn x = true ∨ X.env.scope.names.lookup x = some .local := by first | exact .inl rfl | exact .inr rfl) : SG X B [i] (.Name x pos) (gName i) (bName i) :=
  ⟨pg_name hN hi hx hf, fun d ρ ρ' h F w σ H v ok rv Q q => by
    cases h
    exact q _ (Touch.set _ _ _) (ok.setV i rv)⟩
def bNil : List D → Rho → Option Rho
  | [], ρ => some ρ
  | _, _ => none
def bCons (m : D → Rho → Option Rho) (ms : List D → Rho → Option Rho) : List D → Rho → Option Rho
  | d :: ds, ρ => (m d ρ).bind (ms ds)
  | _, _ => none
theorem sgs_nil : SGs X B [] [] gNil bNil := ⟨pgs_nil, fun ds ρ ρ' h F w σ H vs ok rs Q q => by
  cases ds with
  | nil =>
    cases h
    cases rs
    exact ⟨rfl, q _ (Touch.refl _) ok⟩
  | cons d ds => cases h⟩
theorem sgs_cons {vs us : List Nat} {g : TG} {gs : TGs} {m : D → Rho → Option Rho} {ms : List D → Rho → Option Rho} (h1 : SG X B vs e g m) (h2 : SGs X B us es gs ms) (hs : (assignEach (e :: es) X.env).map (·.2) = assign e X.env :: (assignEach es X.env).map (·.2) := by rfl) : SGs X B (vs ++ us) (e :: es) (gCons g gs) (bCons m ms) :=
  ⟨pgs_cons h1.pg h2.pg hs, fun ds ρ ρ' h F w σ H vs ok rs Q q => by
    cases ds with
    | nil => cases h
    | cons d ds =>
      cases rs with
      | cons r1 r2 =>
        have h : (m d ρ).bind (ms ds) = some ρ' := h
        cases hm : m d ρ with
        | none => rw [hm]
              at h; cases h
        | some ρ1 =>
          rw [hm] at h
          exact ⟨_, _, rfl, h1.sim d ρ ρ1 hm F w σ H _ ok r1 _ fun σ1 t1 ok1 => h2.sim ds ρ1 ρ' h F w σ1 H _ ok1 r2 Q fun σ2 t2 ok2 => q σ2 (t1.app t2) ok2⟩⟩
def bTup (k : Nat) (ms : List D → Rho → Option Rho) : D → Rho → Option Rho
  | .tup ds, ρ => if ds.length = k then ms ds ρ else none
  | .lst ds, ρ => if ds.length = k then ms ds ρ else none
  | .pr a b, ρ => if 2 = k then ms [a, b] ρ else none
  | _, _ => none
def gSeq (K : PySem.W.Frag) (n : Nat) (t : TGs) : TG := fun v σ H Q => gTup K n t v σ H Q ∨ gLst K n t v σ H Q
theorem sg_tup {k : Nat} {us : List Nat} {gs : TGs} {ms : List D → Rho → Option Rho} {j : Nat} (hX : X.K = Kf) (hK : Kf = B.K) (hc : X.calm = true) (h : SGs X B us es gs ms) (hn : (assignEach es X.env).length = k := by rfl) (hst : (assignEach es X.env).findIdx? (·.1) = none := by rfl) : SG X B us (.Tuple es j pos) (gSeq Kf k gs) (bTup k ms) := by
  cases hX
  exact
  ⟨⟨fun pins s σ H v u Q I r hw => by
    rcases hw with hw | hw
    · exact (pg_tup hc h.pg hn hst).run pins s σ H v u Q I r hw
    · exact (pg_lst hc h.pg hn hst).run pins s σ H v u Q I r hw⟩, fun d ρ ρ' hm F w σ H v ok rv Q q => by
    unfold bTup at hm
    split at hm
    · split at hm
      · rename_i hl
        cases rv with
        | tup h1 r1 => exact .inl ⟨_, _, rfl, by rw [hK]; exact (ok.sub.sqP h1).sqT, by rw [r1.length]; exact hl, h.sim _ ρ ρ' hm F w σ H _ ok r1 Q q⟩
      · cases hm
    · split at hm
      · rename_i hl
        cases rv with
        | lst h1 r1 => exact .inr ⟨_, _, rfl, SqL.of (ok.sub _ _ h1), by rw [r1.length]; exact hl, h.sim _ ρ ρ' hm F w σ H _ ok r1 Q q⟩
      · cases hm
    · split at hm
      · rename_i hl
        cases rv with
        | pr h1 r1 r2 => exact .inl ⟨_, [_, _], rfl, by rw [hK]; exact ok.sub.sqT h1, hl, h.sim _ ρ ρ' hm F w σ H _ ok (.cons r1 (.cons r2 .nil)) Q q⟩
      · cases hm
    · cases hm⟩

/-! ### what is walked -/
/-- J walks the data ds, from a frame that knows F -/
def Walk (B : Bs) (F : Hp) (J : It) (ds : List D) : Prop := ∀ i F1 ρ w σ H, Sub F F1 → ∀ B' : Bs, B'.K = B.K → Ok B' F1 ρ w σ H →
  (ds.length ≤ i → J.stop i H) ∧ ∀ d, ds[i]? = some d → J.go i H ∧ ∀ x H', J.yld i H x H' → ∃ F2, Sub F1 F2 ∧ Ok B' F2 ρ w σ H' ∧ Rp B.K F2 x d
structure SI (X : Cx) (B : Bs) (W : WX) (tg e : Expr) (t : TI) (m : M (List D)) : Prop where
  pi : PI X tg e t
  sim : Sim B W (Walk B) t m
def itemsD : D → Option (List D)
  | .tup xs => some xs
  | .lst xs => some xs
  | .rol xs => some xs
  | .str x => some (x.cps.toList.map
        fun c => .str ⟨#[c]⟩)
  | _ => none
/-- over a list, a tuple, a text -/
def iSeq (K : PySem.W.Frag) (te : TE) : TI := fun σ H R => te σ H fun x H1 => (∃ a, x = .ref a ∧ ((∃ xs, SqL K H1 a xs ∧ R (Itl K a) H1) ∨ ∃ xs, SqT K H1 a xs ∧ R (Itt K a) H1)) ∨ ∃ t, x = .str t ∧ R (Its t) H1
theorem pi_seq {tg : Expr} (he : PE X e te) : PI X tg e (iSeq X.K te) := by
  refine ⟨fun pins
        s σ H R I h => ?_⟩
  have hA : PE X e (fun σ H Q => te σ H Q) := he
  refine thn (he.run pins s σ H _ I h) fun v z1 ⟨x, H1, J1, r1, q⟩ => ?_
  rcases q with ⟨a, ex, q⟩ | ⟨x, ex, q⟩
  case inr =>
    subst ex
    obtain ⟨t, rfl⟩ := r1
    cases ha :
          x.cps.all (· < 128)
    · exact wpAny_pyIter_wide ha (pi_one (tk := z1.toks) J1 _ (turn_str _ x t "str_iterator" (.inr rfl)) ⟨_, Heap.get?_push_size _ rfl, rfl, rfl⟩ q)
    · exact wpAny_pyIter_ascii ha (pi_one (tk := z1.toks) J1 _ (turn_str _ x t "str_ascii_iterator" (.inl rfl)) ⟨_, Heap.get?_push_size _ rfl, rfl, rfl⟩ q)
  subst ex
  rcases q with ⟨xs, hq, q⟩ | ⟨xs, hq, q⟩
  · cases r1
    obtain ⟨ws, rws, p, hz⟩ := J1.list hq
    refine wpAny_pyIter_list
          p.isList ?_
    refine ⟨z1.heap.objs.size, [z1.heap.objs.size], _, _, H1, rfl, J1.kept (t' := z1.toks) fun b o e => Heap.get?_push_of_some _ e, turn_list a _, ⟨_, Heap.get?_push_size _ rfl, rfl, rfl⟩, fun b hb => ?_, q⟩
    have e : b = z1.heap.objs.size := by simpa using hb
    subst e
    exact J1.fpOk (Nat.le_refl _) (J1.hok.fresh (Nat.le_refl _))
  · cases r1
    obtain ⟨ws, rws, p, hz⟩ := J1.tuple hq
    refine wpAny_pyIter_tuple (show z1.heap.IsTuple a ws.toArray from p) ?_
    refine ⟨z1.heap.objs.size, [z1.heap.objs.size], _, _, H1, rfl, J1.kept (t' := z1.toks) fun b o e => Heap.get?_push_of_some _ e, turn_tuple a _, ⟨_, Heap.get?_push_size _ rfl, rfl, rfl⟩, fun b hb => ?_, q⟩
    have e : b = z1.heap.objs.size := by simpa using hb
    subst e
    exact J1.fpOk (Nat.le_refl _) (J1.hok.fresh (Nat.le_refl _))
theorem walk_l {F : Hp} {a : Addr} {vs : List V} {ds : List D} (h : SqL B.K F a vs) (r : RpAll B.K F vs ds) : Walk B F (Itl B.K a) ds := fun i F1 ρ w σ H s B' hK ok => by
  have hq : SqL B.K H a vs := ok.sub.sqL (s.sqL h)
  refine ⟨fun hi => ⟨vs, hq, by rw [r.length]; exact hi⟩, fun d hd => ?_⟩
  obtain ⟨v, h1, h2⟩ := r.get hd
  refine ⟨⟨vs, v, hq, h1⟩, fun x H' y => ?_⟩
  obtain ⟨e, y⟩ := y
  subst e
  have e := y vs hq
  rw [h1] at e
  cases e
  exact ⟨F1, Sub.refl F1, ok, h2.up s⟩
theorem walk_t {F : Hp} {a : Addr} {vs : List V} {ds : List D} (h : SqT B.K F a vs) (r : RpAll B.K F vs ds) : Walk B F (Itt B.K a) ds := fun i F1 ρ w σ H s B' hK ok => by
  have hq : SqT B.K H a vs := ok.sub.sqT (s.sqT h)
  refine ⟨fun hi => ⟨vs, hq, by rw [r.length]; exact hi⟩, fun d hd => ?_⟩
  obtain ⟨v, h1, h2⟩ := r.get hd
  refine ⟨⟨vs, v, hq, h1⟩, fun x H' y => ?_⟩
  obtain ⟨e, y⟩ := y
  subst e
  have e := y vs hq
  rw [h1] at e
  cases e
  exact ⟨F1, Sub.refl F1, ok, h2.up s⟩
theorem strOk_at {x : Str} (h : PyData.strOk x = true) {i c : Nat} (e : x.cps[i]? = some c) : PyData.strOk ⟨#[c]⟩ = true := by
  unfold PyData.strOk at *
  rw [Array.all_eq_true'] at *
  intro y hy
  have hy' : y = c := by simpa using hy
  subst hy'
  exact h y (Array.mem_of_getElem? e)
theorem walk_s {F : Hp} {x : Str} (hx : PyData.strOk x = true) : Walk B F (Its x) (x.cps.toList.map fun c => .str ⟨#[c]⟩) := fun i F1 ρ w σ H s B' hK ok => by
  refine ⟨fun hi => (show x.cps.size ≤ i by simpa using hi), fun d hd => ?_⟩
  rw [List.getElem?_map] at hd
  cases e : x.cps.toList[i]? with
  | none =>
    rw [e] at hd
    cases hd
  | some c =>
    rw [e] at hd
    cases hd
    have e' : x.cps[i]? = some c := by simpa using e
    refine ⟨?_, fun v H' y => ?_⟩
    · show i < x.cps.size
      have := (List.getElem?_eq_some_iff.mp e).1
      simpa using this
    · obtain ⟨e1, c', h1, h2⟩ := y
      subst e1
      rw [e'] at h1
      cases h1
      subst h2
      exact ⟨F1, Sub.refl F1, ok, .str _ (strOk_at hx e')⟩
theorem si_seq {tg : Expr} (q : Cq Kf X B W n) (h : SE X B W e te me) : SI X B W tg e (iSeq Kf te) (bnd me fun d => lft (itemsD d)) := by
  cases q.hX
  exact ⟨pi_seq h.pe, by
    rw [q.hK]
    exact Sim.bnd (R' := Walk B) (k := fun d => lft (itemsD d)) (tk := fun x σ H R => (∃ a, x = V.ref a ∧ ((∃ xs, SqL B.K H a xs ∧ R (Itl B.K a) H) ∨ ∃ xs, SqT B.K H a xs ∧ R (Itt B.K a) H)) ∨ ∃ t, x = V.str t ∧ R (Its t) H) h.sim fun d ρ w r hr v F σ H ok rv Q p => by
      obtain ⟨ds, hd, e1⟩ := lft_some hr
      subst e1
      unfold itemsD at hd
      split at hd
      · cases hd
        cases rv with
        | tup h1 r1 => exact .inl ⟨_, rfl, .inr ⟨_, (ok.sub.sqP h1).sqT, p _ F H (Sub.refl F) ok (walk_t h1.sqT r1)⟩⟩
      · cases hd
        cases rv with
        | lst h1 r1 => exact .inl ⟨_, rfl, .inl ⟨_, SqL.of (ok.sub _ _ h1), p _ F H (Sub.refl F) ok (walk_l (SqL.of h1) r1)⟩⟩
      · cases hd
        cases rv with
        | rol h1 r1 => exact .inl ⟨_, rfl, .inl ⟨_, ok.sub.sqL h1, p _ F H (Sub.refl F) ok (walk_l h1 r1)⟩⟩
      · cases hd
        cases rv with
        | str _ g => exact .inr ⟨_, rfl, p _ F H (Sub.refl F) ok (walk_s g)⟩
      · cases hd⟩
/-- range(n), range(a, b) -/
def rgs (lo : Int) (n : Nat) : List D := (List.range n).map fun i => .int (lo + (i : Nat))
theorem walk_r {F : Hp} {lo : Int} {k : Nat} : Walk B F (Itr lo k) (rgs lo k) := fun i F1 ρ w σ H s B' hK ok => by
  refine ⟨fun hi => (by simpa [rgs] using hi : k ≤ i), fun d hd => ?_⟩
  unfold rgs at hd
  rw [List.getElem?_map] at hd
  have hi : i < k := by
    by_cases hi : i < k
    · exact hi
    · rw [List.getElem?_eq_none (by simpa using hi)] at hd
      cases hd
  rw [List.getElem?_range hi] at hd
  cases hd
  exact ⟨hi, fun x H' y => by
    obtain ⟨e1, e2⟩ := y
    subst e1
    subst e2
    exact ⟨F1, Sub.refl F1, ok, .int _⟩⟩
def rng1 : List D → Option (List D)
  | [.int j] => if 0 ≤ j ∧ j ≤ 100000 then some (rgs 0 j.toNat) else none
  | _ => none
def rng2 : List D → Option (List D)
  | [.int i, .int j] => if -100000 ≤ i ∧ i ≤ 100000 ∧ -100000 ≤ j ∧ j ≤ 100000 then some (rgs i (j - i).toNat) else none
  | _ => none
theorem si_range1 {tg : Expr} (hg : Gl X "range") (hm : X.mg "range" = none) (ha : SA X B W [a] ts ms) (hs : starEach [a] X.env = [(false, eval a X.env)] := by rfl) : SI X B W tg (.Call (.Name "range" p) [a] [] pos) (iRng1 ts) (bnd ms fun ds => lft (rng1 ds)) :=
  ⟨pi_range1 hg hm ha.pa hs, Sim.bnd (R' := Walk B) (k := fun ds => lft (rng1 ds)) (tk := fun vs σ H R => ∃ j : Int, vs = [V.int j] ∧ -(2 ^ 62) ≤ j ∧ j < 2 ^ 62 ∧ R (Itr 0 j.toNat) H) ha.sim fun d ρ w r hr v F σ H ok rv Q p => by
    obtain ⟨ds, hd, e1⟩ := lft_some hr
    subst e1
    unfold rng1 at hd
    split at hd
    · split at hd
      · rename_i hb
        cases hd
        obtain ⟨u, e, ru⟩ := rv.one
        subst e
        cases ru
        exact ⟨_, rfl, by omega, by omega, p _ F H (Sub.refl F) ok walk_r⟩
      · cases hd
    · cases hd⟩
theorem si_range2 {tg : Expr} (hg : Gl X "range") (hm : X.mg "range" = none) (ha : SA X B W [a, b] ts ms) (hs : starEach [a, b] X.env = [(false, eval a X.env), (false, eval b X.env)] := by rfl) (hs2 : starEach [b] X.env = [(false, eval b X.env)] := by rfl) : SI X B W tg (.Call (.Name "range" p) [a, b] [] pos) (iRng2 ts) (bnd ms fun ds => lft (rng2 ds)) :=
  ⟨pi_range2 hg hm ha.pa hs hs2, Sim.bnd (R' := Walk B) (k := fun ds => lft (rng2 ds)) (tk := fun vs σ H R => ∃ i j : Int, vs = [V.int i, V.int j] ∧ (-(2 ^ 62) ≤ i ∧ i < 2 ^ 62 ∧ -(2 ^ 62) ≤ j ∧ j < 2 ^ 62) ∧ R (Itr i (j - i).toNat) H) ha.sim fun d ρ w r hr v F σ H ok rv Q p => by
    obtain ⟨ds, hd, e1⟩ := lft_some hr
    subst e1
    unfold rng2 at hd
    split at hd
    · split at hd
      · rename_i hb
        cases hd
        obtain ⟨u1, u2, e, r1, r2⟩ := rv.two
        subst e
        cases r1
        cases r2
        exact ⟨_, _, rfl, by omega, p _ F H (Sub.refl F) ok walk_r⟩
      · cases hd
    · cases hd⟩
end
end DL
set_option Elab.async false
set_option linter.all false
set_option maxRecDepth 100000
set_option
      maxHeartbeats 4000000
/-! DLG0: enumerate of a tuple. -/
namespace DL
open PySem PySem.Spec
      PyProof.Rows L2
/-- the counting object, not yet gone on with: it walks the object at c -/
abbrev cntO (c : Addr) : Obj := { cls := .type "enumerate", data := .fields #[.none, .bool false, .ref c, rawInt 0, .none, .none] }
/-- both new objects: what walks, what counts -/
abbrev twoO (h : Heap) (o : Obj) : Heap := (h.push o).push (cntO h.objs.size)
/-- what may be walked from its beginning may be counted: enumerate(v) lays two objects -/
theorem enum_made {v : Value} {o : Obj} {H : Heap → Prop} (B : Begins v o H) :
    Meets (Builtin.«enumerate.__new__» ⟨[.type "enumerate", v], []⟩) fun _ R s => H s.heap ∧ R (.ok (.ret (.ref (s.heap.push o).objs.size))) { s with heap := twoO s.heap o } := by
  refine .of_wp fun pr wd A R s => ?_
  rcases s with ⟨hp, gs, dr, tk, ot⟩
  rintro ⟨here, post⟩
  have start : ∀ {A' : Around} {E Q : Value → Shared → Prop}, Q (.ref hp.objs.size) ⟨hp.push o, gs, dr, tk, ot⟩ → wpAny (model pr wd) A' (pyIter v) Q E ⟨hp, gs, dr, tk, ot⟩ := fun q => B.iter pr wd _ _ _ _ here q
  have sub := sub_enumerate
  wp_walk using start
  refine wpAny_stack_any fun _ => wpAny_pure ?_
  split
  case h_1 c _ _ _ _ _ =>
    cases (c == Value.type "enumerate") <;>
      (wp_walk using start
       exact ⟨_, rfl, post⟩)
  all_goals
    wp_walk using start
    exact ⟨_, rfl, post⟩
theorem twoO_cnt (h : Heap) (o : Obj) : IsEnum (twoO h o) (h.objs.size + 1) h.objs.size 0 .none := by
  have at_ := Heap.get?_push_size (h.push o) (o := cntO h.objs.size) rfl
  rw [Heap.size_push] at at_
  exact at_
theorem twoO_old {h : Heap} {o u : Obj} {b : Addr} (e : h.get? b = some u) : (twoO h o).get? b = some u := Heap.get?_push_of_some _ (Heap.get?_push_of_some _ e)
theorem enum_call1 {pr : Program} {wd : World} {A : Around} {E : Value → Shared → Prop} {s : Shared} {v : Value} {o : Obj} {H : Heap → Prop} {Q : Value → Shared → Prop} (B : Begins v o H) (here : H s.heap) (go : Q (.ref (s.heap.objs.size + 1)) { s with heap := twoO s.heap o }) :
    wpAny (model pr wd) A (call (.type "enumerate") [v]) Q E s := by
  have big : (s.heap.push o).objs.size = s.heap.objs.size + 1 := Heap.size_push ..
  refine callType_new F.called_enumerate (by decide) (F.typeCall_enumerate_1 _) (F.newCall_enumerate_1 _) (fun obj => F.args_object_init_2 obj _) F.entry_enumerate_new (enum_made B) ?_
  show H s.heap ∧ _
  rw [big]
  exact ⟨here, ⟨_, twoO_cnt s.heap o, rfl⟩, go⟩
/-- pairs (number, item) over the tuple at a: each a new tuple -/
def ItET (K : PySem.W.Frag) (a : Addr) : It where
  go := fun i H => ∃ xs : List V, SqT K H a xs ∧ ∃ x, xs[i]? = some x
  yld := fun i H v H' => ∃ T x, v = .ref T ∧ H T = none ∧ H' = upd H T (.tup [.int (i : Nat), x]) ∧ ∀ xs, SqT K H a xs → xs[i]? = some x
  stop := fun i H => ∃ xs : List V, SqT K H a xs ∧ xs.length ≤ i
/-- things of two types are two things -/
theorem apart {h : Heap} {x y : Addr} {ox oy : Obj} {n m : String} (hx : h.get? x = some ox) (hy : h.get? y = some oy) (cx : ox.cls = .type n) (cy : oy.cls = .type m) (d : n ≠ m) : x ≠ y := by
  rintro rfl
  have same := Option.some.inj (hx.symm.trans hy)
  rw [same, cy] at cx
  exact d (Value.type.inj cx).symm
/-- i pairs are given out: c counts, r walks the tuple a -/
structure Wt (a c r : Addr) (i : Nat) (h : Heap) : Prop where
  cnt : ∃ last, IsEnum h c r ((i : Nat) : Int) last
  pos : h.IsTupleIter r a i
  two : c ≠ r
theorem Wt.stays {a c r : Addr} {i : Nat} {h h' : Heap} (k : Wt a c r i h) (q : ∀ b ∈ [c, r], ∀ o, h.get? b = some o → h'.get? b = some o) : Wt a c r i h' := by
  obtain ⟨last, hc⟩ := k.cnt
  obtain ⟨o, ho, more⟩ := k.pos
  exact ⟨⟨last, q c (by simp) _ hc⟩, ⟨o, q r (by simp) _ ho, more⟩, k.two⟩
theorem Wt.plain {a c r : Addr} {i : Nat} {h : Heap} (k : Wt a c r i h) : ∀ b ∈ [c, r], ∃ o, h.get? b = some o ∧ ∀ v, o.data ≠ .cell v := by
  obtain ⟨last, hc⟩ := k.cnt
  obtain ⟨o, ho, _, hd⟩ := k.pos
  intro b hb
  simp only [List.mem_cons,
        List.not_mem_nil, or_false] at hb
  rcases hb with rfl | rfl
  · refine ⟨_, hc, fun v => ?_⟩
    exact Data.noConfusion
  · refine ⟨o, ho, fun v => ?_⟩
    rw [hd]
    exact Data.noConfusion
theorem turn_enumT {P : Program} {w : World} {K : PySem.W.Frag} {elts : List Expr} {kk : Nat} {tpos : Pos} (a c r : Addr) : Turn P w K (.Tuple elts kk tpos) (ItET K a) [c, r] c (Wt a c r) where
  mem := List.mem_cons_self
  obj := fun _ _ k => k.plain
  keep := fun _ _ _ k q => k.stays q
  self := fun _ _ _ _ _ k q => by
    obtain ⟨_, hc⟩ := k.cnt
    exact wpAny_pyIter_enum hc q
  done := by
    rintro X rfl rfl rfl calm i pins s σ H E I fp k ⟨xs, hT, le⟩
    obtain ⟨last, hc⟩ := k.cnt
    obtain ⟨its, vals, tup, _⟩ := I.tuple hT
    have out : its.toArray[i]? = none := by
      have := vals.length
      rw [List.getElem?_toArray, List.getElem?_eq_none (by omega)]
    obtain ⟨oa, ha, ca, _⟩ := id (show s.heap.IsTuple a its.toArray from tup)
    obtain ⟨or, hr, cr, _⟩ := id k.pos
    -- an end and no more: nothing is drawn ahead of it
    have Dn : Draws X.prog X.w X.A.in1 r [r, a] i (fun _ _ => True) fun j h => j = i ∧ h.IsTupleIter r a i ∧ h.IsTuple a its.toArray := by
      refine { live := ?_, frame := ?_, item := ?_, done := ?_ }
      · rintro _ _ ⟨_, ⟨o, ho, _⟩, _⟩
        exact ⟨o, ho⟩
      · rintro j h h' ⟨ej, ⟨o1, h1, t1⟩, ⟨o2, h2, t2⟩⟩ same
        exact ⟨ej, ⟨o1, same r (by simp) _ h1, t1⟩, ⟨o2, same a (by simp) _ h2, t2⟩⟩
      · intro j s' Q E' lt st
        exact absurd st.1 (Nat.ne_of_lt lt)
      · intro s' Q E' st end_
        exact wpAny_nextOf_tuple_end (I.ok.hd calm) st.2.1 st.2.2 out end_
    refine wpAny_pyNext_enum_endD Dn hc ⟨rfl, k.pos, tup⟩ fun h' same => ⟨rfl, ?_⟩
    obtain ⟨g1, g2, _, g4, g5, g6⟩ := fp r (by simp)
    exact I.turned (t' := s.toks) (fun b o ne at_ => same b o ne at_) g1 g2 g4 g5 g6
  item := by
    rintro X rfl rfl rfl calm i pins s σ H E I fp k ⟨xs, hT, x, hx⟩
    obtain ⟨last, hc⟩ := k.cnt
    obtain ⟨its, vals, tup, _⟩ := I.tuple hT
    obtain ⟨u, hu, xu⟩ := vals.get hx
    obtain ⟨oa, ha, ca, da⟩ := id (show s.heap.IsTuple a its.toArray from tup)
    obtain ⟨or, hr, cr, dr⟩ := id k.pos
    have ar : a ≠ r := apart ha hr ca cr (by decide)
    have ac : c ≠ a := apart hc ha rfl ca (by decide)
    have got : its.toArray[i]? = some u := by rw [List.getElem?_toArray, hu]
    have lt : i < its.toArray.size := (Array.getElem?_eq_some_iff.mp got).1
    have cl := Heap.lt_size hc
    have rl := Heap.lt_size hr
    let N := s.heap.objs.size
    refine wpAny_pyNext_enum_itemD (Draws.tuple (prog := X.prog) (w := X.w) (A := X.A.in1) (I.ok.hd calm) r a ar its.toArray) hc ⟨k.pos, tup⟩ lt k.two (by simp [k.two, ac]) ?_
    intro y h1 tk hy out st1 laid _ rest
    have yu : y = u := Option.some.inj ((show its.toArray[i]? = some y from hy).symm.trans got)
    subst yu
    refine ⟨_, rfl, wpAny_letOwnedTupleGo_enum (s := { s with heap := h1, toks := tk + 1 }) out ?_⟩
    intro h2 cnt2 same
    have pairAt : h2.get? N = some { cls := .type "tuple", data := .seq #[.int i tk, y] } := (same.2 N (Nat.ne_of_gt cl)).trans laid
    have pairOk : ObjOk X.prog X.w (upd H N (.tup [.int (i : Nat), x])) h2 N (.tup [.int (i : Nat), x]) := by
      refine ⟨show 2 ≤ sizeLine from by decide, [.int i tk, y], .cons ⟨_, rfl⟩ (.cons xu .nil), _, pairAt, rfl, _, rfl⟩
    have keeps : ∀ b o, b ∉ [c, r] → s.heap.get? b = some o → h2.get? b = some o := fun b o nb e => by
      rw [List.mem_cons, List.mem_cons, not_or, not_or] at nb
      exact (same.2 b nb.1).trans (rest b o nb.1 nb.2.1 e)
    have I2 : Inv X pins σ (upd H N (.tup [.int (i : Nat), x])) { s with heap := h2, toks := tk + 1 } := I.turnedNew (ch := [c, r]) keeps fp (Nat.le_refl _) pairOk
    obtain ⟨o1, g1, t1⟩ := id st1.1
    refine ⟨.ref N, _, I2, rfl, ⟨N, x, rfl, I.hok.fresh (Nat.le_refl _), rfl, fun ys hy => (I.tuple_inj hT hy) ▸ hx⟩, ⟨⟨y, ?_⟩, ⟨o1, (same.2 r k.two.symm).trans g1, t1⟩, k.two⟩, fun b hb => ?_⟩
    · rw [show ((i + 1 : Nat) : Int) = (i : Int) + 1 from rfl]
      exact cnt2
    · have small : b < N := by
        simp only [List.mem_cons,
              List.not_mem_nil, or_false] at hb
        rcases hb with rfl | rfl
        · exact cl
        · exact rl
      rw [upd_ne (Nat.ne_of_lt small)]
      exact (fp b hb).1
/-- over a list or over a tuple -/
def iEnT (K : PySem.W.Frag) (ta : TA) : TI := fun σ H R => ta σ H fun vs H1 => ∃ a, vs = [.ref a] ∧ ((∃ xs, SqL K H1 a xs ∧ R (Ite K a) H1) ∨ ∃ xs, SqT K H1 a xs ∧ R (ItET K a) H1)
/-- what stands above all there is may be a walk's own -/
theorem born {X : Cx} {pins : List (Addr × Obj)} {σ : L2.St} {H : Hp} {s : Shared} (I : Inv X pins σ H s) : ∀ b ∈ [s.heap.objs.size + 1, s.heap.objs.size], FpOk X pins H b := by
  intro b hb
  have up : s.heap.objs.size ≤ b := by
    simp only [List.mem_cons,
          List.not_mem_nil, or_false] at hb
    omega
  exact I.fpOk up (I.hok.fresh up)
theorem pi_enT {X : Cx} {e : Expr} {ta : TA} {p pos tpos : Pos} {elts : List Expr} {kk : Nat} (hg : Gl X "enumerate") (hm : X.mg "enumerate" = none) (ha : PA X [e] ta) (hs : starEach [e] X.env = [(false, eval e X.env)] := by rfl) :
    PI X (.Tuple elts kk tpos) (.Call (.Name "enumerate" p) [e] [] pos) (iEnT X.K ta) where
  run := by
    intro pins s σ H R I want
    refine Call_ (ld_blt I hg hm boot_enumerate (PyProof.Rows.callWith_type1 (thn (ha.run pos pins s σ H _ I want) ?_) hs rfl))
    rintro us s1 ⟨vs, H1, I1, rel, a, rfl, way⟩
    obtain _ | ⟨ra, _ | _⟩ := rel
    cases ra
    rcases way with ⟨xs, at_, go⟩ | ⟨xs, at_, go⟩
    · obtain ⟨its, _, seq, _⟩ := I1.list at_
      refine call_enumerate_list seq.isList fun h' cnt pos' _ same => wpAny_pyIter_enum cnt ?_
      exact ⟨_, _, _, _, H1, rfl, I1.kept (t' := s1.toks) same, turn_enum a _ _, ⟨⟨.none, cnt⟩, pos', Nat.succ_ne_self _⟩, born I1, go⟩
    · obtain ⟨its, _, tup, _⟩ := I1.tuple at_
      refine enum_call1 (begins_tuple a its.toArray) tup (wpAny_pyIter_enum (twoO_cnt _ _) ?_)
      have walk : (twoO s1.heap { cls := .type "tuple_iterator", data := .fields #[.ref a, .int 0 0] }).IsTupleIter s1.heap.objs.size a 0 := ⟨_, Heap.get?_push_of_some _ (Heap.get?_push_size _ (begins_tuple a its.toArray).free), rfl, rfl⟩
      exact ⟨_, _, _, _, H1, rfl, I1.kept (t' := s1.toks) fun b o e => twoO_old e, turn_enumT a _ _, ⟨⟨.none, twoO_cnt _ _⟩, walk, Nat.succ_ne_self _⟩, born I1, go⟩
end DL
set_option Elab.async false
set_option linter.all false
set_option maxRecDepth 100000
set_option
      maxHeartbeats 4000000
/-! DLH: zip, enumerate, list comprehensions. -/
namespace DL
open PySem PySem.Spec PyProof.Rows L2 RZ
variable [Tbs]
section
variable {X : Cx} {Kf : PySem.W.Frag} {B : Bs} {W : WX} {n : Nat} {a b c e : Expr} {es : List Expr} {ta tb tc te : TE} {ma mb mc me : M D} {pos p p2 tpos : Pos} {ts : TA} {ms : M (List D)} {x : Str}
/-! ### zip of two lists or two tuples; enumerate of a list -/
def zipD : List D → Option (List D)
  | [.lst xs, .lst ys] => some ((xs.zip ys).map fun p => .pr p.1 p.2)
  | [.tup xs, .tup ys] => some ((xs.zip ys).map fun p => .pr p.1 p.2)
  | _ => none
theorem zip_get {xs ys : List D} {i : Nat} {d : D} (h : ((xs.zip ys).map fun p => D.pr p.1 p.2)[i]? = some d) : ∃ u v, xs[i]? = some u ∧ ys[i]? = some v ∧ d = .pr u v := by
  rw [List.getElem?_map] at h
  cases e : (xs.zip ys)[i]? with
  | none => rw [e]
        at h; cases h
  | some p =>
    rw [e] at h
    cases h
    rw [List.getElem?_zip_eq_some] at e
    exact ⟨p.1, p.2, e.1, e.2, rfl⟩
/-- a new pair -/
theorem Ok.pair {B' : Bs} {F : Hp} {ρ : Rho} {w : Wo} {σ : L2.St} {H : Hp} {T : Addr} {u v : V} {du dv : D} (ok : Ok B' F ρ w σ H) (hK : B'.K = B.K) (hT : H T = none) (ru : Rp B.K F u du) (rv : Rp B.K F v dv) : ∃ F2, Sub F F2 ∧ Ok B' F2 ρ w σ (upd H T (.tup [u, v])) ∧ Rp B.K F2 (.ref T) (.pr du dv) := by
  obtain ⟨s, ok'⟩ := ok.laid hT (.tup [u, v])
  exact ⟨_, s, ok', .pr (.inl (.inl upd_same)) (ru.up s) (rv.up s)⟩
theorem walk_zl {F : Hp} {a b : Addr} {vs us : List V} {xs ys : List D} (h : F a = some (.lst vs)) (r : RpAll B.K F vs xs) (h' : F b = some (.lst us)) (r' : RpAll B.K F us ys) : Walk B F (Itz B.K a b) ((xs.zip ys).map fun p => .pr p.1 p.2) := fun i F1 ρ w σ H s B' hK ok => by
  have hq : SqL B.K H a vs := SqL.of (ok.sub _ _ (s _ _ h))
  have hq' : SqL B.K H b us := SqL.of (ok.sub _ _ (s _ _ h'))
  refine ⟨fun hi => ⟨vs, us, hq, hq', ?_⟩, fun d hd => ?_⟩
  · rw [r.length, r'.length]
    rw [List.length_map, List.length_zip] at hi
    omega
  · obtain ⟨u, v, h1, h2, e⟩ := zip_get hd
    subst e
    obtain ⟨x1, g1, g2⟩ := r.get h1
    obtain ⟨x2, g3, g4⟩ := r'.get h2
    refine ⟨⟨vs, us, x1, x2, hq, hq', g1, g3⟩, fun x H' y => ?_⟩
    obtain ⟨T, y1, y2, e1, hT, e2, f1, f2⟩ := y
    subst e1
    subst e2
    have q1 := f1 vs hq
    have q2 := f2 us hq'
    rw [g1] at q1
    rw [g3] at q2
    cases q1
    cases q2
    exact ok.pair hK hT (g2.up s) (g4.up s)
theorem walk_zt {F : Hp} {a b : Addr} {vs us : List V} {xs ys : List D} (h : SqT B.K F a vs) (r : RpAll B.K F vs xs) (h' : SqT B.K F b us) (r' : RpAll B.K F us ys) : Walk B F (ItzT B.K a b) ((xs.zip ys).map fun p => .pr p.1 p.2) := fun i F1 ρ w σ H s B' hK ok => by
  have hq : SqT B.K H a vs := ok.sub.sqT (s.sqT h)
  have hq' : SqT B.K H b us := ok.sub.sqT (s.sqT h')
  refine ⟨fun hi => ⟨vs, us, hq, hq', ?_⟩, fun d hd => ?_⟩
  · rw [r.length, r'.length]
    rw [List.length_map, List.length_zip] at hi
    omega
  · obtain ⟨u, v, h1, h2, e⟩ := zip_get hd
    subst e
    obtain ⟨x1, g1, g2⟩ := r.get h1
    obtain ⟨x2, g3, g4⟩ := r'.get h2
    refine ⟨⟨vs, us, x1, x2, hq, hq', g1, g3⟩, fun x H' y => ?_⟩
    obtain ⟨T, y1, y2, e1, hT, e2, f1, f2⟩ := y
    subst e1
    subst e2
    have q1 := f1 vs hq
    have q2 := f2 us hq'
    rw [g1] at q1
    rw [g3] at q2
    cases q1
    cases q2
    exact ok.pair hK hT (g2.up s) (g4.up s)
theorem si_zip {elts : List Expr} {kk : Nat} (q : Cq Kf X B W n) (hg : Gl X "zip") (hm : X.mg "zip" = none) (ha : SA X B W [a, b] ts ms) (hs : starEach [a, b] X.env = (false, eval a X.env) :: starEach [b] X.env := by rfl) (hpl : (backTo pos (starEach [b] X.env)).any (·.1) = false := by rfl) :
    SI X B W (.Tuple elts kk tpos) (.Call (.Name "zip" p) [a, b] [] pos) (iZipA Kf ts) (bnd ms fun ds => lft (zipD ds)) := by
  cases q.hX
  exact ⟨pi_zipA hg hm ha.pa hs hpl, by
    rw [q.hK]
    exact Sim.bnd (R' := Walk B) (k := fun ds => lft (zipD ds)) (tk := fun vs σ H R => ∃ a b xs ys, vs = [V.ref a, V.ref b] ∧ ((SqL B.K H a xs ∧ SqL B.K H b ys ∧ R (Itz B.K a b) H) ∨ (SqT B.K H a xs ∧ SqT B.K H b ys ∧ R (ItzT B.K a b) H))) ha.sim fun d ρ w r hr v F σ H ok rv Q p => by
      obtain ⟨ds, hd, e1⟩ := lft_some hr
      subst e1
      unfold zipD at hd
      split at hd
      · cases hd
        obtain ⟨u1, u2, e, r1, r2⟩ := rv.two
        subst e
        cases r1 with
        | lst h1 r1 =>
          cases r2 with
          | lst h2 r2 => exact ⟨_, _, _, _, rfl, .inl ⟨SqL.of (ok.sub _ _ h1), SqL.of (ok.sub _ _ h2), p _ F H (Sub.refl F) ok (walk_zl h1 r1 h2 r2)⟩⟩
      · cases hd
        obtain ⟨u1, u2, e, r1, r2⟩ := rv.two
        subst e
        cases r1 with
        | tup h1 r1 =>
          cases r2 with
          | tup h2 r2 => exact ⟨_, _, _, _, rfl, .inr ⟨(ok.sub.sqP h1).sqT, (ok.sub.sqP h2).sqT, p _ F H (Sub.refl F) ok (walk_zt h1.sqT r1 h2.sqT r2)⟩⟩
      · cases hd⟩
def enumFrom' : Nat → List D → List D
  | _, [] => []
  | i, x :: xs => .pr (.int (i : Nat)) x :: enumFrom' (i + 1) xs
theorem enum_len : ∀ (xs : List D) (k : Nat), (enumFrom' k xs).length = xs.length
  | [], _ => rfl
  | x :: xs, k => by simp [enumFrom', enum_len xs]
theorem enum_get : ∀ (xs : List D) (k i : Nat) (d : D), (enumFrom' k xs)[i]? = some d → ∃ u, xs[i]? = some u ∧ d = .pr (.int ((k + i : Nat) : Int)) u
  | [], _, i, d, h => by simp [enumFrom'] at h
  | x :: xs, k, 0, d, h => by
    cases h
    exact ⟨x, rfl, rfl⟩
  | x :: xs, k, i + 1, d, h => by
    obtain ⟨u, h1, h2⟩ := enum_get xs (k + 1) i d h
    exact ⟨u, h1, by rw [h2]; congr 3; omega⟩
def enumD : List D → Option (List D)
  | [.lst xs] => some (enumFrom' 0 xs)
  | [.tup xs] => some (enumFrom' 0 xs)
  | _ => none
theorem walk_el {F : Hp} {a : Addr} {vs : List V} {xs : List D} (h : F a = some (.lst vs)) (r : RpAll B.K F vs xs) : Walk B F (Ite B.K a) (enumFrom' 0 xs) := fun i F1 ρ w σ H s B' hK ok => by
  have hq : SqL B.K H a vs := SqL.of (ok.sub _ _ (s _ _ h))
  refine ⟨fun hi => ⟨vs, hq, ?_⟩, fun d hd => ?_⟩
  · rw [r.length]
    rw [enum_len] at hi
    exact hi
  · obtain ⟨u, h1, e⟩ := enum_get _ _ _ _ hd
    subst e
    obtain ⟨x1, g1, g2⟩ := r.get h1
    refine ⟨⟨vs, x1, hq, g1⟩, fun x H' y => ?_⟩
    obtain ⟨T, y1, e1, hT, e2, f1⟩ := y
    subst e1
    subst e2
    have q1 := f1 vs hq
    rw [g1] at q1
    cases q1
    rw [Nat.zero_add]
    exact ok.pair hK hT (.int _) (g2.up s)
theorem walk_et {F : Hp} {a : Addr} {vs : List V} {xs : List D} (h : SqP B.K F a vs) (r : RpAll B.K F vs xs) : Walk B F (ItET B.K a) (enumFrom' 0 xs) := fun i F1 ρ w σ H s B' hK ok => by
  have hq : SqT B.K H a vs := (ok.sub.sqP (s.sqP h)).sqT
  refine ⟨fun hi => ⟨vs, hq, ?_⟩, fun d hd => ?_⟩
  · rw [r.length]
    rw [enum_len] at hi
    exact hi
  · obtain ⟨u, h1, e⟩ := enum_get _ _ _ _ hd
    subst e
    obtain ⟨x1, g1, g2⟩ := r.get h1
    refine ⟨⟨vs, hq, x1, g1⟩, fun x H' y => ?_⟩
    obtain ⟨T, y1, e1, hT, e2, f1⟩ := y
    subst e1
    subst e2
    have q1 := f1 vs hq
    rw [g1] at q1
    cases q1
    rw [Nat.zero_add]
    exact ok.pair hK hT (.int _) (g2.up s)
theorem si_enum {elts : List Expr} {kk : Nat} (q : Cq Kf X B W n) (hg : Gl X "enumerate") (hm : X.mg "enumerate" = none) (ha : SA X B W [a] ts ms) (hs : starEach [a] X.env = [(false, eval a X.env)] := by rfl) :
    SI X B W (.Tuple elts kk tpos) (.Call (.Name "enumerate" p) [a] [] pos) (iEnT Kf ts) (bnd ms fun ds => lft (enumD ds)) := by
  cases q.hX
  exact ⟨pi_enT hg hm ha.pa hs, by
    rw [q.hK]
    exact Sim.bnd (R' := Walk B) (k := fun ds => lft (enumD ds)) (tk := fun vs σ H R => ∃ a, vs = [V.ref a] ∧ ((∃ xs, SqL B.K H a xs ∧ R (Ite B.K a) H) ∨ ∃ xs, SqT B.K H a xs ∧ R (ItET B.K a) H)) ha.sim fun d ρ w r hr v F σ H ok rv Q p => by
      obtain ⟨ds, hd, e1⟩ := lft_some hr
      subst e1
      unfold enumD at hd
      split at hd
      · cases hd
        obtain ⟨u1, e, r1⟩ := rv.one
        subst e
        cases r1 with
        | lst h1 r1 => exact ⟨_, rfl, .inl ⟨_, SqL.of (ok.sub _ _ h1), p _ F H (Sub.refl F) ok (walk_el h1 r1)⟩⟩
      · cases hd
        obtain ⟨u1, e, r1⟩ := rv.one
        subst e
        cases r1 with
        | tup h1 r1 => exact ⟨_, rfl, .inr ⟨_, (ok.sub.sqP h1).sqT, p _ F H (Sub.refl F) ok (walk_et h1 r1)⟩⟩
      · cases hd⟩
/-! ### new lists that may still change -/
def PostN (B : Bs) (W : WX) (r : Rs (List D)) (F : Hp) (σ : L2.St) (Q : VK) : Prop := match r with
  | .ok ds ρ w => ∀ a F' H', Sub F F' → Ok B F' ρ w σ H' → New B F' ρ w σ H' a ds → Q (.ref a) H'
  | .exc x ρ w => ∀ d F' H', Sub F F' → Ok B F' ρ w σ H' → excAt B.K F' H' d x → W x.cls d σ H'
theorem PostN.imp {r : Rs (List D)} {F F1 : Hp} {σ : L2.St} {Q : VK} (s : Sub F F1) (p : PostN B W r F σ Q) : PostN B W r F1 σ Q := by
  cases r with
  | ok a ρ w => exact fun a F' H' s' k n => p a F' H' (s.trans s') k n
  | exc x ρ w => exact fun d F' H' s' k h => p d F' H' (s.trans s') k h
def SimN (B : Bs) (W : WX) (t : TE) (m : M (List D)) : Prop := ∀ ρ w r, m ρ w = some r → ∀ F σ H, Ok B F ρ w σ H → ∀ Q : VK, PostN B W r F σ Q → t σ H Q
structure SN (X : Cx) (B : Bs) (W : WX) (e : Expr) (t : TE) (m : M (List D)) : Prop where
  pe : PE X e t
  sim : SimN B W t m
theorem SimN.of {α β : Type} {R : Hp → β → α → Prop} {te : TX β} {me : M α} {k : α → M (List D)} {tk : β → L2.St → Hp → VK → Prop} (h : Sim B W R te me)
    (hk : ∀ a ρ w r, k a ρ w = some r → ∀ b F σ H, Ok B F ρ w σ H → R F b a → ∀ Q, PostN B W r F σ Q → tk b σ H Q) : SimN B W (fun σ H Q => te σ H fun b H1 => tk b σ H1 Q) (bnd me k) := by
  intro ρ w r hr F σ H ok Q p
  unfold bnd at hr
  cases hm : me ρ w with
  | none => rw [hm] at hr; cases hr
  | some r1 =>
    rw [hm] at hr
    cases r1 with
    | ok a ρ1 w1 => exact h ρ w _ hm F σ H ok _ fun b F' H' s ok' hR => hk a ρ1 w1 r hr b F' σ H' ok' hR Q (p.imp s)
    | exc x ρ1 w1 =>
      cases hr
      exact h ρ w _ hm F σ H ok _ fun d F' H' s ok' hx => p d F' H' s ok' hx
/-- a new list, then a value -/
theorem SimN.val {t : TE} {m : M (List D)} (h : SimN B W t m) : Sim B W (RV B) t (bnd m fun ds => ret (.lst ds)) := by
  intro ρ w r hr F σ H ok Q p
  unfold bnd at hr
  cases hm : m ρ w with
  | none => rw [hm] at hr; cases hr
  | some r1 =>
    rw [hm] at hr
    refine h ρ w r1 hm F σ H ok Q ?_
    cases r1 with
    | ok ds ρ1 w1 =>
      cases hr
      intro a F' H' s ok' nw
      obtain ⟨F2, s2, ok2, r2⟩ := ok'.freeze nw
      exact p _ F2 H' (s.trans s2) ok2 r2
    | exc x ρ1 w1 =>
      cases hr
      exact fun d F' H' s ok' hx => p d F' H' s ok' hx
/-! ### list comprehensions -/
structure SF (X : Cx) (B : Bs) (W : WX) (es : List Expr) (t : TT) (m : M Bool) : Prop where
  pts : PTs X es t
  sim : Sim B W RB t m
theorem sf_nil : SF X B W [] tYes (ret true) := ⟨pts_nil, fun ρ w r hr F σ H ok Q p => by
  cases hr
  exact p true F H (Sub.refl F) ok rfl⟩
theorem sf_one {t : TT} {m : M Bool} (h : ST X B W e t m) : SF X B W [e] t m := ⟨pts_one h.pt, h.sim⟩
def lcLoop (own : List Nat) (bind : D → Rho → Option Rho) (mt : M Bool) (me : M D) : List D → Rho → Wo → Option (List D × Rho × Wo)
  | [], ρ, w => some ([], ρ, w)
  | d :: ds, ρ, w =>
    match bind d (wipeR ρ own) with
    | none => none
    | some ρ0 =>
      match mt ρ0 w with
      | some (.ok true ρ1 w1) =>
        match me ρ1 w1 with
        | some (.ok y ρ2 w2) => (lcLoop own bind mt me ds ρ2 w2).map fun z => (y :: z.1, z.2)
        | _ => none
      | some (.ok false ρ1 w1) => lcLoop own bind mt me ds ρ1 w1
      | _ => none
def nLc (own : List Nat) (mi : M (List D)) (bind : D → Rho → Option Rho) (mt : M Bool) (me : M D) : M (List D) := bnd mi fun ds ρ w =>
  if ds.length ≤ 100000 then
    match lcLoop own bind mt me ds ρ w with
    | some (ys, ρ', w') => some (.ok ys (wipeR ρ' own) w')
    | none => none
  else none
def mLc (own : List Nat) (mi : M (List D)) (bind : D → Rho → Option Rho) (mt : M Bool) (me : M D) : M D := bnd (nLc own mi bind mt me) fun ds => ret (.lst ds)
abbrev W0 : WX := fun _ _ _ _ => False
theorem New.wiped {F : Hp} {ρ : Rho} {w : Wo} {σ : L2.St} {H : Hp} {L : Addr} {acc : List D} (nw : New B F ρ w σ H L acc) (vs : List Nat) : New B F (wipeR ρ vs) w (wipe σ vs) H L acc :=
  nw.to fun i ds e => ⟨(wipeR_own e).1, fun z => (wipe_some z).1⟩
theorem New.unwiped {F : Hp} {ρ : Rho} {w : Wo} {σ : L2.St} {H : Hp} {L : Addr} {acc : List D} (k : Ok B F (wipeR ρ vs) w (wipe σ vs) H) (nw : New B F (wipeR ρ vs) w (wipe σ vs) H L acc) : New B F (wipeR ρ vs) w σ H L acc :=
  nw.to fun i ds e => ⟨e, fun z => by
    obtain ⟨a, us, h1, _⟩ := k.own i ds e
    have h2 := (wipe_some h1).1
    rw [z] at h2
    cases h2
    exact h1⟩
theorem wipe_idem (τ : L2.St) (us : List Nat) : ∀ vs : List Nat, (∀ v ∈ vs, v ∈ us) → wipe (wipe τ us) vs = wipe τ us
  | [], _ => rfl
  | v :: r, hs => by
    show (wipe (wipe τ us) r).set v none = wipe τ us
    rw [wipe_idem τ us r fun x hx => hs x (List.mem_cons_of_mem _ hx)]
    apply List.ext_getElem?
    intro j
    by_cases hj : v = j
    · subst hj
      by_cases hl : v < (wipe τ us).length
      · rw [List.getElem?_set_self hl]
        cases q : (wipe τ us)[v]? with
        | none => rw [List.getElem?_eq_none_iff] at q; omega
        | some o =>
          cases o with
          | none => rfl
          | some x => exact absurd (hs v List.mem_cons_self) (wipe_some q).2
      · rw [List.getElem?_eq_none (by rw [List.length_set]; omega), List.getElem?_eq_none (by omega)]
    · rw [List.getElem?_set_ne hj]
theorem sim_lcN {own : List Nat} {wi : TI} {g : TG} {tt : TT} {mi : M (List D)} {bind : D → Rho → Option Rho} {mt : M Bool} (hi : Sim B W (Walk B) wi mi)
    (hg : ∀ B' : Bs, B'.K = B.K → ∀ d ρ ρ', bind d ρ = some ρ' → ∀ F w σ H v, Ok B' F ρ w σ H → Rp B'.K F v d → ∀ Q : L2.St → Hp → Prop, (∀ σ', wipe σ' own = wipe σ own → Ok B' F ρ' w σ' H → Q σ' H) → g v σ H Q)
    (ht : ∀ B' : Bs, B'.K = B.K → Sim B' W0 RB tt mt) (he : ∀ B' : Bs, B'.K = B.K → Sim B' W0 (RV B') te me) : SimN B W (tLc wi g tt te own) (nLc own mi bind mt me) := by
  refine SimN.of (tk := fun J σ H1 Q => ∀ D, H1 D = none → ∃ W : Nat → Nat → Hp → Prop, (∃ m, W 0 m (upd H1 D (.lst []))) ∧ ∀ i m H, W i m H →
    (J.stop i H ∧ Q (.ref D) H) ∨ (J.go i H ∧ ∃ Nx : Hp → Prop, (∀ H', Nx H' → ∃ m', m' < m ∧ W (i + 1) m' H') ∧ ∀ x H', J.yld i H x H' → g x (wipe σ own) H' fun σ2 H2 => wipe σ2 own = wipe σ own ∧ tt σ2 H2 fun b H3 =>
    if b = true then te σ2 H3 fun y H4 => ∃ acc, H4 D = some (.lst acc) ∧ acc.length < sizeLine ∧ Nx (upd H4 D (.lst (acc ++ [y]))) else Nx H3)) hi fun ds ρ w r hr J F σ H ok wk Q p => ?_
  split at hr
  case isFalse => cases hr
  rename_i hlen
  cases hlp : lcLoop own bind mt me ds ρ w with
  | none => rw [hlp] at hr; cases hr
  | some z =>
    obtain ⟨ys, ρe, we⟩ := z
    rw [hlp] at hr
    cases hr
    intro L hL
    have ww : ∀ {σ : L2.St} {vs : List Nat}, wipe (wipe σ vs) vs = wipe σ vs := fun {σ vs} => wipe_idem σ vs vs fun _ h => h
    -- the invariant
    refine ⟨fun i m H' => ∃ F' ρ' w' acc rest vs, m = ds.length - i ∧ i ≤ ds.length ∧ Sub F F' ∧ Ok B F' (wipeR ρ' own) w' (wipe σ own) H' ∧ New B F' (wipeR ρ' own) w' (wipe σ own) H' L acc ∧ H' L = some (.lst vs) ∧ RpAll B.K F' vs acc ∧
      acc.length ≤ i ∧ lcLoop own bind mt me (ds.drop i) ρ' w' = some (rest, ρe, we) ∧ acc ++ rest = ys, ⟨ds.length, ?_⟩, ?_⟩
    · obtain ⟨ok1, nw⟩ := ok.newL hL (vs := []) (ds := []) .nil
      exact ⟨F, ρ, w, [], ys, [], rfl, Nat.zero_le _, Sub.refl F, ok1.wiped own, nw.wiped own, upd_same, .nil, Nat.le_refl _, hlp, rfl⟩
    · rintro i m H' ⟨F', ρ', w', acc, rest, vs, rfl, hi', sF, ok', nw, hLs, racc, hacc, hrest, eys⟩
      by_cases hlt : i < ds.length
      · refine .inr ?_
        have hd : ds[i]? = some ds[i] := List.getElem?_eq_getElem hlt
        obtain ⟨_, hgo⟩ := wk i F' _ _ _ _ sF (B.plus L (.lst vs)) rfl (ok'.plus nw hLs)
        obtain ⟨go, hy⟩ := hgo _ hd
        refine ⟨go, fun H'' => ∃ F'' ρ'' w'' acc' rest' vs', Sub F F'' ∧ Ok B F'' (wipeR ρ'' own) w'' (wipe σ own) H'' ∧ New B F'' (wipeR ρ'' own) w'' (wipe σ own) H'' L acc' ∧ H'' L = some (.lst vs') ∧ RpAll B.K F'' vs' acc' ∧
          acc'.length ≤ i + 1 ∧ lcLoop own bind mt me (ds.drop (i + 1)) ρ'' w'' = some (rest', ρe, we) ∧ acc' ++ rest' = ys, fun H'' ⟨F'', ρ'', w'', acc', rest', vs', q1, q2, q3, q4, q5, q6, q7, q8⟩ => ⟨ds.length - (i + 1), by omega, F'', ρ'', w'', acc', rest', vs', rfl, hlt, q1, q2, q3, q4, q5, q6, q7, q8⟩, fun x Hy yl => ?_⟩
        obtain ⟨F2, s2, ok2, rx⟩ := hy x Hy yl
        rw [List.drop_eq_getElem_cons hlt] at hrest
        unfold lcLoop at hrest
        cases hb : bind ds[i] (wipeR ρ' own) with
        | none => rw [hb] at hrest; cases hrest
        | some ρ0 =>
          rw [hb] at hrest
          dsimp only at hrest
          have w0L : L ∉ adr B.w := fun z => nw.nw (ok'.go.old L z)
          have bFL : B.F L = none := ok'.go.sub.back nw.nF
          refine hg (B.plus L (.lst vs)) rfl ds[i] _ ρ0 hb F2 _ _ _ x ok2 rx _ fun σ2 hw2 ok3 => ⟨by rw [hw2, ww], ?_⟩
          cases ht1 : mt ρ0 w' with
          | none => rw [ht1] at hrest; cases hrest
          | some r1 =>
            rw [ht1] at hrest
            cases r1 with
            | exc _ _ _ => cases hrest
            | ok bb ρ1 w1 =>
              refine ht (B.plus L (.lst vs)) rfl ρ0 w' _ ht1 F2 σ2 Hy ok3 _ fun b F4 H4 s4 ok4 eb => ?_
              cases eb
              cases bb with
              | true =>
                rw [if_pos rfl]
                dsimp only at hrest
                cases he1 : me ρ1 w1 with
                | none => rw [he1] at hrest; cases hrest
                | some r2 =>
                  rw [he1] at hrest
                  cases r2 with
                  | exc _ _ _ => cases hrest
                  | ok yy ρ2 w2 =>
                    dsimp only at hrest
                    refine he (B.plus L (.lst vs)) rfl ρ1 w1 _ he1 F4 σ2 H4 ok4 _ fun y F5 H5 s5 ok5 ry => ?_
                    have sub5 : Sub F' F5 := (s2.trans s4).trans s5
                    obtain ⟨ok6, nw6, hL6⟩ := Ok.minus nw.n0 w0L bFL racc sub5 ok5
                    refine ⟨vs, hL6, Nat.lt_of_le_of_lt (by rw [racc.length]; omega : vs.length ≤ 100000) (by decide), ?_⟩
                    cases hl2 : lcLoop own bind mt me (ds.drop (i + 1)) ρ2 w2 with
                    | none => rw [hl2] at hrest; cases hrest
                    | some z2 =>
                      rw [hl2] at hrest
                      obtain ⟨rest', ρe', we'⟩ := z2
                      cases hrest
                      have ryy : Rp B.K F5 y yy := ry
                      have racc' : RpAll B.K F5 (vs ++ [y]) (acc ++ [yy]) := (racc.up sub5).append (.cons ryy .nil)
                      -- the list grows
                      have ok7 : Ok B F5 ρ2 w2 σ2 (upd H5 L (.lst (vs ++ [y]))) := ok6.grow nw6
                      have nw7 : New B F5 ρ2 w2 σ2 (upd H5 L (.lst (vs ++ [y]))) L (acc ++ [yy]) := ⟨⟨_, upd_same, racc'⟩, nw6.nF, nw6.n0, nw6.nw, nw6.ns⟩
                      have ok8 := ok7.wiped own
                      have nw8 := nw7.wiped own
                      have ew : wipe σ2 own = wipe σ own := by rw [hw2, ww]
                      rw [ew] at ok8 nw8
                      exact ⟨F5, ρ2, w2, acc ++ [yy], rest', vs ++ [y], sF.trans sub5, ok8, nw8, upd_same, racc', by rw [List.length_append]; simp; omega, hl2, by rw [List.append_assoc]; exact eys⟩
              | false =>
                rw [if_neg
                      Bool.false_ne_true]
                dsimp only at hrest
                have sub4 : Sub F' F4 := s2.trans s4
                obtain ⟨ok6, nw6, hL6⟩ := Ok.minus nw.n0 w0L bFL racc sub4 ok4
                have ok8 := ok6.wiped own
                have nw8 := nw6.wiped own
                have ew : wipe σ2 own = wipe σ own := by rw [hw2, ww]
                rw [ew] at ok8 nw8
                exact ⟨F4, ρ1, w1, acc, rest, vs, sF.trans sub4, ok8, nw8, hL6, racc.up sub4, by omega, hrest, eys⟩
      · have ei : i = ds.length := by omega
        subst ei
        refine .inl ?_
        rw [List.drop_length] at hrest
        cases hrest
        rw [List.append_nil] at eys
        subst eys
        obtain ⟨hstop, _⟩ := wk ds.length F' _ _ _ _ sF (B.plus L (.lst vs)) rfl (ok'.plus nw hLs)
        refine ⟨hstop (Nat.le_refl _), ?_⟩
        have nw2 := New.unwiped ok' nw
        exact p _ F' H' sF ok'.unwipe nw2
theorem sim_lc {own : List Nat} {wi : TI} {g : TG} {tt : TT} {mi : M (List D)} {bind : D → Rho → Option Rho} {mt : M Bool} (hi : Sim B W (Walk B) wi mi)
    (hg : ∀ B' : Bs, B'.K = B.K → ∀ d ρ ρ', bind d ρ = some ρ' → ∀ F w σ H v, Ok B' F ρ w σ H → Rp B'.K F v d → ∀ Q : L2.St → Hp → Prop, (∀ σ', wipe σ' own = wipe σ own → Ok B' F ρ' w σ' H → Q σ' H) → g v σ H Q)
    (ht : ∀ B' : Bs, B'.K = B.K → Sim B' W0 RB tt mt) (he : ∀ B' : Bs, B'.K = B.K → Sim B' W0 (RV B') te me) : Sim B W (RV B) (tLc wi g tt te own) (mLc own mi bind mt me) := (sim_lcN hi hg ht he).val
/-- nothing: a state, a heap -/
def s0 : Shared := {}
theorem sn_lc {tg elt iter : Expr} {ifs : List Expr} {scope : Scope} {own : List (Str × Nat)} {wi : TI} {g : TG} {tt : TT} {mi : M (List D)} {bind : D → Rho → Option Rho} {mt : M Bool} {vs : List Nat} (q : Cq Kf X B W n) (hi : SI X B W tg iter wi mi) (ok : BlkOk X.N X.env.scope scope own)
    (hg : ∀ (s : Shared) (H : Hp) (C : Addr) (cl : List (Str × Addr)) (fp : List Addr) (B' : Bs), Kf = B'.K → SG (X.blk s H scope (compEnvC scope cl C X.env) fp) B' vs tg g bind)
    (ht : ∀ (s : Shared) (H : Hp) (C : Addr) (cl : List (Str × Addr)) (fp : List Addr) (B' : Bs), Kf = B'.K → Cq Kf (X.blk s H scope (compEnvC scope cl C X.env) fp) B' W0 n → SF (X.blk s H scope (compEnvC scope cl C X.env) fp) B' W0 ifs tt mt)
    (he : ∀ (s : Shared) (H : Hp) (C : Addr) (cl : List (Str × Addr)) (fp : List Addr) (B' : Bs), Kf = B'.K → Cq Kf (X.blk s H scope (compEnvC scope cl C X.env) fp) B' W0 n → SE (X.blk s H scope (compEnvC scope cl C X.env) fp) B' W0 elt te me)
    (hv : (vs.all fun i => (own.map (·.2)).contains i) = true := by rfl) (hs : ∀ x, foldedSetIterable iter X.env x = pure x := by intro _; rfl) : SN X B W (.ListComp elt [⟨tg, iter, ifs, 0⟩] scope pos) (tLc wi g tt te (own.map (·.2))) (nLc (own.map (·.2)) mi bind mt me) := by
  cases q.hX
  have cq : ∀ (s : Shared) (H : Hp) (C : Addr) (cl : List (Str × Addr)) (fp : List Addr) (B' : Bs), X.K = B'.K → Cq X.K (X.blk s H scope (compEnvC scope cl C X.env) fp) B' W0 n := fun s H C cl fp B' e => ⟨rfl, e, takes0, q.hr, q.calm, q.nd⟩
  have hv' : ∀ i ∈ vs, i ∈ own.map (·.2) := fun i hi => List.contains_iff_mem.mp (List.all_eq_true.mp hv i hi)
  refine ⟨pe_lc q.calm q.nd hi.pi ok (fun s H C cl fp => (hg s H C cl fp ⟨X.K, fun _ => none, fun _ => none, none⟩ rfl).pg) (fun s H C cl fp => (ht s H C cl fp ⟨X.K, fun _ => none, fun _ => none, none⟩ rfl (cq _ _ _ _ _ _ rfl)).pts) (fun s H C cl fp => (he s H C cl fp ⟨X.K, fun _ => none, fun _ => none, none⟩ rfl (cq _ _ _ _ _ _ rfl)).pe) hs,
    sim_lcN hi.sim (fun B' e d ρ ρ' hb F w σ H v k rv Q p => ?_) (fun B' e => ?_) (fun B' e => ?_)⟩
  · exact (hg s0 (fun _ => none) 0 [] [] B' (by rw [q.hK, e])).sim d ρ ρ' hb F w σ H v k rv Q fun σ' t k' => p σ' (t _ hv') k'
  · exact (ht s0 (fun _ => none) 0 [] [] B' (by rw [q.hK, e]) (cq _ _ _ _ _ _ (by rw [q.hK, e]))).sim
  · exact (he s0 (fun _ => none) 0 [] [] B' (by rw [q.hK, e]) (cq _ _ _ _ _ _ (by rw [q.hK, e]))).sim
theorem se_lc {tg elt iter : Expr} {ifs : List Expr} {scope : Scope} {own : List (Str × Nat)} {wi : TI} {g : TG} {tt : TT} {mi : M (List D)} {bind : D → Rho → Option Rho} {mt : M Bool} {vs : List Nat} (q : Cq Kf X B W n) (hi : SI X B W tg iter wi mi) (ok : BlkOk X.N X.env.scope scope own)
    (hg : ∀ (s : Shared) (H : Hp) (C : Addr) (cl : List (Str × Addr)) (fp : List Addr) (B' : Bs), Kf = B'.K → SG (X.blk s H scope (compEnvC scope cl C X.env) fp) B' vs tg g bind)
    (ht : ∀ (s : Shared) (H : Hp) (C : Addr) (cl : List (Str × Addr)) (fp : List Addr) (B' : Bs), Kf = B'.K → Cq Kf (X.blk s H scope (compEnvC scope cl C X.env) fp) B' W0 n → SF (X.blk s H scope (compEnvC scope cl C X.env) fp) B' W0 ifs tt mt)
    (he : ∀ (s : Shared) (H : Hp) (C : Addr) (cl : List (Str × Addr)) (fp : List Addr) (B' : Bs), Kf = B'.K → Cq Kf (X.blk s H scope (compEnvC scope cl C X.env) fp) B' W0 n → SE (X.blk s H scope (compEnvC scope cl C X.env) fp) B' W0 elt te me)
    (hv : (vs.all fun i => (own.map (·.2)).contains i) = true := by rfl) (hs : ∀ x, foldedSetIterable iter X.env x = pure x := by intro _; rfl) : SE X B W (.ListComp elt [⟨tg, iter, ifs, 0⟩] scope pos) (tLc wi g tt te (own.map (·.2))) (mLc (own.map (·.2)) mi bind mt me) := by
  cases q.hX
  have S := sn_lc (pos := pos) q hi ok hg ht he hv hs
  exact ⟨S.pe, S.sim.val⟩
end
end DL
set_option Elab.async false
set_option linter.all false
set_option maxRecDepth 100000
set_option
      maxHeartbeats 4000000
/-! DLI: statements. -/
namespace DL
open PySem PySem.Spec PyProof.Rows L2 RZ
variable [Tbs]
def PostS (B : Bs) (W : WX) (r : Rs Fl) (F : Hp) (Dn : Ends) : Prop :=
  match r with
  | .ok .nx ρ w => ∀ F' σ' H', Sub F F' → Ok B F' ρ w σ' H' → Dn.nx σ' H'
  | .ok .br ρ w => ∀ F' σ' H', Sub F F' → Ok B F' ρ w σ' H' → Dn.bk σ' H'
  | .ok .ct ρ w => ∀ F' σ' H', Sub F F' → Ok B F' ρ w σ' H' → Dn.ct σ' H'
  | .ok (.rt d) ρ w => ∀ v F' σ' H', Sub F F' → Ok B F' ρ w σ' H' → Rp B.K F' v d → Dn.rt v H'
  | .exc x ρ w => ∀ d F' σ' H', Sub F F' → Ok B F' ρ w σ' H' → excAt B.K F' H' d x → W x.cls d σ' H'
theorem PostS.imp {B : Bs} {W : WX} {r : Rs Fl} {F F1 : Hp} {Dn : Ends} (s : Sub F F1) (p : PostS B W r F Dn) : PostS B W r F1 Dn := by
  cases r with
  | ok a ρ w =>
    cases a with
    | nx => exact fun F' σ' H' s' k => p F' σ' H' (s.trans s') k
    | br => exact fun F' σ' H' s' k => p F' σ' H' (s.trans s') k
    | ct => exact fun F' σ' H' s' k => p F' σ' H' (s.trans s') k
    | rt d => exact fun v F' σ' H' s' k h => p v F' σ' H' (s.trans s') k h
  | exc x ρ w => exact fun d F' σ' H' s' k h => p d F' σ' H' (s.trans s') k h
def SimS (B : Bs) (W : WX) (t : TS) (m : M Fl) : Prop := ∀ ρ w r, m ρ w = some r → ∀ F σ H, Ok B F ρ w σ H → ∀ Dn, PostS B W r F Dn → t Dn σ H
structure SS (X : Cx) (B : Bs) (W : WX) (st : Stmt) (t : TS) (m : M Fl) : Prop where
  ps : PS X st t
  sim : SimS B W t m
structure SB (X : Cx) (B : Bs) (W : WX) (sts : List Stmt) (t : TS) (m : M Fl) : Prop where
  pss : PSs X sts t
  sim : SimS B W t m
/-- an expression, then what is done with its value -/
theorem SimS.of {α β : Type} {B : Bs} {W : WX} {R : Hp → β → α → Prop} {te : TX β} {me : M α} {k : α → M Fl} {tk : Ends → β → L2.St → Hp → Prop} (h : Sim B W R te me)
    (hk : ∀ a ρ w r, k a ρ w = some r → ∀ b F σ H, Ok B F ρ w σ H → R F b a → ∀ Dn, PostS B W r F Dn → tk Dn b σ H) : SimS B W (fun Dn σ H => te σ H fun b H1 => tk Dn b σ H1) (bnd me k) := by
  intro ρ w r hr F σ H ok Dn p
  unfold bnd at hr
  cases hm : me ρ w with
  | none => rw [hm] at hr; cases hr
  | some r1 =>
    rw [hm] at hr
    cases r1 with
    | ok a ρ1 w1 => exact h ρ w _ hm F σ H ok _ fun b F' H' s ok' hR => hk a ρ1 w1 r hr b F' σ H' ok' hR Dn (p.imp s)
    | exc x ρ1 w1 =>
      cases hr
      exact h ρ w _ hm F σ H ok _ fun d F' H' s ok' hx => p d F' σ H' s ok' hx
section
variable {X : Cx} {Kf : PySem.W.Frag} {B : Bs} {W : WX} {n : Nat} {a b c e : Expr} {es : List Expr} {ta tb tc te : TE} {ma mb mc me : M D} {pos p p2 : Pos} {ts : TA} {ms : M (List D)} {x : Str} {st : Stmt} {sts : List Stmt} {t u : TS} {m k : M Fl}
/-! ### blocks -/
def mSeq (m k : M Fl) : M Fl := bnd m fun
  | .nx => k
  | f => ret f
theorem sb_nil : SB X B W [] tNext (ret .nx) := ⟨pss_nil, fun ρ w r hr F σ H ok Dn p => by
  cases hr
  exact p F σ H (Sub.refl F) ok⟩
theorem sb_cons (h : SS X B W st t m) (g : SB X B W sts u k) : SB X B W (st :: sts) (tSeq t u) (mSeq m k) := ⟨pss_cons h.ps g.pss, fun ρ w r hr F σ H ok Dn p => by
  unfold mSeq bnd at hr
  cases hm : m ρ w with
  | none => rw [hm] at hr; cases hr
  | some r1 =>
    rw [hm] at hr
    refine h.sim ρ w r1 hm F σ H ok _ ?_
    cases r1 with
    | exc x ρ1 w1 => cases hr; exact fun d F' σ' H' s ok' hx => p d F' σ' H' s ok' hx
    | ok f ρ1 w1 =>
      cases f with
      | nx => exact fun F' σ' H' s ok' => g.sim ρ1 w1 r hr F' σ' H' ok' Dn (p.imp s)
      | br => cases hr; exact p
      | ct => cases hr; exact p
      | rt d => cases hr; exact p⟩
theorem sb_one (h : SS X B W st t m) : SB X B W [st] t m := ⟨pss_one h.ps, h.sim⟩
/-! ### small statements -/
theorem ss_pass : SS X B W (.Pass pos) tNext (ret .nx) := ⟨ps_pass, fun ρ w r hr F σ H ok Dn p => by
  cases hr
  exact p F σ H (Sub.refl F) ok⟩
theorem ss_break : SS X B W (.Break pos) tBreak (ret .br) := ⟨ps_break, fun ρ w r hr F σ H ok Dn p => by
  cases hr
  exact p F σ H (Sub.refl F) ok⟩
theorem ss_continue : SS X B W (.Continue pos) tCont (ret .ct) := ⟨ps_continue, fun ρ w r hr F σ H ok Dn p => by
  cases hr
  exact p F σ H (Sub.refl F) ok⟩
def mDrop (me : M D) : M Fl := bnd me fun _ => ret .nx
theorem ss_expr (h : SE X B W e te me) (hs : swapsWith e none pos.line X.env = pure false := by rfl) : SS X B W (.Expr e pos) (tDrop te) (mDrop me) := ⟨ps_expr h.pe hs, .of (k := fun _ => ret .nx) (tk := fun Dn _ σ H1 => Dn.nx σ H1) h.sim fun d ρ w r hr v F σ H ok rv Dn p => by
  cases hr
  exact p F σ H (Sub.refl F) ok⟩
def mRet (me : M D) : M Fl := bnd me fun d => ret (.rt d)
theorem ss_ret (h : SE X B W e te me) : SS X B W (.Return (some e) pos) (tRet te) (mRet me) := ⟨ps_ret h.pe, .of (k := fun d => ret (.rt d)) (tk := fun Dn v _ H1 => Dn.rt v H1) h.sim fun d ρ w r hr v F σ H ok rv Dn p => by
  cases hr
  exact p v F σ H (Sub.refl F) ok rv⟩
theorem ss_ret0 : SS X B W (.Return none pos) tRetN (ret (.rt .non)) := ⟨ps_retN, fun ρ w r hr F σ H ok Dn p => by
  cases hr
  exact p .non F σ H (Sub.refl F) ok .non⟩
/-! ### assignments -/
def setS (i : Nat) (d : D) : M Fl := fun ρ w => some (.ok .nx (ρ.set i (.val d)) w)
def mSet (i : Nat) (me : M D) : M Fl := bnd me fun d => setS i d
theorem sim_set {i : Nat} (h : Sim B W (RV B) te me) : SimS B W (tAsg te (gName i)) (mSet i me) :=
  .of (k := fun d => setS i d) (tk := fun Dn v σ H1 => Dn.nx (σ.set i (some v)) H1) h fun d ρ w r hr v F σ H ok rv Dn p => by
    cases hr
    exact p F _ H (Sub.refl F) (ok.setV i rv)
theorem ss_set {i : Nat} {pos' : Pos} (q : Cq Kf X B W n) (h : SE X B W e te me) (hi : X.N[i]? = some x := by rfl) (hx : Loc X.env.scope x := by first | exact Or.inl rfl | exact Or.inr rfl) (hs : swapsWith e (some (.Name x pos')) pos.line X.env = pure false := by rfl) (hf : X.fn x = true ∨ X.env.scope.names.lookup x = some .local := by first | exact .inl rfl | exact .inr rfl) :
    SS X B W (.Assign [.Name x pos'] e pos) (tAsg te (gName i)) (mSet i me) := by
  cases q.hX
  exact ⟨ps_set q.nd hi hx h.pe hs hf, sim_set h.sim⟩
def mAsg (me : M D) (bd : D → Rho → Option Rho) : M Fl := bnd me fun d ρ w => (bd d ρ).map fun ρ' => .ok .nx ρ' w
theorem ss_asg {tg : Expr} {g : TG} {vs : List Nat} {bd : D → Rho → Option Rho} (h : SE X B W e te me) (hg : SG X B vs tg g bd) (hs : swapsWithSole [tg] e pos.line X.env = pure false := by rfl) (hw : swappedStores [tg] e X.env = pure none := by rfl) (h1 : (assignEach [tg] X.env).map (·.2) = [assign tg X.env] := by rfl) :
    SS X B W (.Assign [tg] e pos) (tAsg te g) (mAsg me bd) := ⟨ps_asg h.pe hg.pg hs hw h1, .of (k := fun d ρ w => (bd d ρ).map fun ρ' => Rs.ok Fl.nx ρ' w) (tk := fun Dn v σ H1 => g v σ H1 Dn.nx) h.sim fun d ρ w r hr v F σ H ok rv Dn p => by
  cases hb : bd d ρ with
  | none => rw [hb] at hr; cases hr
  | some ρ' =>
    rw [hb] at hr
    cases hr
    exact hg.sim d ρ ρ' hb F w σ H v ok rv _ fun σ' _ ok' => p F σ' H (Sub.refl F) ok'⟩
def kPar (i j : Nat) : List D → M Fl
  | [d, d'] => fun ρ w => some (.ok .nx ((ρ.set i (.val d)).set j (.val d')) w)
  | _ => fun _ _ => none
def mPar (i j : Nat) (ms : M (List D)) : M Fl := bnd ms (kPar i j)
theorem ss_par {i j : Nat} {y : Str} {px py pt : Pos} {kt k2 pt2} (q : Cq Kf X B W n) (hs : SA X B W [a, b] ts ms) (hi : X.N[i]? = some x := by rfl) (hj : X.N[j]? = some y := by rfl) (hij : i ≠ j := by decide) (hx : X.env.scope.names.lookup x = some .local := by rfl) (hy : X.env.scope.names.lookup y = some .local := by rfl)
    (hw : swappedStores [.Tuple [.Name x px, .Name y py] kt pt] (.Tuple [a, b] k2 pt2) X.env = pure (some [x, y]) := by rfl) (hsw : swapsWithSole [.Tuple [.Name x px, .Name y py] kt pt] (.Tuple [a, b] k2 pt2) pos.line X.env = pure false := by rfl) :
    SS X B W (.Assign [.Tuple [.Name x px, .Name y py] kt pt] (.Tuple [a, b] k2 pt2) pos) (tPar i j ts) (mPar i j ms) := by
  cases q.hX
  exact ⟨ps_par q.calm q.nd hi hj hij hx hy hs.pa hw hsw, .of (k := kPar i j) (tk := fun Dn vs σ H1 => ∃ v w, vs = [v, w] ∧ Dn.nx ((σ.set i (some v)).set j (some w)) H1) hs.sim fun ds ρ w r hr vs F σ H ok rs Dn p => by
  unfold kPar at hr
  split at hr
  · cases hr
    obtain ⟨u1, u2, e, r1, r2⟩ := rs.two
    subst e
    exact ⟨u1, u2, rfl, p F _ H (Sub.refl F) ((ok.setV i r1).setV j r2)⟩
  · cases hr⟩
/-- n += e, ints -/
def mAug (i : Nat) (me : M D) : M Fl := fun ρ w => match ρ[i]? with
  | some (.val (.int x)) => bnd me (kInt fun y => setS i (.int (x + y))) ρ w
  | _ => none
theorem ss_augI {i : Nat} {pos' : Pos} (q : Cq Kf X B W n) (h : SE X B W e te me) (hi : X.N[i]? = some x := by rfl) (hx : Loc X.env.scope x := by first | exact Or.inl rfl | exact Or.inr rfl) (hf : X.fn x = true ∨ X.env.scope.names.lookup x = some .local := by first | exact .inl rfl | exact .inr rfl) :
    SS X B W (.AugAssign (.Name x pos') .Add e pos) (tAug i te (ipI fun i j => i + j)) (mAug i me) := by
  cases q.hX
  exact ⟨ps_aug q.nd hi hx h.pe ip_add hf, fun ρ w r hr F σ H ok Dn p => by
  unfold mAug at hr
  split at hr
  · rename_i z hz
    obtain ⟨v, h1, h2⟩ := ok.val i _ hz
    cases h2
    refine ⟨.int z, h1, ?_⟩
    exact SimS.of (k := kInt fun y => setS i (.int (z + y))) (tk := fun Dn y σ H1 => ∃ i' j, V.int z = V.int i' ∧ y = V.int j ∧ Dn.nx (σ.set i (some (V.int (i' + j)))) H1) h.sim (fun d ρ w r hr v F σ H ok rv Dn p => by
      obtain ⟨y, e1, hr2⟩ := kInt_some hr
      clear hr
      subst e1
      cases hr2
      cases rv
      exact ⟨z, y, rfl, rfl, p F _ H (Sub.refl F) (ok.setV i (.int _))⟩) ρ w r hr F σ H ok Dn p
  · cases hr⟩
/-! ### if -/
theorem ss_if {tc : TT} {mc : M Bool} {as bs : List Stmt} {t u : TS} {m k : M Fl} (hc : ST X B W c tc mc) (ha : SB X B W as t m) (hb : SB X B W bs u k) : SS X B W (.If c as bs pos) (tIfS tc t u) (mIte mc m k) := ⟨ps_if hc.pt ha.pss hb.pss, .of (k := fun c => if c = true then m else k) (tk := fun Dn b σ H1 => if b = true then t Dn σ H1 else u Dn σ H1) hc.sim fun d ρ w r hr b F σ H ok e Dn p => by
  cases e
  cases d with
  | true =>
    rw [if_pos rfl] at hr ⊢
    exact ha.sim ρ w r hr F σ H ok Dn p
  | false =>
    rw [if_neg Bool.false_ne_true] at hr ⊢
    exact hb.sim ρ w r hr F σ H ok Dn p⟩
/-! ### for -/
def forL (bd : D → Rho → Option Rho) (mb : M Fl) : List D → M Fl
  | [], ρ, w => some (.ok .nx ρ w)
  | d :: ds, ρ, w =>
    match bd d ρ with
    | none => none
    | some ρ0 =>
      match mb ρ0 w with
      | some (.ok .nx ρ1 w1) => forL bd mb ds ρ1 w1
      | some (.ok .ct ρ1 w1) => forL bd mb ds ρ1 w1
      | some (.ok .br ρ1 w1) => some (.ok .nx ρ1 w1)
      | some (.ok (.rt d') ρ1 w1) => some (.ok (.rt d') ρ1 w1)
      | some (.exc x ρ1 w1) => some (.exc x ρ1 w1)
      | none => none
def mFor (mi : M (List D)) (bd : D → Rho → Option Rho) (mb : M Fl) : M Fl := bnd mi fun ds => forL bd mb ds
theorem sim_for {tg : Expr} {wi : TI} {g : TG} {tb : TS} {mi : M (List D)} {bd : D → Rho → Option Rho} {mb : M Fl} {vs : List Nat} (hi : Sim B W (Walk B) wi mi)
    (hg : ∀ d ρ ρ', bd d ρ = some ρ' → ∀ F w σ H v, Ok B F ρ w σ H → Rp B.K F v d → ∀ Q : L2.St → Hp → Prop, (∀ σ', Ok B F ρ' w σ' H → Q σ' H) → g v σ H Q) (hb : SimS B W tb mb) : SimS B W (tFor wi g tb) (mFor mi bd mb) :=
  .of (k := fun ds => forL bd mb ds) (tk := fun Dn (J : It) σ H1 => ∃ W : Nat → Nat → L2.St → Hp → Prop, (∃ m, W 0 m σ H1) ∧ ∀ i m σ H, W i m σ H →
    (J.stop i H ∧ Dn.nx σ H) ∨ (J.go i H ∧ ∃ N : L2.St → Hp → Prop, (∀ σ' H', N σ' H' → ∃ m', m' < m ∧ W (i + 1) m' σ' H') ∧ ∀ x H', J.yld i H x H' → g x σ H' fun σ2 H2 => tb { Dn with nx := N, ct := N, bk := Dn.nx } σ2 H2)) hi fun ds ρ w r hr J F σ H ok wk Dn p => by
    refine ⟨fun i m σ' H' => ∃ F' ρ' w', m = ds.length - i ∧ i ≤ ds.length ∧ Sub F F' ∧ Ok B F' ρ' w' σ' H' ∧ forL bd mb (ds.drop i) ρ' w' = some r, ⟨ds.length, F, ρ, w, rfl, Nat.zero_le _, Sub.refl F, ok, hr⟩, ?_⟩
    rintro i m σ' H' ⟨F', ρ', w', rfl, hi', sF, ok', hrest⟩
    by_cases hlt : i < ds.length
    · refine .inr ?_
      obtain ⟨_, hgo⟩ := wk i F' _ _ _ _ sF B rfl ok'
      obtain ⟨go, hy⟩ := hgo _ (List.getElem?_eq_getElem hlt)
      refine ⟨go, fun σ'' H'' => ∃ F'' ρ'' w'', Sub F F'' ∧ Ok B F'' ρ'' w'' σ'' H'' ∧ forL bd mb (ds.drop (i + 1)) ρ'' w'' = some r, fun σ'' H'' ⟨F'', ρ'', w'', q1, q2, q3⟩ => ⟨ds.length - (i + 1), by omega, F'', ρ'', w'', rfl, hlt, q1, q2, q3⟩, fun x Hy yl => ?_⟩
      obtain ⟨F2, s2, ok2, rx⟩ := hy x Hy yl
      rw [List.drop_eq_getElem_cons hlt] at hrest
      unfold forL at hrest
      cases hbd : bd ds[i] ρ' with
      | none => rw [hbd] at hrest; cases hrest
      | some ρ0 =>
        rw [hbd] at hrest
        dsimp only at hrest
        refine hg _ _ ρ0 hbd F2 w' σ' Hy x ok2 rx _ fun σ2 ok3 => ?_
        cases hm : mb ρ0 w' with
        | none => rw [hm] at hrest; cases hrest
        | some r1 =>
          rw [hm] at hrest
          refine hb ρ0 w' r1 hm F2 σ2 Hy ok3 _ ?_
          have sF2 : Sub F F2 := sF.trans s2
          cases r1 with
          | exc z ρ1 w1 =>
            cases hrest
            exact p.imp sF2
          | ok f ρ1 w1 =>
            cases f with
            | nx => exact fun F3 σ3 H3 s3 ok4 => ⟨F3, ρ1, w1, sF2.trans s3, ok4, hrest⟩
            | ct => exact fun F3 σ3 H3 s3 ok4 => ⟨F3, ρ1, w1, sF2.trans s3, ok4, hrest⟩
            | br =>
              cases hrest
              exact fun F3 σ3 H3 s3 ok4 => p F3 σ3 H3 (sF2.trans s3) ok4
            | rt d =>
              cases hrest
              exact fun v F3 σ3 H3 s3 ok4 rv => p v F3 σ3 H3 (sF2.trans s3) ok4 rv
    · have ei : i = ds.length := by omega
      subst ei
      rw [List.drop_length] at hrest
      cases hrest
      obtain ⟨hst, _⟩ := wk ds.length F' _ _ _ _ sF B rfl ok'
      exact .inl ⟨hst (Nat.le_refl _), p F' σ' H' sF ok'⟩
theorem ss_for {tg iter : Expr} {body : List Stmt} {wi : TI} {g : TG} {tb : TS} {mi : M (List D)} {bd : D → Rho → Option Rho} {mb : M Fl} {vs : List Nat} (q : Cq Kf X B W n) (hp : PassesOwn (model X.prog X.w) X.A X.env X.xe) (hi : SI X B W tg iter wi mi) (hg : SG X B vs tg g bd) (hb : SB X B W body tb mb)
    (hs : ∀ x, foldedSetIterable iter X.env x = pure x := by intro _; rfl) : SS X B W (.For tg iter body [] pos) (tFor wi g tb) (mFor mi bd mb) := by
  cases q.hX
  exact ⟨ps_for hp q.calm hi.pi hg.pg hb.pss hs, sim_for (tg := tg) (vs := vs) hi.sim (fun d ρ ρ' h F w σ H v ok rv Q k => hg.sim d ρ ρ' h F w σ H v ok rv Q fun σ' _ ok' => k σ' ok') hb.sim⟩
/-! ### while -/
def whileL (mc : M Bool) (mb : M Fl) : Nat → M Fl
  | 0, _, _ => none
  | f + 1, ρ, w =>
    match mc ρ w with
    | some (.ok true ρ0 w0) =>
      match mb ρ0 w0 with
      | some (.ok .nx ρ1 w1) => whileL mc mb f ρ1 w1
      | some (.ok .ct ρ1 w1) => whileL mc mb f ρ1 w1
      | some (.ok .br ρ1 w1) => some (.ok .nx ρ1 w1)
      | some (.ok (.rt d') ρ1 w1) => some (.ok (.rt d') ρ1 w1)
      | some (.exc x ρ1 w1) => some (.exc x ρ1 w1)
      | none => none
    | some (.ok false ρ0 w0) => some (.ok .nx ρ0 w0)
    | some (.exc x ρ0 w0) => some (.exc x ρ0 w0)
    | none => none
theorem sim_while {tc : TT} {tb : TS} {mc : M Bool} {mb : M Fl} {f : Nat} (hc : Sim B W RB tc mc) (hb : SimS B W tb mb) : SimS B W (tWhile tc tb) (whileL mc mb f) := by
  intro ρ w r hr F σ H ok Dn p
  refine ⟨fun m σ' H' => ∃ F' ρ' w', Sub F F' ∧ Ok B F' ρ' w' σ' H' ∧ whileL mc mb m ρ' w' = some r, ⟨f, F, ρ, w, Sub.refl F, ok, hr⟩, ?_⟩
  rintro m σ' H' ⟨F', ρ', w', sF, ok', hrest⟩
  cases m with
  | zero => cases hrest
  | succ m =>
    unfold whileL at hrest
    cases h1 : mc ρ' w' with
    | none => rw [h1] at hrest; cases hrest
    | some r1 =>
      rw [h1] at hrest
      refine hc ρ' w' r1 h1 F' σ' H' ok' _ ?_
      cases r1 with
      | exc z ρ1 w1 =>
        cases hrest
        exact fun d F2 H2 s2 ok2 hx => p d F2 σ' H2 (sF.trans s2) ok2 hx
      | ok b ρ1 w1 =>
        intro b' F2 H2 s2 ok2 e
        cases e
        have sF2 := sF.trans s2
        cases b with
        | true =>
          rw [if_pos rfl]
          dsimp only at hrest
          refine ⟨fun σ3 H3 => ∃ F3 ρ3 w3, Sub F F3 ∧ Ok B F3 ρ3 w3 σ3 H3 ∧ whileL mc mb m ρ3 w3 = some r, fun σ3 H3 ⟨F3, ρ3, w3, q1, q2, q3⟩ => ⟨m, Nat.lt_succ_self m, F3, ρ3, w3, q1, q2, q3⟩, ?_⟩
          cases h2 : mb ρ1 w1 with
          | none => rw [h2] at hrest; cases hrest
          | some r2 =>
            rw [h2] at hrest
            refine hb ρ1 w1 r2 h2 F2 σ' H2 ok2 _ ?_
            cases r2 with
            | exc z ρ3 w3 =>
              cases hrest
              exact p.imp sF2
            | ok fl ρ3 w3 =>
              cases fl with
              | nx => exact fun F3 σ3 H3 s3 ok3 => ⟨F3, ρ3, w3, sF2.trans s3, ok3, hrest⟩
              | ct => exact fun F3 σ3 H3 s3 ok3 => ⟨F3, ρ3, w3, sF2.trans s3, ok3, hrest⟩
              | br =>
                cases hrest
                exact fun F3 σ3 H3 s3 ok3 => p F3 σ3 H3 (sF2.trans s3) ok3
              | rt d =>
                cases hrest
                exact fun v F3 σ3 H3 s3 ok3 rv => p v F3 σ3 H3 (sF2.trans s3) ok3 rv
        | false =>
          rw [if_neg
                Bool.false_ne_true]
          cases hrest
          exact p F2 σ' H2 sF2 ok2
theorem ss_while {tc : TT} {mc : M Bool} {body : List Stmt} {tb : TS} {mb : M Fl} (f : Nat) (hp : PassesOwn (model X.prog X.w) X.A X.env X.xe) (hc : ST X B W c tc mc) (hb : SB X B W body tb mb) : SS X B W (.While c body [] pos) (tWhile tc tb) (whileL mc mb f) := ⟨ps_while hp hc.pt hb.pss, sim_while hc.sim hb.sim⟩
end
end DL
set_option Elab.async false
set_option linter.all false
set_option maxRecDepth 100000
set_option
      maxHeartbeats 4000000
/-! DLJ: a def by its body; lists of one's own; methods. -/
namespace DL
open PySem PySem.Spec PyProof.Rows L2 RZ
variable [Tbs]
/-! ### a def by its body -/
/-- what a body m over nn slots makes of k arguments -/
def gOf (k nn : Nat) (m : M Fl) : Fn1 := fun ds w =>
  if ds.length = k then
    match m (ds.map .val ++ List.replicate (nn - k) .free) w with
    | some (.ok .nx _ w') => some (.ok .non w')
    | some (.ok (.rt d) _ w') => some (.ok d w')
    | some (.exc x _ w') => some (.exc x w')
    | _ => none
  else none
theorem ok_start {K : PySem.W.Frag} {F H : Hp} {w : Wo} {vs : List V} {ds : List D} {N : List Str} (s : Sub F H) (k : WdOk F H w) (tb : LamX.Tabs Tbs.T H) (nt : ∀ b ps, F b ≠ some (.tbl ps)) (r : RpAll K F vs ds) (hl : vs.length ≤ N.length) : Ok ⟨K, H, F, w⟩ F (ds.map .val ++ List.replicate (N.length - ds.length) .free) w (L2.start N vs) H := by
  have hv := r.length
  refine ⟨s, Goes.refl H F w, k, ?_, fun i d e => ?_, fun i d e => ?_, fun i j a di dj e => ?_, tb, nt⟩
  · unfold L2.start
    simp only [List.length_append, List.length_map, List.length_replicate]
    omega
  · by_cases hi : i < ds.length
    · rw [List.getElem?_append_left (by simpa using hi), List.getElem?_map] at e
      cases q : ds[i]? with
      | none => rw [q]
            at e; cases e
      | some d' =>
        rw [q] at e
        cases e
        obtain ⟨v, h1, h2⟩ := r.get q
        refine ⟨v, ?_, h2⟩
        unfold L2.start
        rw [List.getElem?_append_left (by rw [List.length_map]; omega), List.getElem?_map, h1]
        rfl
    · rw [List.getElem?_append_right (by simpa using hi), List.getElem?_replicate] at e
      split at e <;> cases e
  · exfalso
    by_cases hi : i < ds.length
    · rw [List.getElem?_append_left (by simpa using hi), List.getElem?_map] at e
      cases q : ds[i]? with
      | none => rw [q]
            at e; cases e
      | some d' => rw [q] at e; cases e
    · rw [List.getElem?_append_right (by simpa using hi), List.getElem?_replicate] at e
      split at e <;> cases e
  · exfalso
    by_cases hi : i < ds.length
    · rw [List.getElem?_append_left (by simpa using hi), List.getElem?_map] at e
      cases q : ds[i]? with
      | none => rw [q]
            at e; cases e
      | some d' => rw [q] at e; cases e
    · rw [List.getElem?_append_right (by simpa using hi), List.getElem?_replicate] at e
      split at e <;> cases e
section
variable {P : Program} {wd : World} {K : PySem.W.Frag} {mg : Str → Option Value} {base : Heap}
/-- the context of a body -/
structure Body (K : PySem.W.Frag) (X : Cx) (B : Bs) (W : WX) (n : Nat) : Prop where
  q : Cq K X B W n
  pw : PassesOwn (model X.prog X.w) X.A X.env X.xe
/-- as the kit's okX, the code being the def's own -/
theorem okC {x qual : Str} {st : Stmt} {f : Addr} {fd : FuncData} {N ps : List Str} {k : Nat} {sp : Sp} (F : Fun K x qual st f fd) (S : FnScope N ps (defScope st)) (len : ∀ vs H Q E, sp vs H Q E → vs.length = ps.length)
    (hbody : ∀ (cdv : Value), fd.code = cdv → ∀ (A : Around) (outer : List Env) (s : Shared) (H : Hp) (vs : List V) (Q : VK) (E : XK), Room k (A.deeper (envOfC qual (defScope st) s.heap.objs.size f cdv)) → sp vs H Q E →
      ∃ t, PSs (cxOf (L2.CX P wd) P wd K mg base N qual (defScope st) f cdv A outer s H E) (defBody st) t ∧ t { nx := fun _ H' => Q .non H', rt := Q } (start N vs) H) : FnOk P wd K mg base (L2.CX P wd) (k + 1) f fd ps sp := by
  obtain ⟨oc, od, kV, doc, pm, an,
        cdv, ct, osl, rfl, lk, hcd⟩ := F.ex
  exact fn_of lk hcd S len fun A outer s H vs Q E hr hsp => hbody cdv rfl A outer s H vs Q E hr hsp
theorem fnc_ofC {x qual : Str} {st : Stmt} {f : Addr} {fd : FuncData} {N ps : List Str} {n : Nat} {m : M Fl} (F : Fun K x qual st f fd) (S : FnScope N ps (defScope st)) (hm : mg x = some (.ref f)) (hb : Binds K fd ps [])
    (body : ∀ (cdv : Value), fd.code = cdv → ∀ (A : Around) (outer : List Env) (s : Shared) (H : Hp) (E : XK), ∃ t, ∀ B : Bs, Body K (cxOf (L2.CX P wd) P wd K mg base N qual (defScope st) f cdv A outer s H E) B (fun cls d _ H => E cls d H) n →
      SB (cxOf (L2.CX P wd) P wd K mg base N qual (defScope st) f cdv A outer s H E) B (fun cls d _ H => E cls d H) (defBody st) t m) : Fnc P wd K mg base (n + 1) x ps.length (gOf ps.length N.length m) := by
  have hpl : ps.length ≤ N.length := by
    have e := congrArg List.length S.pre
    rw [List.length_take] at e
    omega
  refine ⟨f, fd, ps, hm, F.kp, hb, okC F S (fun vs H Q E h => ?_) (fun cdv hcd A outer s H vs Q E hr h => ?_)⟩
  · obtain ⟨_, _, _, _, h, _⟩ := h
    exact h
  · obtain ⟨Fz, ds, w, r, hk, hs, hw, htb, hnt, rs, hg, post⟩ := h
    have hds : ds.length = ps.length := by rw [← rs.length]; exact hk
    obtain ⟨t, hbd⟩ := body cdv hcd A outer s H E
    have hbd := hbd ⟨K, H, Fz, w⟩ ⟨⟨rfl, rfl, takes_of rfl rfl rfl rfl, hr, rfl, S.nd⟩, passes_of rfl⟩
    refine ⟨t, hbd.pss, ?_⟩
    have ok0 : Ok ⟨K, H, Fz, w⟩ Fz (ds.map .val ++ List.replicate (N.length - ds.length) .free) w (L2.start N vs) H := ok_start hs hw htb hnt rs (by omega)
    unfold gOf at hg
    rw [if_pos hds] at hg
    rw [hds] at ok0
    cases hm0 : m (ds.map .val ++ List.replicate (N.length - ps.length) .free) w with
    | none => rw [hm0] at hg; cases hg
    | some r0 =>
      rw [hm0] at hg
      refine hbd.sim _ w r0 hm0 Fz _ H ok0 _ ?_
      cases r0 with
      | exc x ρ' w' =>
        cases hg
        exact fun d F' σ' H' _ ok' hx => post d F' H' ok'.sub ok'.wd ok'.go hx
      | ok fl ρ' w' =>
        cases fl with
        | nx =>
          cases hg
          exact fun F' σ' H' _ ok' => post .non F' H' ok'.sub ok'.wd ok'.go .non
        | rt d =>
          cases hg
          exact fun v F' σ' H' _ ok' rv => post v F' H' ok'.sub ok'.wd ok'.go rv
        | br => cases hg
        | ct => cases hg
theorem fnc_of {x qual : Str} {st : Stmt} {f : Addr} {fd : FuncData} {N ps : List Str} {n : Nat} {m : M Fl} (F : Fun K x qual st f fd) (S : FnScope N ps (defScope st)) (hm : mg x = some (.ref f)) (hb : Binds K fd ps [])
    (body : ∀ (cdv : Value) (A : Around) (outer : List Env) (s : Shared) (H : Hp) (E : XK), ∃ t, ∀ B : Bs, Body K (cxOf (L2.CX P wd) P wd K mg base N qual (defScope st) f cdv A outer s H E) B (fun cls d _ H => E cls d H) n →
      SB (cxOf (L2.CX P wd) P wd K mg base N qual (defScope st) f cdv A outer s H E) B (fun cls d _ H => E cls d H) (defBody st) t m) : Fnc P wd K mg base (n + 1) x ps.length (gOf ps.length N.length m) :=
  fnc_ofC F S hm hb fun cdv _ A outer s H E => body cdv A outer s H E
/-- from nothing: no promise -/
theorem fnc_zero {x qual : Str} {st : Stmt} {f : Addr} {fd : FuncData} {ps : List Str} (F : Fun K x qual st f fd) (hm : mg x = some (.ref f)) (hb : Binds K fd ps []) : Fnc P wd K mg base 0 x ps.length (fun _ _ => none) :=
  ⟨f, fd, ps, hm, F.kp, hb, ⟨fun vs H Q E h => by
    obtain ⟨_, _, _, _, h, _⟩ := h
    exact h, fun A outer s H args us vs Q E hr he hbt hv h => by
    obtain ⟨_, _, _, _, _, _, _, _, _, _, hg, _⟩ := h
    cases hg⟩⟩
end

section
variable {X : Cx} {Kf : PySem.W.Frag} {B : Bs} {W : WX} {n : Nat} {a b c e : Expr} {es : List Expr} {ta tb tc te : TE} {ma mb mc me : M D} {pos p p2 apos : Pos} {ts : TA} {ms : M (List D)} {x : Str}
/-! ### new lists that may still change -/
def nLst (ms : M (List D)) : M (List D) := bnd ms fun ds => if ds.length ≤ 100000 then ret ds else fun _ _ => none
theorem sn_lst (hs : SA X B W es ts ms) : SN X B W (.List es pos) (tLst ts) (nLst ms) := ⟨pe_lst hs.pa, fun ρ w r hr F σ H ok Q p => by
  unfold nLst bnd at hr
  cases hm : ms ρ w with
  | none => rw [hm] at hr; cases hr
  | some r1 =>
    rw [hm] at hr
    refine hs.sim ρ w r1 hm F σ H ok _ ?_
    cases r1 with
    | exc z ρ1 w1 => cases hr; exact p
    | ok ds ρ1 w1 =>
      intro vs F' H' s ok' rs
      dsimp only at hr
      split at hr
      · rename_i hl
        cases hr
        refine ⟨by rw [rs.length]; exact small hl, fun q hq => ?_⟩
        obtain ⟨ok2, nw⟩ := ok'.newL hq rs
        exact p q F' _ s ok2 nw
      · cases hr⟩
/-- list(e): a new one -/
def nList (me : M D) : M (List D) := bnd me fun d => match d with
  | .tup xs => ret xs
  | .lst xs => ret xs
  | _ => fun _ _ => none
theorem sn_list (q : Cq Kf X B W n) (hg : Gl X "list") (hm : X.mg "list" = none) (h : SE X B W e te me) (he : starEach [e] X.env = (false, eval e X.env) :: starEach [] X.env := by rfl) (hpl : (backTo pos (starEach [] X.env)).any (·.1) = false := by rfl) :
    SN X B W (.Call (.Name "list" p) [e] [] pos) (tCB (rListA Kf) (tCons te tNil)) (nList me) := by
  cases q.hX
  exact ⟨pe_callTy call_listA hg hm PyProof.Rows.boot_list (pa_cons h.pe pa_nil he) (by decide) (by decide) he hpl, fun ρ w r hr F σ H ok Q p => by
  unfold nList bnd at hr
  cases hm : me ρ w with
  | none => rw [hm] at hr; cases hr
  | some r1 =>
    rw [hm] at hr
    rw [q.hK]
    refine h.sim ρ w r1 hm F σ H ok _ ?_
    cases r1 with
    | exc z ρ1 w1 => cases hr; exact p
    | ok d ρ1 w1 =>
      intro v F' H' s ok' rv
      dsimp only at hr
      cases d with
      | tup xs =>
        cases hr
        cases rv with
        | tup h1 r1 =>
          refine ⟨_, _, rfl, .inr (ok'.sub.sqP h1).sqT, fun l hl => ?_⟩
          obtain ⟨ok2, nw⟩ := ok'.newL hl r1
          exact p l F' _ s ok2 nw
      | lst xs =>
        cases hr
        cases rv with
        | lst h1 r1 =>
          refine ⟨_, _, rfl, .inl (SqL.of (ok'.sub _ _ h1)), fun l hl => ?_⟩
          obtain ⟨ok2, nw⟩ := ok'.newL hl r1
          exact p l F' _ s ok2 nw
      | _ => cases hr⟩
def setN (i : Nat) (ds : List D) : M Fl := fun ρ w => some (.ok .nx (ρ.set i (.own ds)) w)
theorem ss_setN {i : Nat} {pos' : Pos} {mn : M (List D)} (q : Cq Kf X B W n) (h : SN X B W e te mn) (hi : X.N[i]? = some x := by rfl) (hx : Loc X.env.scope x := by first | exact Or.inl rfl | exact Or.inr rfl) (hs : swapsWith e (some (.Name x pos')) pos.line X.env = pure false := by rfl) (hf : X.fn x = true ∨ X.env.scope.names.lookup x = some .local := by first | exact .inl rfl | exact .inr rfl) :
    SS X B W (.Assign [.Name x pos'] e pos) (tAsg te (gName i)) (bnd mn fun ds => setN i ds) := by
  cases q.hX
  exact ⟨ps_set q.nd hi hx h.pe hs hf, fun ρ w r hr F σ H ok Dn p => by
  unfold bnd at hr
  cases hm : mn ρ w with
  | none => rw [hm] at hr; cases hr
  | some r1 =>
    rw [hm] at hr
    refine h.sim ρ w r1 hm F σ H ok _ ?_
    cases r1 with
    | exc z ρ1 w1 => cases hr; exact fun d F' H' s ok' hx => p d F' σ H' s ok' hx
    | ok ds ρ1 w1 =>
      cases hr
      exact fun v F' H' s ok' nw => p F' _ H' s (ok'.setN i nw)⟩
/-! ### y = [.. for ..] -/
theorem ss_setLc {i : Nat} {y : Str} {py spos : Pos} {tg elt iter : Expr} {ifs : List Expr} {scope : Scope} {own : List (Str × Nat)} {wi : TI} {g : TG} {tt : TT} {mi : M (List D)} {bind : D → Rho → Option Rho} {mt : M Bool} {vs : List Nat} (q : Cq Kf X B W n) (hi : SI X B W tg iter wi mi) (ok : BlkOk X.N X.env.scope scope own)
    (hg : ∀ (s : Shared) (H : Hp) (C : Addr) (cl : List (Str × Addr)) (fp : List Addr) (B' : Bs), Kf = B'.K → SG (X.blk s H scope (compEnvC scope cl C X.env) fp) B' vs tg g bind)
    (ht : ∀ (s : Shared) (H : Hp) (C : Addr) (cl : List (Str × Addr)) (fp : List Addr) (B' : Bs), Kf = B'.K → Cq Kf (X.blk s H scope (compEnvC scope cl C X.env) fp) B' W0 n → SF (X.blk s H scope (compEnvC scope cl C X.env) fp) B' W0 ifs tt mt)
    (he : ∀ (s : Shared) (H : Hp) (C : Addr) (cl : List (Str × Addr)) (fp : List Addr) (B' : Bs), Kf = B'.K → Cq Kf (X.blk s H scope (compEnvC scope cl C X.env) fp) B' W0 n → SE (X.blk s H scope (compEnvC scope cl C X.env) fp) B' W0 elt te me)
    (hy : X.N[i]? = some y := by rfl) (hyl : X.env.scope.names.lookup y = some .local := by rfl) (hsw : swapsWith (.ListComp elt [⟨tg, iter, ifs, 0⟩] scope pos) (some (.Name y py)) spos.line X.env = pure true := by rfl)
    (hv : (vs.all fun i => (own.map (·.2)).contains i) = true := by rfl) (hs : ∀ x, foldedSetIterable iter X.env x = pure x := by intro _; rfl) : SS X B W (.Assign [.Name y py] (.ListComp elt [⟨tg, iter, ifs, 0⟩] scope pos) spos) (tAsg (tLc wi g tt te (own.map (·.2))) (gName i)) (mSet i (mLc (own.map (·.2)) mi bind mt me)) := by
  cases q.hX
  have cq : ∀ (s : Shared) (H : Hp) (C : Addr) (cl : List (Str × Addr)) (fp : List Addr) (B' : Bs), X.K = B'.K → Cq X.K (X.blk s H scope (compEnvC scope cl C X.env) fp) B' W0 n := fun s H C cl fp B' e => ⟨rfl, e, takes0, q.hr, q.calm, q.nd⟩
  exact ⟨ps_setLc q.calm q.nd hy hyl hsw hi.pi ok (fun s H C cl fp => (hg s H C cl fp ⟨X.K, fun _ => none, fun _ => none, none⟩ rfl).pg) (fun s H C cl fp => (ht s H C cl fp ⟨X.K, fun _ => none, fun _ => none, none⟩ rfl (cq _ _ _ _ _ _ rfl)).pts) (fun s H C cl fp => (he s H C cl fp ⟨X.K, fun _ => none, fun _ => none, none⟩ rfl (cq _ _ _ _ _ _ rfl)).pe) hs,
    sim_set (se_lc (pos := pos) q hi ok hg ht he hv hs).sim⟩
theorem sim_setN {t : TE} {i : Nat} {mn : M (List D)} (h : SimN B W t mn) : SimS B W (tAsg t (gName i)) (bnd mn fun ds => setN i ds) := fun ρ w r hr F σ H ok Dn p => by
  unfold bnd at hr
  cases hm : mn ρ w with
  | none => rw [hm] at hr; cases hr
  | some r1 =>
    rw [hm] at hr
    refine h ρ w r1 hm F σ H ok _ ?_
    cases r1 with
    | exc z ρ1 w1 => cases hr; exact fun d F' H' s ok' hx => p d F' σ H' s ok' hx
    | ok ds ρ1 w1 =>
      cases hr
      exact fun v F' H' s ok' nw => p F' _ H' s (ok'.setN i nw)
theorem ss_setLcN {i : Nat} {y : Str} {py spos : Pos} {tg elt iter : Expr} {ifs : List Expr} {scope : Scope} {own : List (Str × Nat)} {wi : TI} {g : TG} {tt : TT} {mi : M (List D)} {bind : D → Rho → Option Rho} {mt : M Bool} {vs : List Nat} (q : Cq Kf X B W n) (hi : SI X B W tg iter wi mi) (ok : BlkOk X.N X.env.scope scope own)
    (hg : ∀ (s : Shared) (H : Hp) (C : Addr) (cl : List (Str × Addr)) (fp : List Addr) (B' : Bs), Kf = B'.K → SG (X.blk s H scope (compEnvC scope cl C X.env) fp) B' vs tg g bind)
    (ht : ∀ (s : Shared) (H : Hp) (C : Addr) (cl : List (Str × Addr)) (fp : List Addr) (B' : Bs), Kf = B'.K → Cq Kf (X.blk s H scope (compEnvC scope cl C X.env) fp) B' W0 n → SF (X.blk s H scope (compEnvC scope cl C X.env) fp) B' W0 ifs tt mt)
    (he : ∀ (s : Shared) (H : Hp) (C : Addr) (cl : List (Str × Addr)) (fp : List Addr) (B' : Bs), Kf = B'.K → Cq Kf (X.blk s H scope (compEnvC scope cl C X.env) fp) B' W0 n → SE (X.blk s H scope (compEnvC scope cl C X.env) fp) B' W0 elt te me)
    (hy : X.N[i]? = some y := by rfl) (hyl : X.env.scope.names.lookup y = some .local := by rfl) (hsw : swapsWith (.ListComp elt [⟨tg, iter, ifs, 0⟩] scope pos) (some (.Name y py)) spos.line X.env = pure true := by rfl)
    (hv : (vs.all fun i => (own.map (·.2)).contains i) = true := by rfl) (hs : ∀ x, foldedSetIterable iter X.env x = pure x := by intro _; rfl) : SS X B W (.Assign [.Name y py] (.ListComp elt [⟨tg, iter, ifs, 0⟩] scope pos) spos) (tAsg (tLc wi g tt te (own.map (·.2))) (gName i)) (bnd (nLc (own.map (·.2)) mi bind mt me) fun ds => setN i ds) := by
  cases q.hX
  have cq : ∀ (s : Shared) (H : Hp) (C : Addr) (cl : List (Str × Addr)) (fp : List Addr) (B' : Bs), X.K = B'.K → Cq X.K (X.blk s H scope (compEnvC scope cl C X.env) fp) B' W0 n := fun s H C cl fp B' e => ⟨rfl, e, takes0, q.hr, q.calm, q.nd⟩
  exact ⟨ps_setLc q.calm q.nd hy hyl hsw hi.pi ok (fun s H C cl fp => (hg s H C cl fp ⟨X.K, fun _ => none, fun _ => none, none⟩ rfl).pg) (fun s H C cl fp => (ht s H C cl fp ⟨X.K, fun _ => none, fun _ => none, none⟩ rfl (cq _ _ _ _ _ _ rfl)).pts) (fun s H C cl fp => (he s H C cl fp ⟨X.K, fun _ => none, fun _ => none, none⟩ rfl (cq _ _ _ _ _ _ rfl)).pe) hs,
    sim_setN (sn_lc (pos := pos) q hi ok hg ht he hv hs).sim⟩
/-! ### methods of lists of one's own, named by a slot -/
/-- the receiver: a slot that holds a list of its own; the arguments are reckoned behind it -/
def kMeth (i : Nat) (f : List D → List D → Option (D × List D)) : List D → M D := fun ds ρ w =>
  match ρ[i]? with
  | some (.own l) => (f l ds).map fun z => .ok z.1 (ρ.set i (.own z.2)) w
  | _ => none
def mMeth (i : Nat) (ms : M (List D)) (f : List D → List D → Option (D × List D)) : M D := fun ρ w =>
  match ρ[i]? with
  | some (.own _) => bnd ms (kMeth i f) ρ w
  | _ => none
/-- by values: the list at a becomes another one -/
def MeS (K : PySem.W.Frag) (r : V → List V → Hp → VK → Prop) (f : List D → List D → Option (D × List D)) : Prop :=
  ∀ l ds z, f l ds = some z → ∀ (F H : Hp) a vs us, Sub F H → H a = some (.lst vs) → RpAll K F vs l → RpAll K F us ds → ∀ Q : VK, (∀ v vs', Rp K F v z.1 → RpAll K F vs' z.2 → Q v (upd H a (.lst vs'))) → r (.ref a) us H Q
theorem kMeth_sim {i : Nat} {r : V → List V → Hp → VK → Prop} {f : List D → List D → Option (D × List D)} (hr : MeS B.K r f) {ds : List D} {ρ : Rho} {w : Wo} {res : Rs D} (hres : kMeth i f ds ρ w = some res) {F : Hp} {σ : L2.St} {H : Hp} (ok : Ok B F ρ w σ H)
    {a : Addr} {us : List V} (ha : σ[i]? = some (some (.ref a))) (rs : RpAll B.K F us ds) {Q : VK} (p : Post B W (RV B) res F σ Q) : r (.ref a) us H Q := by
  unfold kMeth at hres
  split at hres
  · rename_i l hl
    cases hz : f l ds with
    | none => rw [hz] at hres; cases hres
    | some z =>
      rw [hz] at hres
      cases hres
      obtain ⟨a', vs, h1, h2, h3, h4, h5, h6⟩ := ok.own i l hl
      rw [ha] at h1
      cases h1
      exact hr l ds z hz F H a vs us ok.sub h2 h6 rs Q fun v vs' rv rvs => p v F _ (Sub.refl F) (ok.change hl ha rvs) rv
  · cases hres
theorem own_at {i : Nat} {ρ : Rho} {l : List D} {F : Hp} {w : Wo} {σ : L2.St} {H : Hp} (ok : Ok B F ρ w σ H) (h : ρ[i]? = some (.own l)) : ∃ (a : Addr) (vs : List V), σ[i]? = some (some (.ref a)) ∧ H a = some (.lst vs) := by
  obtain ⟨a, vs, h1, h2, _⟩ := ok.own i l h
  exact ⟨a, vs, h1, h2⟩
theorem sim_meth {i : Nat} {r : V → List V → Hp → VK → Prop} {f : List D → List D → Option (D × List D)} (hr : MeS B.K r f) (hs : Sim B W (RA B) ts ms) : Sim B W (RV B) (tBM B.K "list" r (tVar i) ts) (mMeth i ms f) := by
  intro ρ w res hres F σ H ok Q p
  unfold mMeth at hres
  split at hres
  · rename_i l hl
    obtain ⟨a, vs, ha, hH⟩ := own_at ok hl
    refine ⟨.ref a, ha, .inl ⟨rfl, _, SqL.of hH⟩, ?_⟩
    unfold bnd at hres
    cases hm : ms ρ w with
    | none => rw [hm] at hres; cases hres
    | some r1 =>
      rw [hm] at hres
      refine hs ρ w r1 hm F σ H ok _ ?_
      cases r1 with
      | exc z ρ1 w1 =>
        cases hres
        exact fun d F' H' s ok' hx => p d F' H' s ok' hx
      | ok ds ρ1 w1 => exact fun us F' H' s ok' rs => kMeth_sim hr hres ok' ha rs (p.imp s)
  · cases hres
theorem sim_meth0 {i : Nat} {r : V → List V → Hp → VK → Prop} {f : List D → List D → Option (D × List D)} (hr : MeS B.K r f) : Sim B W (RV B) (tBM0 B.K "list" r (tVar i)) (mMeth i mNil f) := by
  intro ρ w res hres F σ H ok Q p
  unfold mMeth at hres
  split at hres
  · rename_i l hl
    obtain ⟨a, vs, ha, hH⟩ := own_at ok hl
    exact ⟨.ref a, ha, .inl ⟨rfl, _, SqL.of hH⟩, kMeth_sim (i := i) (ds := []) hr hres ok ha .nil p⟩
  · cases hres
/-! append, extend, pop -/
def appendD (l : List D) : List D → Option (D × List D)
  | [d] => if l.length < 100000 then some (.non, l ++ [d]) else none
  | _ => none
theorem mes_append {K : PySem.W.Frag} : MeS K rAppend appendD := fun l ds z h F H a vs us sub hH r ru Q q => by
  unfold appendD at h
  split at h
  · split at h
    · rename_i hl
      cases h
      obtain ⟨v, e, rv⟩ := ru.one
      subst e
      exact ⟨a, vs, v, rfl, rfl, hH, Nat.lt_of_lt_of_le (by rw [r.length]; exact hl) (small (Nat.le_refl _)), q _ _ .non (r.append (.cons rv .nil))⟩
    · cases h
  · cases h
def extendD (l : List D) : List D → Option (D × List D)
  | [.lst zs] => if l.length + zs.length ≤ 100000 then some (.non, l ++ zs) else none
  | [.tup zs] => if l.length + zs.length ≤ 100000 then some (.non, l ++ zs) else none
  | _ => none
def rExtA (K : PySem.W.Frag) : V → List V → Hp → VK → Prop := fun x vs H Q => rExtend x vs H Q ∨ rExtT K x vs H Q
theorem mt_extA : MtR X "list.extend" (rExtA X.K) := fun pins s σ H x xs v us Q I rx rxs h => h.elim (fun h => mt_extend pins s σ H x xs v us Q I rx rxs h) fun h => mt_extT pins s σ H x xs v us Q I rx rxs h
theorem mes_extend {K : PySem.W.Frag} : MeS K (rExtA K) extendD := fun l ds z h F H a vs us sub hH r ru Q q => by
  unfold extendD at h
  split at h
  · split at h
    · rename_i hl
      cases h
      obtain ⟨v, e, rv⟩ := ru.one
      subst e
      cases rv with
      | lst h1 r1 => exact .inl ⟨a, _, vs, _, rfl, rfl, hH, sub _ _ h1, by rw [r.length, r1.length]; exact small hl, q _ _ .non (r.append r1)⟩
    · cases h
  · split at h
    · rename_i hl
      cases h
      obtain ⟨v, e, rv⟩ := ru.one
      subst e
      cases rv with
      | tup h1 r1 => exact .inr ⟨a, _, vs, _, rfl, rfl, hH, sub.sqP h1, by rw [r.length, r1.length]; exact small hl, q _ _ .non (r.append r1)⟩
    · cases h
  · cases h
def popD (l : List D) : List D → Option (D × List D)
  | [] => (l[l.length - 1]?).map fun y => (y, l.dropLast)
  | _ => none
theorem mes_pop {K : PySem.W.Frag} : MeS K rPop popD := fun l ds z h F H a vs us sub hH r ru Q q => by
  unfold popD at h
  split at h
  · cases hy : l[l.length - 1]? with
    | none => rw [hy] at h; cases h
    | some y =>
      rw [hy] at h
      cases h
      cases ru
      rw [← r.length] at hy
      obtain ⟨v, h1, h2⟩ := r.get hy
      exact ⟨a, vs, v, rfl, rfl, hH, h1, q _ _ h2 r.dropLast⟩
  · cases h
def popAtD (l : List D) : List D → Option (D × List D)
  | [.int i] => if -4294967296 ≤ i ∧ i ≤ 4294967296 then match seqIndex? i l.length with
    | some k => (l[k]?).map fun y => (y, l.eraseIdx k)
    | none => none else none
  | _ => none
theorem mes_popAt {K : PySem.W.Frag} : MeS K rPopAt popAtD := fun l ds z h F H a vs us sub hH r ru Q q => by
  unfold popAtD at h
  split at h
  · split at h
    · rename_i i hi
      cases hk : seqIndex? i l.length with
      | none => rw [hk]
            at h; cases h
      | some k =>
        rw [hk] at h
        dsimp only at h
        cases hy : l[k]? with
        | none => rw [hy] at h; cases h
        | some y =>
          rw [hy] at h
          cases h
          obtain ⟨v, e, rv⟩ := ru.one
          subst e
          cases rv
          obtain ⟨u, h1, h2⟩ := r.get hy
          exact ⟨a, vs, i, k, u, rfl, rfl, hH, by omega, by omega, by rw [r.length]; exact hk, h1, q _ _ h2 (r.eraseIdx k)⟩
    · cases h
  · cases h
theorem se_append {i : Nat} (q : Cq Kf X B W n) (ha : SA X B W [e] ts ms) (hN : X.N[i]? = some x := by rfl) (hv : Vis X.env.scope x := by first | exact Or.inl rfl | exact Or.inr (Or.inl rfl) | exact Or.inr (Or.inr rfl)) (hd : (x == ("__debug__" : Str)) = false := by decide) (hcd : (x == ("__classdict__" : Str)) = false := by decide)
    (hbase : attributeBase (.Name x p) "append" X.env (eval (.Name x p) X.env) = eval (.Name x p) X.env := by rfl) (hfew : ((backTo pos (starEach [e] X.env)).all (fun x => !x.1) && (backToKw pos (keywordEach [] X.env)).all (fun x => x.1.isSome) && decide ([e].length + ([] : List Keyword).length + (if ([] : List Keyword).isEmpty then 0 else 1) < 30)) = true := by rfl)
    (hline : (apos.endLine == pos.line) = true := by rfl) (hs : starEach [e] X.env = (false, eval e X.env) :: starEach [] X.env := by rfl) (hpl : (backTo pos (starEach [] X.env)).any (·.1) = false := by rfl) :
    SE X B W (.Call (.Attribute (.Name x p) "append" apos) [e] [] pos) (tBM Kf "list" rAppend (tVar i) ts) (mMeth i ms appendD) := by
  cases q.hX
  exact ⟨pe_bm PySem.F.plainAttrs_list PySem.F.slot_list_append PySem.F.type_list_append mt_append (pe_var hN hv hd hcd) ha.pa hbase hfew hline hs hpl, by rw [q.hK]; exact sim_meth mes_append ha.sim⟩
theorem se_extend {i : Nat} (q : Cq Kf X B W n) (ha : SA X B W [e] ts ms) (hN : X.N[i]? = some x := by rfl) (hv : Vis X.env.scope x := by first | exact Or.inl rfl | exact Or.inr (Or.inl rfl) | exact Or.inr (Or.inr rfl)) (hd : (x == ("__debug__" : Str)) = false := by decide) (hcd : (x == ("__classdict__" : Str)) = false := by decide)
    (hbase : attributeBase (.Name x p) "extend" X.env (eval (.Name x p) X.env) = eval (.Name x p) X.env := by rfl) (hfew : ((backTo pos (starEach [e] X.env)).all (fun x => !x.1) && (backToKw pos (keywordEach [] X.env)).all (fun x => x.1.isSome) && decide ([e].length + ([] : List Keyword).length + (if ([] : List Keyword).isEmpty then 0 else 1) < 30)) = true := by rfl)
    (hline : (apos.endLine == pos.line) = true := by rfl) (hs : starEach [e] X.env = (false, eval e X.env) :: starEach [] X.env := by rfl) (hpl : (backTo pos (starEach [] X.env)).any (·.1) = false := by rfl) :
    SE X B W (.Call (.Attribute (.Name x p) "extend" apos) [e] [] pos) (tBM Kf "list" (rExtA Kf) (tVar i) ts) (mMeth i ms extendD) := by
  cases q.hX
  exact ⟨pe_bm PySem.F.plainAttrs_list PySem.F.slot_list_extend PySem.F.type_list_extend mt_extA (pe_var hN hv hd hcd) ha.pa hbase hfew hline hs hpl, by rw [q.hK]; exact sim_meth mes_extend ha.sim⟩
theorem se_popAt {i : Nat} (q : Cq Kf X B W n) (ha : SA X B W [e] ts ms) (hN : X.N[i]? = some x := by rfl) (hv : Vis X.env.scope x := by first | exact Or.inl rfl | exact Or.inr (Or.inl rfl) | exact Or.inr (Or.inr rfl)) (hd : (x == ("__debug__" : Str)) = false := by decide) (hcd : (x == ("__classdict__" : Str)) = false := by decide)
    (hbase : attributeBase (.Name x p) "pop" X.env (eval (.Name x p) X.env) = eval (.Name x p) X.env := by rfl) (hfew : ((backTo pos (starEach [e] X.env)).all (fun x => !x.1) && (backToKw pos (keywordEach [] X.env)).all (fun x => x.1.isSome) && decide ([e].length + ([] : List Keyword).length + (if ([] : List Keyword).isEmpty then 0 else 1) < 30)) = true := by rfl)
    (hline : (apos.endLine == pos.line) = true := by rfl) (hs : starEach [e] X.env = (false, eval e X.env) :: starEach [] X.env := by rfl) (hpl : (backTo pos (starEach [] X.env)).any (·.1) = false := by rfl) :
    SE X B W (.Call (.Attribute (.Name x p) "pop" apos) [e] [] pos) (tBM Kf "list" rPopAt (tVar i) ts) (mMeth i ms popAtD) := by
  cases q.hX
  exact ⟨pe_bm PySem.F.plainAttrs_list PySem.F.slot_list_pop PySem.F.type_list_pop mt_popAt (pe_var hN hv hd hcd) ha.pa hbase hfew hline hs hpl, by rw [q.hK]; exact sim_meth mes_popAt ha.sim⟩
theorem se_pop {i : Nat} (q : Cq Kf X B W n) (hN : X.N[i]? = some x := by rfl) (hv : Vis X.env.scope x := by first | exact Or.inl rfl | exact Or.inr (Or.inl rfl) | exact Or.inr (Or.inr rfl)) (hd : (x == ("__debug__" : Str)) = false := by decide) (hcd : (x == ("__classdict__" : Str)) = false := by decide)
    (hbase : attributeBase (.Name x p) "pop" X.env (eval (.Name x p) X.env) = eval (.Name x p) X.env := by rfl) (hline : (apos.endLine == pos.line) = true := by rfl) :
    SE X B W (.Call (.Attribute (.Name x p) "pop" apos) [] [] pos) (tBM0 Kf "list" rPop (tVar i)) (mMeth i mNil popD) := by
  cases q.hX
  exact ⟨pe_bm0 PySem.F.plainAttrs_list PySem.F.slot_list_pop PySem.F.type_list_pop mt_pop (pe_var hN hv hd hcd) hbase hline, by rw [q.hK]; exact sim_meth0 mes_pop⟩
end
end DL
set_option Elab.async false
set_option linter.all false
set_option maxRecDepth 100000
set_option
      maxHeartbeats 4000000
/-! DLK: the drawing source: its fields read and put, its cells. -/
namespace DL
open PySem PySem.Spec PyProof.Rows L2 RZ
variable [Tbs]
theorem Ok.world {B : Bs} {F : Hp} {ρ : Rho} {s s' : Src} {σ : L2.St} {H H' : Hp} (k : Ok B F ρ (some s) σ H) (e1 : s'.sa = s.sa) (e2 : s'.ca = s.ca) (old : ∀ a, a ≠ s.sa → a ≠ s.ca → H' a = H a) (h1 : H' s.sa = some (.dK (srcK s'))) (h2 : H' s.ca = some (.lst (s'.cells.map V.int))) : Ok B F ρ (some s') σ H' := by
  obtain ⟨g1, g2, g3, g4, g5⟩ := k.wd
  have ea : adr (some s') = adr (some s) := by
    show [s'.sa, s'.ca] = [s.sa, s.ca]
    rw [e1, e2]
  have nin : ∀ a, a ∉ adr (some s) → a ≠ s.sa ∧ a ≠ s.ca := fun a h => ⟨fun z => h (by rw [z]; exact List.mem_cons_self), fun z => h (by rw [z]; exact List.mem_cons_of_mem _ List.mem_cons_self)⟩
  have nF : ∀ a o, F a = some o → a ≠ s.sa ∧ a ≠ s.ca := fun a o h => ⟨fun z => (by rw [z, g1] at h; cases h), fun z => (by rw [z, g2] at h; cases h)⟩
  have stay : ∀ {b : Addr} {u : HO}, H b = some u → (∀ kv, u ≠ .dK kv) → (∀ vs, u ≠ .lst vs) → H' b = some u := fun {b u} e x y => by
    rw [old b (fun z => by rw [z, g4] at e; exact x _ (Option.some.inj e).symm) (fun z => by rw [z, g5] at e; exact y _ (Option.some.inj e).symm)]
    exact e
  have tb' : LamX.Tabs Tbs.T H' := fun P hP => by
    obtain ⟨ps, t1, t2, t3⟩ := k.tab P hP
    refine ⟨ps, stay t1 (fun _ z => by cases z) (fun _ z => by cases z), t2, fun pos cv hc => ?_⟩
    obtain ⟨c, q1, q2⟩ := t3 pos cv hc
    exact ⟨c, q1, stay q2 (fun _ z => by unfold LamX.CodeO at z; cases z) (fun _ z => by unfold LamX.CodeO at z; cases z)⟩
  refine ⟨fun a o e => ?_, ⟨k.go.sub, fun a o e n nt => ?_, k.go.frs, fun a h => by rw [ea]; exact k.go.old a h, fun a h => k.go.new a (by rw [← ea]; exact h), fun _ => tb'⟩, ⟨by rw [e1]; exact g1, by rw [e2]; exact g2, by rw [e1, e2]; exact g3, by rw [e1]; exact h1, by rw [e2]; exact h2⟩, k.len, k.val, fun i ds e => ?_, k.inj, tb', k.nt⟩
  · obtain ⟨n1, n2⟩ := nF a o e
    rw [old a n1 n2]
    exact k.sub a o e
  · have w : a ∉ adr (some s) := fun z => by
      rcases k.go.new a z with q | q
      · exact n q
      · exact noTb_no q e nt
    obtain ⟨n1, n2⟩ := nin a w
    rw [old a n1 n2]
    exact k.go.keep a o e n nt
  · obtain ⟨a, vs, q1, q2, q3, q4, q5, q6⟩ := k.own i ds e
    obtain ⟨n1, n2⟩ := nin a q5
    exact ⟨a, vs, q1, by rw [old a n1 n2]; exact q2, q3, q4, by rw [ea]; exact q5, q6⟩
/-- its fields -/
inductive Fd where
  | cells | left | mixed | turn
def Fd.key : Fd → Str
  | .cells => "cells"
  | .left => "left"
  | .mixed => "mixed"
  | .turn => "turn"
def Fd.v (s : Src) : Fd → V
  | .cells => .ref s.ca
  | .left => .int s.left
  | .mixed => .int s.mixed
  | .turn => .int s.turn
def Fd.d (s : Src) : Fd → D
  | .cells => .raw (.ref s.ca)
  | .left => .int s.left
  | .mixed => .int s.mixed
  | .turn => .int s.turn
def Fd.put (s : Src) (i : Int) : Fd → Option Src
  | .cells => none
  | .left => some { s with left := i }
  | .mixed => some { s with mixed := i }
  | .turn => some { s with turn := i }
theorem Fd.rp {K : PySem.W.Frag} {F : Hp} (f : Fd) (s : Src) : Rp K F (f.v s) (f.d s) := by cases f <;> constructor
theorem Fd.at' (f : Fd) (s : Src) : valV (srcK s) (.inr f.key) = some (f.v s) := by
  have h1 : ¬ ((Sum.inr "cells" : Key) = .inr "left") := by decide +kernel
  have h2 : ¬ ((Sum.inr "cells" : Key) = .inr "mixed") := by decide +kernel
  have h3 : ¬ ((Sum.inr "cells" : Key) = .inr "turn") := by decide +kernel
  have h4 : ¬ ((Sum.inr "left" : Key) = .inr "mixed") := by decide +kernel
  have h5 : ¬ ((Sum.inr "left" : Key) = .inr "turn") := by decide +kernel
  have h6 : ¬ ((Sum.inr "mixed" : Key) = .inr "turn") := by decide +kernel
  unfold srcK
  cases f with
  | cells => exact valV_pos rfl
  | left => exact (valV_neg h1).trans (valV_pos rfl)
  | mixed => exact (valV_neg h2).trans ((valV_neg h4).trans (valV_pos rfl))
  | turn => exact (valV_neg h3).trans ((valV_neg h5).trans ((valV_neg h6).trans (valV_pos rfl)))
theorem Fd.putK {s s' : Src} {i : Int} {f : Fd} (h : f.put s i = some s') : putK (srcK s) (.inr f.key) (.int i) = srcK s' ∧ s'.sa = s.sa ∧ s'.ca = s.ca ∧ s'.cells = s.cells := by
  have h1 : ¬ ((Sum.inr "cells" : Key) = .inr "left") := by decide +kernel
  have h2 : ¬ ((Sum.inr "cells" : Key) = .inr "mixed") := by decide +kernel
  have h3 : ¬ ((Sum.inr "cells" : Key) = .inr "turn") := by decide +kernel
  have h4 : ¬ ((Sum.inr "left" : Key) = .inr "mixed") := by decide +kernel
  have h5 : ¬ ((Sum.inr "left" : Key) = .inr "turn") := by decide +kernel
  have h6 : ¬ ((Sum.inr "mixed" : Key) = .inr "turn") := by decide +kernel
  have g4 : ¬ ((Sum.inr "mixed" : Key) = .inr "left") := by decide +kernel
  have g5 : ¬ ((Sum.inr "turn" : Key) = .inr "left") := by decide +kernel
  have g6 : ¬ ((Sum.inr "turn" : Key) = .inr "mixed") := by decide +kernel
  have hp : ∀ f : Fd, L2.putK (srcK s) (.inr f.key) (.int i) = (srcK s).map fun kv => if kv.1 = .inr f.key then (kv.1, .int i) else kv := fun f => by
    unfold L2.putK
    rw [valV_any, Fd.at', Option.isSome_some, if_pos rfl]
  rw [hp]
  cases f with
  | cells => cases h
  | left =>
    cases h
    refine ⟨?_, rfl, rfl, rfl⟩
    unfold srcK Fd.key
    simp only [List.map_cons, List.map_nil, if_neg h1, if_neg g4, if_neg g5, if_true]
  | mixed =>
    cases h
    refine ⟨?_, rfl, rfl, rfl⟩
    unfold srcK Fd.key
    simp only [List.map_cons, List.map_nil, if_neg h2, if_neg h4, if_neg g6, if_true]
  | turn =>
    cases h
    refine ⟨?_, rfl, rfl, rfl⟩
    unfold srcK Fd.key
    simp only [List.map_cons, List.map_nil, if_neg h3, if_neg h5, if_neg h6, if_true]
/-- the source that a slot names -/
def isSrc (i : Nat) (ρ : Rho) (w : Wo) : Option Src :=
  match ρ[i]?, w with
  | some (.val (.raw (.ref a))), some s => if a = s.sa then some s else none
  | _, _ => none
def isCel (i : Nat) (ρ : Rho) (w : Wo) : Option Src :=
  match ρ[i]?, w with
  | some (.val (.raw (.ref a))), some s => if a = s.ca then some s else none
  | _, _ => none
theorem raw_at {B : Bs} {F : Hp} {ρ : Rho} {w : Wo} {σ : L2.St} {H : Hp} (k : Ok B F ρ w σ H) {i : Nat} {v : V} (h : ρ[i]? = some (.val (.raw v))) : σ[i]? = some (some v) := by
  obtain ⟨u, h1, h2⟩ := k.val i _ h
  cases h2
  exact h1
theorem isSrc_some {B : Bs} {F : Hp} {ρ : Rho} {w : Wo} {σ : L2.St} {H : Hp} (k : Ok B F ρ w σ H) {i : Nat} {s : Src} (h : isSrc i ρ w = some s) : w = some s ∧ σ[i]? = some (some (.ref s.sa)) := by
  unfold isSrc at h
  split at h
  · rename_i a s' h1
    split at h
    · rename_i e
      cases h
      subst e
      exact ⟨rfl, raw_at k h1⟩
    · cases h
  · cases h
theorem isCel_some {B : Bs} {F : Hp} {ρ : Rho} {w : Wo} {σ : L2.St} {H : Hp} (k : Ok B F ρ w σ H) {i : Nat} {s : Src} (h : isCel i ρ w = some s) : w = some s ∧ σ[i]? = some (some (.ref s.ca)) := by
  unfold isCel at h
  split at h
  · rename_i a s' h1
    split at h
    · rename_i e
      cases h
      subst e
      exact ⟨rfl, raw_at k h1⟩
    · cases h
  · cases h
def mSrc (i : Nat) (f : Fd) : M D := fun ρ w => (isSrc i ρ w).map fun s => .ok (f.d s) ρ w
def mPut (i : Nat) (f : Fd) (me : M D) : M Fl := bnd me (kInt fun j ρ w => (isSrc i ρ w).bind fun s => (f.put s j).map fun s' => .ok .nx ρ (some s'))
/-- len(cells), cells.pop() -/
def mClen (i : Nat) : M D := fun ρ w => (isCel i ρ w).map fun s => .ok (.int s.cells.length) ρ w
def mCpop (i : Nat) : M D := fun ρ w => (isCel i ρ w).bind fun s => (s.cells[s.cells.length - 1]?).map fun c => .ok (.int c) ρ (some { s with cells := s.cells.dropLast })
section
variable {X : Cx} {Kf : PySem.W.Frag} {B : Bs} {W : WX} {n : Nat} {a b c e : Expr} {es : List Expr} {ta tb tc te : TE} {ma mb mc me : M D} {pos p p2 apos : Pos} {ts : TA} {ms : M (List D)} {x k : Str} {i : Nat}
theorem se_src {j : Nat} (q : Cq Kf X B W n) (f : Fd) (hk : k = f.key) (hN : X.N[i]? = some x := by rfl) (hv : Vis X.env.scope x := by first | exact Or.inl rfl | exact Or.inr (Or.inl rfl) | exact Or.inr (Or.inr rfl)) (hd : (x == ("__debug__" : Str)) = false := by decide) (hcd : (x == ("__classdict__" : Str)) = false := by decide)
    (hs : NoSl (.Constant (.str k) j p2) := by exact fun _ _ => rfl) : SE X B W (.Subscript (.Name x p) (.Constant (.str k) j p2) pos) (tDGet (tVar i) (tC (.str k))) (mSrc i f) := by
  cases q.hX
  exact ⟨pe_dget (by have := q.hr.un; omega) (pe_var hN hv hd hcd) pe_str hs, fun ρ w r hr F σ H ok Q p => by
  unfold mSrc at hr
  cases hs : isSrc i ρ w with
  | none => rw [hs] at hr; cases hr
  | some s =>
    rw [hs] at hr
    cases hr
    obtain ⟨ew, hσ⟩ := isSrc_some ok hs
    subst ew
    subst hk
    exact ⟨_, hσ, s.sa, f.v s, rfl, .inl ⟨_, .inr f.key, .inl ok.wd.2.2.2.1, rfl, (f.at' s).symm⟩, p _ F H (Sub.refl F) ok (f.rp s)⟩⟩
theorem ss_put {j : Nat} {pos' : Pos} (q : Cq Kf X B W n) (f : Fd) (h : SE X B W e te me) (hk : k = f.key) (hN : X.N[i]? = some x := by rfl) (hv : Vis X.env.scope x := by first | exact Or.inl rfl | exact Or.inr (Or.inl rfl) | exact Or.inr (Or.inr rfl)) (hd : (x == ("__debug__" : Str)) = false := by decide) (hcd : (x == ("__classdict__" : Str)) = false := by decide)
    (hs : swapsWith e (some (.Subscript (.Name x p) (.Constant (.str k) j p2) pos')) pos.line X.env = pure false := by rfl) : SS X B W (.Assign [.Subscript (.Name x p) (.Constant (.str k) j p2) pos'] e pos) (sDPut (tVar i) (tC (.str k)) te) (mPut i f me) := by
  cases q.hX
  exact ⟨ps_dput (by have := q.hr.un; omega) (pe_var hN hv hd hcd) pe_str h.pe hs, .of (k := kInt fun j ρ w => (isSrc i ρ w).bind fun s => (f.put s j).map fun s' => Rs.ok Fl.nx ρ (some s')) (tk := fun Dn v σ H1 => tVar i σ H1 fun x H2 => tC (.str k) σ H2 fun y H3 => ∃ a H4, x = .ref a ∧ DPut H3 a y v H4 ∧ Dn.nx σ H4) h.sim fun d ρ w r hr v F σ H ok rv Dn p => by
  obtain ⟨z, ed, hr2⟩ := kInt_some hr
  clear hr
  have hr := hr2
  clear hr2
  subst ed
  cases rv
  cases hs : isSrc i ρ w with
  | none => rw [hs] at hr; cases hr
  | some s =>
    rw [hs] at hr
    have hr : (f.put s z).map (fun s' => Rs.ok Fl.nx ρ (some s')) = some r := hr
    cases hp : f.put s z with
    | none => rw [hp] at hr; cases hr
    | some s' =>
      rw [hp] at hr
      cases hr
      obtain ⟨ew, hσ⟩ := isSrc_some ok hs
      subst ew
      subst hk
      obtain ⟨e1, e2, e3, e4⟩ := Fd.putK hp
      obtain ⟨g1, g2, g3, g4, g5⟩ := ok.wd
      refine ⟨_, hσ, s.sa, upd H s.sa (.dK (putK (srcK s) (.inr f.key) (.int z))), rfl, .inl ⟨_, .inr f.key, g4, rfl, by show 4 < sizeLine; decide, rfl⟩, ?_⟩
      rw [e1]
      exact p F σ _ (Sub.refl F) (ok.world e2 e3 (fun a n1 _ => upd_ne n1) upd_same (by rw [upd_ne fun z => g3 z.symm, e4]; exact g5))⟩
theorem se_clen (q : Cq Kf X B W n) (hg : Gl X "len") (hm : X.mg "len" = none) (hN : X.N[i]? = some x := by rfl) (hv : Vis X.env.scope x := by first | exact Or.inl rfl | exact Or.inr (Or.inl rfl) | exact Or.inr (Or.inr rfl)) (hd : (x == ("__debug__" : Str)) = false := by decide) (hcd : (x == ("__classdict__" : Str)) = false := by decide)
    (he : starEach [.Name x p2] X.env = (false, eval (.Name x p2) X.env) :: starEach [] X.env := by rfl) (hpl : (backTo pos (starEach [] X.env)).any (·.1) = false := by rfl) : SE X B W (.Call (.Name "len" p) [.Name x p2] [] pos) (tCB (rLenA Kf) (tCons (tVar i) tNil)) (mClen i) := by
  cases q.hX
  exact ⟨pe_callB call_lenA hg hm PySem.boot_len (pa_cons (pe_var hN hv hd hcd) pa_nil he) (by decide) (by decide) he hpl, fun ρ w r hr F σ H ok Q p => by
  unfold mClen at hr
  cases hs : isCel i ρ w with
  | none => rw [hs] at hr; cases hr
  | some s =>
    rw [hs] at hr
    cases hr
    obtain ⟨ew, hσ⟩ := isCel_some ok hs
    subst ew
    refine ⟨_, hσ, _, s.cells.length, rfl, .inl ⟨_, SqL.of ok.wd.2.2.2.2, by rw [List.length_map]⟩, p _ F H (Sub.refl F) ok (.int _)⟩⟩
theorem se_cpop (q : Cq Kf X B W n) (hN : X.N[i]? = some x := by rfl) (hv : Vis X.env.scope x := by first | exact Or.inl rfl | exact Or.inr (Or.inl rfl) | exact Or.inr (Or.inr rfl)) (hd : (x == ("__debug__" : Str)) = false := by decide) (hcd : (x == ("__classdict__" : Str)) = false := by decide)
    (hbase : attributeBase (.Name x p) "pop" X.env (eval (.Name x p) X.env) = eval (.Name x p) X.env := by rfl) (hline : (apos.endLine == pos.line) = true := by rfl) :
    SE X B W (.Call (.Attribute (.Name x p) "pop" apos) [] [] pos) (tBM0 Kf "list" rPop (tVar i)) (mCpop i) := by
  cases q.hX
  exact ⟨pe_bm0 PySem.F.plainAttrs_list PySem.F.slot_list_pop PySem.F.type_list_pop mt_pop (pe_var hN hv hd hcd) hbase hline, fun ρ w r hr F σ H ok Q p => by
  unfold mCpop at hr
  cases hs : isCel i ρ w with
  | none => rw [hs] at hr; cases hr
  | some s =>
    rw [hs] at hr
    have hr : (s.cells[s.cells.length - 1]?).map (fun c => Rs.ok (.int c) ρ (some { s with cells := s.cells.dropLast })) = some r := hr
    cases hc : s.cells[s.cells.length - 1]? with
    | none => rw [hc] at hr; cases hr
    | some c =>
      rw [hc] at hr
      cases hr
      obtain ⟨ew, hσ⟩ := isCel_some ok hs
      subst ew
      obtain ⟨g1, g2, g3, g4, g5⟩ := ok.wd
      refine ⟨_, hσ, .inl ⟨rfl, _, SqL.of g5⟩, s.ca, _, .int c, rfl, rfl, g5, by rw [List.length_map, List.getElem?_map, hc]; rfl, ?_⟩
      refine p _ F _ (Sub.refl F) (ok.world rfl rfl (fun a _ n2 => upd_ne n2) (by rw [upd_ne g3]; exact g4) ?_) (.int c)
      rw [← List.map_dropLast]
      exact upd_same⟩
end
end DL
set_option Elab.async false
set_option linter.all false
set_option maxRecDepth 100000
set_option
      maxHeartbeats 4000000
/-! DLL: written dicts of the module, tuple.index, starred parts of displays, calls of defs that a slot holds. -/
namespace DL
open PySem PySem.Spec PyProof.Rows L2 RZ StX
variable [Tbs]
/-! ### a written dict of the module, texts to data -/
structure KD (K : PySem.W.Frag) (w : World) (a : Addr) (tb : List (Str × Option D)) : Prop where
  es : ∃ es n, KDict K w a es n
  at' : ∀ z o, tb.lookup z = some o → match o with
    | some d => ∃ u v, PySem.W.nsIn K a z = some (some u) ∧ RelV v u ∧ ∀ F, Rp K F v d
    | none => PySem.W.nsIn K a z = some none
def kdGet (tb : List (Str × Option D)) : D → Option D
  | .str z => (tb.lookup z).bind id
  | _ => none
def kdIn (neg : Bool) (tb : List (Str × Option D)) : D → Option Bool
  | .str z => (tb.lookup z).map fun o => o.isSome != neg
  | _ => none
section
variable {X : Cx} {Kf : PySem.W.Frag} {B : Bs} {W : WX} {n : Nat} {a b c e : Expr} {es : List Expr} {ta tb tc te : TE} {ma mb mc me : M D} {pos p p2 apos : Pos} {ts : TA} {ms : M (List D)} {x k : Str} {i : Nat} {A : Addr} {dt : List (Str × Option D)}
theorem se_kget (q : Cq Kf X B W n) (hg : Gl X x) (hm : X.mg x = some (.ref A)) (T : KD X.K X.w A dt) (h : SE X B W e te me) (hs : PlainIx e) (hdb : (x == ("__debug__" : Str)) = false := by decide) : SE X B W (.Subscript (.Name x p) e pos) (tOp (rIxD Kf X.w) (tC (.ref A)) te) (bnd me fun d => lft (kdGet dt d)) := by
  cases q.hX
  exact ⟨pe_ix ix_kdict (pe_glob hg hm rfl hdb) h.pe hs, Sim.bnd (R' := RV B) (k := fun d => lft (kdGet dt d)) (tk := fun y σ H Q => rIxD X.K X.w (.ref A) y H Q) h.sim fun d ρ w r hr v F σ H ok rv Q p => by
    obtain ⟨z, hz, e1⟩ := lft_some hr
    subst e1
    unfold kdGet at hz
    split at hz
    · rename_i y
      cases rv
      cases hl : dt.lookup y with
      | none => rw [hl] at hz; cases hz
      | some o =>
        rw [hl] at hz
        have hz : o = some z := hz
        subst hz
        obtain ⟨es, n, D⟩ := T.es
        obtain ⟨u, v, h1, h2, h3⟩ := T.at' y _ hl
        exact ⟨A, y, v, rfl, rfl, ⟨es, n, u, D.at_, D.lit, h1, h2⟩, p v F H (Sub.refl F) ok (by have g := h3 F; rw [q.hK] at g; exact g)⟩
    · cases hz⟩
def rKin (K : PySem.W.Frag) (neg : Bool) (A : Addr) : R2 := fun x y H Q => ∃ (z : Str) (r : Option Value), x = .str z ∧ y = .ref A ∧ PySem.W.nsIn K A z = some r ∧ Q (.bl (r.isSome != neg)) H
theorem op_kin (T : KD X.K X.w A dt) : OpR X (compareOp .In) (rKin X.K false A) := by
  obtain ⟨es, n, D⟩ := T.es
  intro pins s σ H x
        y v u Q I rx ry h
  obtain ⟨z, r, e1, e2, e3, q⟩ := h
  exact op_in_kd D pins s σ H x y v u Q I rx ry ⟨z, r, e1, e2, e3, by simpa using q⟩
theorem op_kni (T : KD X.K X.w A dt) : OpR X (compareOp .NotIn) (rKin X.K true A) := by
  obtain ⟨es, n, D⟩ := T.es
  intro pins s σ H x
        y v u Q I rx ry h
  obtain ⟨z, r, e1, e2, e3, q⟩ := h
  exact op_notIn_kd D pins s σ H x y v u Q I rx ry ⟨z, r, e1, e2, e3, by simpa using q⟩
theorem sim_kin {neg : Bool} (T : KD X.K X.w A dt) (h : Sim B W (RV B) te me) : Sim B W RB (tTest (tOp (rKin X.K neg A) te (tC (.ref A)))) (bnd me fun d => lft (kdIn neg dt d)) :=
  Sim.bnd (R' := RB) (k := fun d => lft (kdIn neg dt d)) (tk := fun y σ H Q => rKin X.K neg A y (.ref A) H fun x H' => ∃ k, x = .bl k ∧ Q k H') h fun d ρ w r hr v F σ H ok rv Q p => by
    obtain ⟨z, hz, e1⟩ := lft_some hr
    subst e1
    unfold kdIn at hz
    split at hz
    · rename_i y
      cases rv
      cases hl : dt.lookup y with
      | none => rw [hl] at hz; cases hz
      | some o =>
        rw [hl] at hz
        cases hz
        have h1 := T.at' y o hl
        cases o with
        | none => exact ⟨y, none, rfl, rfl, h1, _, rfl, p _ F H (Sub.refl F) ok rfl⟩
        | some d =>
          obtain ⟨u, v, h1, h2, h3⟩ := h1
          exact ⟨y, some u, rfl, rfl, h1, _, rfl, p _ F H (Sub.refl F) ok rfl⟩
    · cases hz
theorem st_kin (q : Cq Kf X B W n) (hg : Gl X x) (hm : X.mg x = some (.ref A)) (T : KD X.K X.w A dt) (h : SE X B W e te me) (hb : behindInMarks .In (.Name x p) = false := by with_unfolding_all rfl) (hdb : (x == ("__debug__" : Str)) = false := by decide) : ST X B W (.Compare e [.In] [.Name x p] pos) (tTest (tOp (rKin Kf false A) te (tC (.ref A)))) (bnd me fun d => lft (kdIn false dt d)) := by
  cases q.hX
  exact
  ⟨pt_cmpR (op_kin T) h.pe (pe_glob hg hm rfl hdb) hb, sim_kin T h.sim⟩
theorem st_kni (q : Cq Kf X B W n) (hg : Gl X x) (hm : X.mg x = some (.ref A)) (T : KD X.K X.w A dt) (h : SE X B W e te me) (hb : behindInMarks .NotIn (.Name x p) = false := by with_unfolding_all rfl) (hdb : (x == ("__debug__" : Str)) = false := by decide) : ST X B W (.Compare e [.NotIn] [.Name x p] pos) (tTest (tOp (rKin Kf true A) te (tC (.ref A)))) (bnd me fun d => lft (kdIn true dt d)) := by
  cases q.hX
  exact
  ⟨pt_cmpR (op_kni T) h.pe (pe_glob hg hm rfl hdb) hb, sim_kin T h.sim⟩

/-! ### t.index(x), texts -/
def dstrs : List D → Option (List Str)
  | [] => some []
  | .str x :: r => (dstrs r).map fun l => x :: l
  | _ => none
theorem dstrs_rp {K : PySem.W.Frag} {F : Hp} : ∀ {ds : List D} {vs : List V} {ys : List Str}, RpAll K F vs ds → dstrs ds = some ys → vs = ys.map V.str
  | [], _, _, r, h => by cases r; cases h; rfl
  | .str x :: ds, _, ys, r, h => by
    cases r with
    | cons r1 r2 =>
      cases r1
      unfold dstrs at h
      cases hs : dstrs ds with
      | none => rw [hs]
            at h; cases h
      | some l =>
        rw [hs] at h
        cases h
        rw [dstrs_rp r2 hs]
        rfl
  | .non :: _, _, _, _, h => by cases h
  | .bl _ :: _, _, _, _, h => by cases h
  | .int _ :: _, _, _, _, h => by cases h
  | .tup _ :: _, _, _, _, h => by cases h
  | .lst _ :: _, _, _, _, h => by cases h
  | .dct _ _ :: _, _, _, _, h => by cases h
  | .raw _ :: _, _, _, _, h => by cases h
  | .fn _ :: _, _, _, _, h => by cases h
  | .pr _ _ :: _, _, _, _, h => by cases h
  | .rol _ :: _, _, _, _, h => by cases h
def firstAt (z : Str) : List Str → Option Nat
  | [] => none
  | y :: ys => if y = z then some 0 else (firstAt z ys).map (· + 1)
theorem firstAt_some {z : Str} : ∀ {ys : List Str} {j : Nat}, firstAt z ys = some j → ys[j]? = some z ∧ ∀ m, m < j → ys[m]? ≠ some z
  | [], _, h => by cases h
  | y :: ys, j, h => by
    unfold firstAt at h
    split at h
    · rename_i e
      cases h
      exact ⟨by rw [e]; rfl, fun m hm => absurd hm (Nat.not_lt_zero m)⟩
    · rename_i e
      cases hj : firstAt z ys with
      | none => rw [hj] at h; cases h
      | some i =>
        rw [hj] at h
        cases h
        obtain ⟨h1, h2⟩ := firstAt_some hj
        refine ⟨h1, fun m hm => ?_⟩
        cases m with
        | zero => exact fun q => e (Option.some.inj q)
        | succ m => exact h2 m (Nat.lt_of_succ_lt_succ hm)
def tixD : D → List D → Option D
  | .tup ds, [.str z] => (dstrs ds).bind fun ys => (firstAt z ys).map fun j => .int (j : Nat)
  | _, _ => none
def mTM (f : D → List D → Option D) (mo : M D) (ms : M (List D)) : M D := bnd mo fun d => match d with
  | .tup _ => bnd ms fun ds => lft (f d ds)
  | _ => fun _ _ => none
def rTix (K : PySem.W.Frag) : V → List V → Hp → VK → Prop := fun x xs H Q => ∃ p, ∃ ys : List Str, ∃ z j, x = .ref p ∧ xs = [.str z] ∧ SqT K H p (ys.map V.str) ∧ ys[j]? = some z ∧ (∀ m, m < j → ys[m]? ≠ some z) ∧ Q (.int (j : Nat)) H
theorem mt_tix : MtR X "tuple.index" (rTix X.K) := mt_tup_index
theorem sim_tix {to : TE} {mo : M D} (ho : Sim B W (RV B) to mo) (hs : Sim B W (RA B) ts ms) : Sim B W (RV B) (tTM B.K (rTix B.K) to ts) (mTM tixD mo ms) := by
  intro ρ w res hres F σ H ok Q p
  unfold mTM bnd at hres
  cases hm : mo ρ w with
  | none => rw [hm] at hres; cases hres
  | some r1 =>
    rw [hm] at hres
    refine ho ρ w r1 hm F σ H ok _ ?_
    cases r1 with
    | exc z ρ1 w1 => cases hres; exact p
    | ok d ρ1 w1 =>
      intro v F1 H1 s1 ok1 rv
      dsimp only at hres
      cases d with
      | tup ds =>
        cases rv with
        | tup h1 r1 =>
          refine ⟨_, _, rfl, ok1.sub.sqP h1, ?_⟩
          dsimp only at hres
          cases hm2 : ms ρ1 w1 with
          | none => rw [hm2] at hres; cases hres
          | some r2 =>
            rw [hm2] at hres
            refine hs ρ1 w1 r2 hm2 F1 σ H1 ok1 _ ?_
            cases r2 with
            | exc z ρ2 w2 =>
              cases hres
              exact fun d F2 H2 s2 ok2 hx => p d F2 H2 (s1.trans s2) ok2 hx
            | ok es ρ2 w2 =>
              intro us F2 H2 s2 ok2 rus
              obtain ⟨zd, hz, e3⟩ := lft_some hres
              subst e3
              unfold tixD at hz
              split at hz
              · rename_i ds' z ed
                cases ed
                obtain ⟨u, e, ru⟩ := rus.one
                subst e
                cases ru
                cases hys : dstrs ds with
                | none => rw [hys] at hz; cases hz
                | some ys =>
                  rw [hys] at hz
                  have hz : (firstAt z ys).map (fun j => D.int (j : Nat)) = some zd := hz
                  cases hj : firstAt z ys with
                  | none => rw [hj] at hz; cases hz
                  | some j =>
                    rw [hj] at hz
                    cases hz
                    obtain ⟨g1, g2⟩ := firstAt_some hj
                    have ev := dstrs_rp r1 hys
                    subst ev
                    exact ⟨_, ys, z, j, rfl, rfl, ok2.sub.sqT (s2.sqT h1.sqT), g1, g2, p _ F2 H2 (s1.trans s2) ok2 (.int _)⟩
              · cases hz
      | _ => cases hres
theorem se_tix {o : Expr} {to : TE} {mo : M D} (q : Cq Kf X B W n) (ho : SE X B W o to mo) (ha : SA X B W [e] ts ms) (hbase : attributeBase o "index" X.env (eval o X.env) = eval o X.env := by rfl)
    (hfew : ((backTo pos (starEach [e] X.env)).all (fun x => !x.1) && (backToKw pos (keywordEach [] X.env)).all (fun x => x.1.isSome) && decide ([e].length + ([] : List Keyword).length + (if ([] : List Keyword).isEmpty then 0 else 1) < 30)) = true := by rfl)
    (hline : (apos.endLine == pos.line) = true := by rfl) (hs : starEach [e] X.env = (false, eval e X.env) :: starEach [] X.env := by rfl) (hpl : (backTo pos (starEach [] X.env)).any (·.1) = false := by rfl) : SE X B W (.Call (.Attribute o "index" apos) [e] [] pos) (tTM Kf (rTix Kf) to ts) (mTM tixD mo ms) := by
  cases q.hX
  exact ⟨pe_tm PySem.F.slot_tuple_index PySem.F.type_tuple_index mt_tix ho.pe ha.pa hbase hfew hline hs hpl, by rw [q.hK]; exact sim_tix ho.sim ha.sim⟩
/-! ### *xs in a display -/
def mStar (me : M D) (ms : M (List D)) : M (List D) := bnd me fun d => match d with
  | .tup xs => bnd ms fun ds => ret (xs ++ ds)
  | .lst xs => bnd ms fun ds => ret (xs ++ ds)
  | _ => fun _ _ => none
theorem sim_star (he : Sim B W (RV B) te me) (hs : Sim B W (RA B) ts ms) : Sim B W (RA B) (tStar B.K te ts) (mStar me ms) := by
  intro ρ w res hres F σ H ok Q p
  unfold mStar bnd at hres
  cases hm : me ρ w with
  | none => rw [hm] at hres; cases hres
  | some r1 =>
    rw [hm] at hres
    refine he ρ w r1 hm F σ H ok _ ?_
    cases r1 with
    | exc z ρ1 w1 => cases hres; exact p
    | ok d ρ1 w1 =>
      intro v F1 H1 s1 ok1 rv
      have go : ∀ xs vs, RpAll B.K F1 vs xs → bnd ms (fun ds => ret (xs ++ ds)) ρ1 w1 = some res → ts σ H1 fun ys H2 => Q (vs ++ ys) H2 := fun xs vs rx h => by
        unfold bnd at h
        cases hm2 : ms ρ1 w1 with
        | none => rw [hm2] at h; cases h
        | some r2 =>
          rw [hm2] at h
          refine hs ρ1 w1 r2 hm2 F1 σ H1 ok1 _ ?_
          cases r2 with
          | exc z ρ2 w2 =>
            cases h
            exact fun d F2 H2 s2 ok2 hx => p d F2 H2 (s1.trans s2) ok2 hx
          | ok ds ρ2 w2 =>
            cases h
            exact fun us F2 H2 s2 ok2 rus => p _ F2 H2 (s1.trans s2) ok2 ((rx.up s2).append rus)
      dsimp only at hres
      cases d with
      | tup xs =>
        cases rv with
        | tup h1 r1 => exact ⟨_, _, rfl, .inl (ok1.sub.sqP h1).sqT, go xs _ r1 hres⟩
      | lst xs =>
        cases rv with
        | lst h1 r1 => exact ⟨_, _, rfl, .inr (SqL.of (ok1.sub _ _ h1)), go xs _ r1 hres⟩
      | _ => cases hres
theorem sa_star (q : Cq Kf X B W n) (h : SE X B W e te me) (hs : SA X B W es ts ms) (hst : starEach (.Starred e p :: es) X.env = (true, eval e X.env) :: starEach es X.env := by rfl) : SA X B W (.Starred e p :: es) (tStar Kf te ts) (mStar me ms) := by
  cases q.hX
  exact ⟨pa_star h.pe hs.pa hst, by rw [q.hK]; exact sim_star h.sim hs.sim⟩
/-! ### a call of the def that a slot holds -/
def tCallV (P : Program) (w : World) (K : PySem.W.Frag) (mg : Str → Option Value) (base : Heap) (n i : Nat) (t : TA) : TE := fun σ H Q => ∃ (f : Addr) (fd : FuncData) (ps : List Str) (sp : Sp), σ[i]? = some (some (.ref f)) ∧
  (FnOk P w K mg base (L2.CX P w) n f fd ps sp ∧ PySem.W.keepIn K (.ref f) = true ∧ Binds K fd ps []) ∧ t σ H fun vs H1 => sp vs H1 Q (fun _ _ _ => False)
theorem pe_callV {t : TA} (hr : Room n X.A) (hN : X.N[i]? = some x) (hv : Vis X.env.scope x) (ha : PA X (e :: es) t) (hdb : (x == ("__debug__" : Str)) = false := by decide) (hcd : (x == ("__classdict__" : Str)) = false := by decide)
    (he : starEach (e :: es) X.env = (false, eval e X.env) :: starEach es X.env := by rfl) (hpl : (backTo pos (starEach es X.env)).any (·.1) = false := by rfl) : PE X (.Call (.Name x p) (e :: es) [] pos) (tCallV X.prog X.w X.K X.mg X.base n i t) := by
  constructor
  intro pins s σ H Q I h
  obtain ⟨f, fd, ps, sp, hs, ⟨F, hk, hb⟩, ht⟩ := h
  refine (pe_callL (i := i) (f := f) (sp := sp) (dvs := []) (E := fun _ _ _ => False) F hr hN hv hk hb .nil (fun _ _ _ _ _ _ _ z => by obtain ⟨_, _, _, _, _, _, _, _, _, _, _, _, z⟩ := z; exact z.elim) ha hdb hcd he hpl).run pins s σ H Q I ⟨hs, ?_⟩
  simpa using ht
/-- the defs that a slot may hold: their names, how many arguments, what they come to -/
abbrev Tb := List (Str × Nat × Fn1)
def kCallV (k : Nat) (g : Fn1) : List D → M D := fun ds ρ w =>
  if ds.length = k then match g ds w with
    | some (.ok d w') => some (.ok d ρ w')
    | _ => none
  else none
def mCallV (i : Nat) (tb : Tb) (ms : M (List D)) : M D := fun ρ w =>
  match ρ[i]? with
  | some (.val (.fn y)) => match tb.lookup y with
    | some (k, g) => bnd ms (kCallV k g) ρ w
    | none => none
  | _ => none
theorem sim_callV {tb : Tb} (q : Cq Kf X B W n) (hmg : ∀ y f, PySem.W.nsIn X.K mainGlobals y = some (some (.ref f)) → X.mg y = some (.ref f)) (T : ∀ y k g, tb.lookup y = some (k, g) → Fnc X.prog X.w X.K X.mg X.base n y k g) (hs : Sim B W (RA B) ts ms) :
    Sim B W (RV B) (tCallV X.prog X.w Kf X.mg X.base n i ts) (mCallV i tb ms) := by
  cases q.hX
  intro ρ w res hres F σ H ok Q p
  unfold mCallV at hres
  split at hres
  · rename_i y hy
    split at hres
    · rename_i k g hk
      obtain ⟨v, h1, h2⟩ := ok.val i _ hy
      cases h2 with
      | fn _ hn =>
        rename_i f
        obtain ⟨f', fd, ps, m1, m2, m3, m4⟩ := (T y k g hk).ex
        have e := hmg y f (by rw [q.hK]; exact hn)
        rw [m1] at e
        cases e
        refine ⟨f, fd, ps, _, h1, ⟨m4, m2, m3⟩, ?_⟩
        unfold bnd at hres
        cases hm : ms ρ w with
        | none => rw [hm] at hres; cases hres
        | some r1 =>
          rw [hm] at hres
          refine hs ρ w r1 hm F σ H ok _ ?_
          cases r1 with
          | exc z ρ1 w1 => cases hres; exact p
          | ok ds ρ1 w1 =>
            intro vs F1 H1 s1 ok1 rs
            dsimp only at hres
            unfold kCallV at hres
            split at hres
            · rename_i hl
              cases hg : g ds w1 with
              | none => rw [hg] at hres; cases hres
              | some r2 =>
                rw [hg] at hres
                rw [q.hK]
                refine ⟨F1, ds, w1, r2, by rw [rs.length]; exact hl, ok1.sub, ok1.wd, ok1.tab, ok1.nt, rs, hg, ?_⟩
                cases r2 with
                | ok d w' =>
                  cases hres
                  exact fun v F' H' s kw go rv => p v F' H' (s1.trans go.sub) (ok1.called s kw go) rv
                | exc x w' => cases hres
            · cases hres
    · cases hres
  · cases hres
theorem se_callV {tb : Tb} (q : Cq Kf X B W n) (hmg : ∀ y f, PySem.W.nsIn X.K mainGlobals y = some (some (.ref f)) → X.mg y = some (.ref f)) (T : ∀ y k g, tb.lookup y = some (k, g) → Fnc X.prog X.w X.K X.mg X.base n y k g) (hs : SA X B W (e :: es) ts ms) (hN : X.N[i]? = some x := by rfl)
    (hv : Vis X.env.scope x := by first | exact Or.inl rfl | exact Or.inr (Or.inl rfl) | exact Or.inr (Or.inr rfl)) (hdb : (x == ("__debug__" : Str)) = false := by decide) (hcd : (x == ("__classdict__" : Str)) = false := by decide)
    (he : starEach (e :: es) X.env = (false, eval e X.env) :: starEach es X.env := by rfl) (hpl : (backTo pos (starEach es X.env)).any (·.1) = false := by rfl) : SE X B W (.Call (.Name x p) (e :: es) [] pos) (tCallV X.prog X.w Kf X.mg X.base n i ts) (mCallV i tb ms) := by
  cases q.hX
  exact ⟨pe_callV q.hr hN hv hs.pa hdb hcd he hpl, sim_callV q hmg T hs.sim⟩
end
end DL
set_option Elab.async false
set_option linter.all false
set_option maxRecDepth 100000
set_option
      maxHeartbeats 4000000
/-! DLM: the drawing source opened, and drawn from. -/
namespace DL
open PySem PySem.Spec PyProof.Rows L2 RZ StX
variable [Tbs]
theorem bnd_ok {α β : Type} {m : M α} {k : α → M β} {ρ ρ' : Rho} {w w' : Wo} {a : α} (h : m ρ w = some (.ok a ρ' w')) : bnd m k ρ w = k a ρ' w' := by
  unfold bnd
  rw [h]
theorem seq_nx {m k : M Fl} {ρ ρ' : Rho} {w w' : Wo} (h : m ρ w = some (.ok .nx ρ' w')) : mSeq m k ρ w = k ρ' w' := bnd_ok h
def absI (i : Int) : Int := if i < 0 then -i else i
def mixOf : List Int → Int → Int
  | [], m => m
  | c :: cs, m => mixOf cs ((m * 69069 + c * 31 + 5) % 2147483629)
/-- what the source is at first -/
def src0 (sa ca : Addr) (cells : List Int) : Src := ⟨sa, ca, (cells.map absI).reverse, 1, mixOf cells 11, 0⟩
def oIt : M (List D) := bnd (getS 0) fun d => lft (itemsD d)
def oM1 : M Fl := mSet 1 (ret (.int 11))
def oB2 : M Fl := mSet 1 (mBin modD (bnd (mCons (mBin addD (mBin addD (mBin mulD (getS 1) (ret (.int 69069))) (mBin mulD (getS 2) (ret (.int 31)))) (ret (.int 5))) mNil) fun ds => lft (int1D ds)) (ret (.int 2147483629)))
def oM2 : M Fl := mFor oIt (bName 2) oB2
def oE3 : M D := bnd (mCons (getS 2) mNil) fun ds => lft (absD ds)
def oM3 : M Fl := mSet 3 (mLc [2] oIt (bName 2) (ret true) oE3)
theorem oB2_run (r : Slot) (m c : Int) (d : Slot) (w : Wo) : oB2 [r, .val (.int m), .val (.int c), d] w = some (.ok .nx [r, .val (.int ((m * 69069 + c * 31 + 5) % 2147483629)), .val (.int c), d] w) := by
  have h1 : inB 69069 = true := by decide
  have h2 : inB 31 = true := by decide
  simp [oB2, mSet, mBin, bnd, mCons, mNil, getS, ret, lft, mulD, addD, modD, intD, int1D, setS, h1, h2]
theorem oM2_run (r d : Slot) (w : Wo) : ∀ (cs : List Int) (m : Int) (c : Slot), ∃ c', forL (bName 2) oB2 (cs.map D.int) [r, .val (.int m), c, d] w = some (.ok .nx [r, .val (.int (mixOf cs m)), c', d] w)
  | [], m, c => ⟨c, rfl⟩
  | x :: cs, m, c => by
    obtain ⟨c', h⟩ := oM2_run r d w cs ((m * 69069 + x * 31 + 5) % 2147483629) (.val (.int x))
    refine ⟨c', ?_⟩
    rw [List.map_cons]
    unfold forL
    show (match oB2 [r, .val (.int m), .val (.int x), d] w with
      | some (.ok .nx ρ1 w1) => forL (bName 2) oB2 (cs.map D.int) ρ1 w1
      | some (.ok .ct ρ1 w1) => forL (bName 2) oB2 (cs.map D.int) ρ1 w1
      | some (.ok .br ρ1 w1) => some (.ok .nx ρ1 w1)
      | some (.ok (.rt d') ρ1 w1) => some (.ok (.rt d') ρ1 w1)
      | some (.exc x ρ1 w1) => some (.exc x ρ1 w1)
      | none => none) = _
    rw [oB2_run]
    exact h
theorem oM3_run (r m : Slot) (w : Wo) : ∀ (cs : List Int) (c d : Slot), ∃ c', lcLoop [2] (bName 2) (ret true) oE3 (cs.map D.int) [r, m, c, d] w = some (cs.map fun x => D.int (absI x), [r, m, c', d], w)
  | [], c, d => ⟨c, rfl⟩
  | x :: cs, c, d => by
    obtain ⟨c', h⟩ := oM3_run r m w cs (.val (.int x)) d
    refine ⟨c', ?_⟩
    rw [List.map_cons,
          List.map_cons]
    unfold lcLoop
    show ((lcLoop [2] (bName 2) (ret true) oE3 (cs.map D.int) [r, m, .val (.int x), d] w).map fun z => (D.int (absI x) :: z.1, z.2)) = _
    rw [h]
    rfl
theorem open_run (cs : List Int) (w : Wo) (h : cs.length ≤ 100000) : (mSeq oM1 (mSeq oM2 oM3)) [.val (.rol (cs.map D.int)), .free, .free, .free] w = some (.ok .nx [.val (.rol (cs.map D.int)), .val (.int (mixOf cs 11)), .free, .val (.lst (cs.map fun x => D.int (absI x)))] w) := by
  obtain ⟨c1, h1⟩ := oM2_run (.val (.rol (cs.map D.int))) .free w cs 11 .free
  obtain ⟨c2, h2⟩ := oM3_run (.val (.rol (cs.map D.int))) (.val (.int (mixOf cs 11))) w cs c1 .free
  have e2 : oM2 [.val (.rol (cs.map D.int)), .val (.int 11), .free, .free] w = forL (bName 2) oB2 (cs.map D.int) [.val (.rol (cs.map D.int)), .val (.int 11), .free, .free] w := rfl
  have e3 : oM3 [.val (.rol (cs.map D.int)), .val (.int (mixOf cs 11)), c1, .free] w = some (.ok .nx [.val (.rol (cs.map D.int)), .val (.int (mixOf cs 11)), .free, .val (.lst (cs.map fun x => D.int (absI x)))] w) := by
    have e : (if (cs.map D.int).length ≤ 100000 then (match lcLoop [2] (bName 2) (ret true) oE3 (cs.map D.int) [.val (.rol (cs.map D.int)), .val (.int (mixOf cs 11)), c1, .free] w with
      | some (ys, ρ', w') => some (Rs.ok ys (wipeR ρ' [2]) w')
      | none => none) else none) = some (.ok (cs.map fun x => D.int (absI x)) [.val (.rol (cs.map D.int)), .val (.int (mixOf cs 11)), .free, .free] w) := by
      rw [if_pos (by rw [List.length_map]; exact h), h2]
      rfl
    have f : nLc [2] oIt (bName 2) (ret true) oE3 [.val (.rol (cs.map D.int)), .val (.int (mixOf cs 11)), c1, .free] w = some (.ok (cs.map fun x => D.int (absI x)) [.val (.rol (cs.map D.int)), .val (.int (mixOf cs 11)), .free, .free] w) := e
    unfold oM3 mSet mLc
    unfold bnd
    rw [f]
    rfl
  have e1 : oM1 [.val (.rol (cs.map D.int)), .free, .free, .free] w = some (.ok .nx [.val (.rol (cs.map D.int)), .val (.int 11), .free, .free] w) := rfl
  rw [seq_nx e1, seq_nx (e2.trans h1)]
  exact e3
/-- what the opening promises -/
def spOpen (K : PySem.W.Frag) : Sp := fun vs H Q _ => ∃ (a : Addr) (cells : List Int), vs = [.ref a] ∧ SqL K H a (cells.map V.int) ∧ cells.length ≤ 100000 ∧ LamX.Tabs Tbs.T H ∧
  ∀ H' sa ca, (∀ b o, H b = some o → (∀ ps, o ≠ .tbl ps) → H' b = some o) → LamX.Tabs Tbs.T H' → noTb (H sa) = none → noTb (H ca) = none → sa ≠ ca → H' sa = some (.dK (srcK (src0 sa ca cells))) → H' ca = some (.lst ((src0 sa ca cells).cells.map V.int)) → Q (.ref sa) H'
def oTr (K : PySem.W.Frag) : List (TE × TE) := [(tC (.str "cells"), tRevL K (tVar 3)), (tC (.str "left"), tC (.int 1)), (tC (.str "mixed"), tVar 1), (tC (.str "turn"), tC (.int 0))]
theorem merge_src (a : V) (m : Int) : mergeK [] ([(.inr "cells", a), (.inr "left", .int 1), (.inr "mixed", .int m), (.inr "turn", .int 0)] : List (Key × V)) = ([(.inr "cells", a), (.inr "left", .int 1), (.inr "mixed", .int m), (.inr "turn", .int 0)] : List (Key × V)) := by
  have h1 : ¬ ((Sum.inr "cells" : Key) = .inr "left") := by decide +kernel
  have h2 : ¬ ((Sum.inr "cells" : Key) = .inr "mixed") := by decide +kernel
  have h3 : ¬ ((Sum.inr "cells" : Key) = .inr "turn") := by decide +kernel
  have h4 : ¬ ((Sum.inr "left" : Key) = .inr "mixed") := by decide +kernel
  have h5 : ¬ ((Sum.inr "left" : Key) = .inr "turn") := by decide +kernel
  have h6 : ¬ ((Sum.inr "mixed" : Key) = .inr "turn") := by decide +kernel
  unfold mergeK
  simp only [List.foldl_cons, List.foldl_nil, L2.putK, List.any_nil, List.any_cons, decide_eq_false h1, decide_eq_false h2, decide_eq_false h3, decide_eq_false h4, decide_eq_false h5, decide_eq_false h6, Bool.false_or, Bool.or_false, Bool.or_self, Bool.false_eq_true, if_false, List.nil_append, List.cons_append]
section
variable {P : Program} {wd : World} {K : PySem.W.Frag} {mg : Str → Option Value} {base : Heap}
theorem map_abs {F : Hp} {vs : List V} : ∀ {cs : List Int} {vs : List V}, RpAll K F vs (cs.map fun x => D.int (absI x)) → vs = (cs.map absI).map V.int
  | [], _, h => by cases h; rfl
  | c :: cs, _, h => by
    cases h with
    | cons h1 h2 =>
      cases h1
      rw [map_abs (vs := vs) h2]
      rfl
theorem rp_ints {F : Hp} : ∀ cs : List Int, RpAll K F (cs.map V.int) (cs.map D.int)
  | [] => .nil
  | c :: cs => .cons (.int c) (rp_ints cs)
theorem open_ok {x qual : Str} {st s1 s2 s3 s4 : Stmt} {f : Addr} {fd : FuncData} {N : List Str} {n : Nat} (F : Fun K x qual st f fd) (S : FnScope N ["_law_script"] (defScope st)) (hN : N.length = 4) (hb : defBody st = [s1, s2, s3, s4])
    (body : ∀ (cdv : Value) (A : Around) (outer : List Env) (s : Shared) (H : Hp) (E : XK) (B : Bs), Body K (cxOf (L2.CX P wd) P wd K mg base N qual (defScope st) f cdv A outer s H E) B (fun cls d _ H => E cls d H) n →
      (∃ t1, SS (cxOf (L2.CX P wd) P wd K mg base N qual (defScope st) f cdv A outer s H E) B (fun cls d _ H => E cls d H) s1 t1 oM1) ∧ (∃ t2, SS (cxOf (L2.CX P wd) P wd K mg base N qual (defScope st) f cdv A outer s H E) B (fun cls d _ H => E cls d H) s2 t2 oM2) ∧
      (∃ t3, SS (cxOf (L2.CX P wd) P wd K mg base N qual (defScope st) f cdv A outer s H E) B (fun cls d _ H => E cls d H) s3 t3 oM3) ∧ PS (cxOf (L2.CX P wd) P wd K mg base N qual (defScope st) f cdv A outer s H E) s4 (tRet (tDisp (oTr K)))) :
    FnOk P wd K mg base (L2.CX P wd) (n + 1) f fd ["_law_script"] (spOpen K) := by
  refine F.okX S (fun vs H Q E h => ?_) (fun cdv A outer s H vs Q E hr h => ?_)
  · obtain ⟨a, cells, h, _⟩ := h
    rw [h]
    rfl
  · obtain ⟨a, cells, ev, hs, hl, htb, q⟩ := h
    subst ev
    -- the frozen part: the script
    let F0 : Hp := fun b => if b = a then noTb (H b) else none
    have sub0 : Sub F0 H := fun b o e => by
      have e : (if b = a then noTb (H b) else none) = some o := e
      split at e
      · exact (noTb_some e).1
      · cases e
    have nt0 : ∀ b ps, F0 b ≠ some (.tbl ps) := fun b ps e => by
      have e : (if b = a then noTb (H b) else none) = some (.tbl ps) := e
      split at e
      · exact (noTb_some e).2 ps rfl
      · cases e
    have hs0 : SqL K F0 a (cells.map V.int) := by
      rcases hs with (hs | ⟨o, hs⟩) | hs
      · exact .inl (.inl (by show (if a = a then noTb (H a) else none) = _; rw [if_pos rfl, hs]; rfl))
      · exact .inl (.inr ⟨o, by show (if a = a then noTb (H a) else none) = _; rw [if_pos rfl, hs]; rfl⟩)
      · exact .inr hs
    obtain ⟨⟨t1, g1⟩, ⟨t2, g2⟩, ⟨t3, g3⟩, g4⟩ := body cdv A outer s H E ⟨K, H, F0, none⟩ ⟨⟨rfl, rfl, takes_of rfl rfl rfl rfl, hr, rfl, S.nd⟩, passes_of rfl⟩
    refine ⟨tSeq t1 (tSeq t2 (tSeq t3 (tRet (tDisp (oTr K))))), by rw [hb]; exact pss_cons g1.ps (pss_cons g2.ps (pss_cons g3.ps (pss_one g4))), ?_⟩
    have r0 : RpAll K F0 [V.ref a] [D.rol (cells.map D.int)] := .cons (.rol hs0 (rp_ints cells)) .nil
    have ok0 : Ok ⟨K, H, F0, none⟩ F0 ([D.rol (cells.map D.int)].map .val ++ List.replicate (N.length - [D.rol (cells.map D.int)].length) .free) none (L2.start N [V.ref a]) H := ok_start sub0 trivial htb nt0 r0 (by rw [hN]; show 1 ≤ 4; decide)
    rw [hN] at ok0
    have run := open_run cells none hl
    -- the three statements, then the display
    have G := (sb_cons g1 (sb_cons g2 (sb_one g3))).sim _ none _ run F0 _ H ok0 { nx := fun σ H1 => tRet (tDisp (oTr K)) { nx := fun _ H' => Q .non H', rt := Q } σ H1, rt := Q } (fun F1 σ1 H1 s1 ok1 => ?_)
    · have conv : ∀ (u k : TS) σ H, tSeq t1 (tSeq t2 u) { nx := fun σ H1 => k { nx := fun _ H' => Q .non H', rt := Q } σ H1, rt := Q } σ H = tSeq t1 (tSeq t2 (tSeq u k)) { nx := fun _ H' => Q .non H', rt := Q } σ H := fun u k σ H => rfl
      rw [conv] at G
      exact G
    · obtain ⟨v1, e1, r1⟩ := ok1.val 1 _ rfl
      cases r1
      obtain ⟨v3, e3, r3⟩ := ok1.val 3 _ rfl
      cases r3 with
      | lst h3 r3 =>
        rename_i b ws
        have ew := map_abs (vs := ws) r3
        subst ew
        intro sa hsa
        have n0 : noTb (H sa) = none := (ok1.fresh hsa).1
        have hb1 : H1 b = some (.lst ((cells.map absI).map V.int)) := ok1.sub _ _ h3
        refine ⟨.ref b, e3, b, _, rfl, SqL.of (by rw [upd_ne (ne_of_none hb1 hsa)]; exact hb1), fun ca hca => ?_⟩
        have nsc : sa ≠ ca := fun z => by
          rw [z, upd_same] at hca
          cases hca
        rw [upd_ne nsc.symm] at hca
        refine ⟨.int (mixOf cells 11), e1, by rw [upd_ne nsc, upd_same], [(.inr "cells", .ref ca), (.inr "left", .int 1), (.inr "mixed", .int (mixOf cells 11)), (.inr "turn", .int 0)], rfl, by show 4 ≤ 15; decide, ?_⟩
        rw [merge_src]
        have keep : ∀ b o, H b = some o → (∀ ps, o ≠ .tbl ps) → H1 b = some o := fun b o e nt => ok1.go.keep b o e (by intro z; cases z) nt
        have c0 : noTb (H ca) = none := (ok1.fresh hca).1
        refine q _ sa ca (fun b o e nt => ?_) (tabs_put (tabs_put (tabs_put ok1.tab (pn_none hsa)) (pn_none (by rw [upd_ne nsc.symm]; exact hca))) ?_) n0 c0 nsc upd_same ?_
        · have nb1 : b ≠ sa := fun z => by rw [z] at e; exact noTb_no n0 e nt
          have nb2 : b ≠ ca := fun z => by rw [z] at e; exact noTb_no c0 e nt
          rw [upd_ne nb1, upd_ne nb2, upd_ne nb1]
          exact keep b o e nt
        · exact pn_dK (vs := []) (by rw [upd_ne nsc, upd_same])
        · rw [upd_ne nsc.symm, upd_same]
          show _ = some (HO.lst (((cells.map absI).reverse).map V.int))
          rw [List.map_reverse]
end
end DL
set_option Elab.async false
set_option linter.all false
set_option maxRecDepth 100000
set_option
      maxHeartbeats 4000000
/-! DLN: -x, xs[::-1], list(range(..)), the law's own frame. -/
namespace DL
open PySem PySem.Spec PyProof.Rows L2 RZ StX
variable [Tbs]
section
variable {X : Cx} {Kf : PySem.W.Frag} {B : Bs} {W : WX} {n : Nat} {a b c e : Expr} {es : List Expr} {ta tb tc te : TE} {ma mb mc me : M D} {pos p p2 p3 apos : Pos} {ts : TA} {ms : M (List D)} {x k : Str} {i : Nat}
theorem se_globQ {v : V} {u : Value} {d : D} (q : Cq Kf X B W n) (hg : Gl X x) (hm : X.mg x = some u) (r : RelV v u) (h : ∀ F, Rp Kf F v d) (hdb : (x == ("__debug__" : Str)) = false := by decide) : SE X B W (.Name x pos) (tC v) (ret d) :=
  ⟨pe_glob hg hm r hdb, sim_c fun F => by
    have g := h F
    rw [q.hK] at g
    exact g⟩
def mNeg (m : M D) : M D := bnd m (kInt fun i => ret (.int (-i)))
theorem se_neg (h : SE X B W e te me) : SE X B W (.UnaryOp .USub e pos) (tUn (rU fun i => .int (-i)) te) (mNeg me) :=
  ⟨pe_un un_neg h.pe, Sim.bnd (R' := RV B) (k := kInt fun i => ret (.int (-i))) (tk := fun v σ H Q => rU (fun i => .int (-i)) v H Q) h.sim fun d ρ w r hr v F σ H ok rv Q p => by
    obtain ⟨i, e1, hr2⟩ := kInt_some hr
    clear hr
    subst e1
    cases rv
    cases hr2
    exact ⟨i, rfl, p _ F H (Sub.refl F) ok (.int _)⟩⟩
def revD : D → Option D
  | .lst xs => some (.lst xs.reverse)
  | _ => none
def mRev (m : M D) : M D := bnd m fun d => lft (revD d)
theorem se_revL {j : Nat} {q1 q2 q3 : Pos} (q : Cq Kf X B W n) (h : SE X B W e te me) : SE X B W (.Subscript e (.Slice none none (some (.UnaryOp .USub (.Constant (.int 1) j q1) q2)) q3) pos) (tRevL Kf te) (mRev me) := by
  cases q.hX
  exact ⟨pe_revL h.pe, by
    rw [q.hK]
    exact Sim.bnd (R' := RV B) (k := fun d => lft (revD d)) (tk := fun x σ H Q => ∃ a xs, x = V.ref a ∧ SqL B.K H a xs ∧ ∀ p, H p = none → Q (.ref p) (upd H p (.lst xs.reverse))) h.sim fun d ρ w r hr v F σ H ok rv Q p => by
      obtain ⟨z, hz, e1⟩ := lft_some hr
      subst e1
      unfold revD at hz
      split at hz
      · cases hz
        cases rv with
        | lst h1 r1 =>
          refine ⟨_, _, rfl, SqL.of (ok.sub _ _ h1), fun l hl => ?_⟩
          obtain ⟨s, ok'⟩ := ok.laid hl (.lst _)
          exact p _ _ _ s ok' (.lst upd_same (r1.reverse.up s))
      · cases hz⟩
theorem rp_rg {K : PySem.W.Frag} {F : Hp} (lo : Int) : ∀ n : List Nat, RpAll K F (n.map fun i => V.int (lo + (i : Nat))) (n.map fun i => D.int (lo + (i : Nat)))
  | [] => .nil
  | _ :: r => .cons (.int _) (rp_rg lo r)
def kLr (lo hi : Int) : M (List D) := if -100000 ≤ lo ∧ lo ≤ 100000 ∧ -100000 ≤ hi ∧ hi ≤ 100000 then ret (rgs lo (hi - lo).toNat) else fun _ _ => none
theorem kLr_some {lo hi : Int} {ρ : Rho} {w : Wo} {r : Rs (List D)} (h : kLr lo hi ρ w = some r) : r = .ok (rgs lo (hi - lo).toNat) ρ w ∧ RgOk lo hi := by
  unfold kLr at h
  split at h
  · rename_i b
    cases h
    exact ⟨rfl, by unfold RgOk; omega⟩
  · cases h
def nLr1 (m : M D) : M (List D) := bnd m (kInt fun hi => kLr 0 hi)
def nLr2 (ma mb : M D) : M (List D) := bnd ma fun d => bnd mb (kInt fun hi => kInt (fun lo => kLr lo hi) d)
def mLRange1 (m : M D) : M D := bnd (nLr1 m) fun ds => ret (.lst ds)
theorem simN_rg {lo hi : Int} {ρ : Rho} {w : Wo} {r : Rs (List D)} (h : kLr lo hi ρ w = some r) {F : Hp} {σ : L2.St} {H : Hp} (ok : Ok B F ρ w σ H) {Q : VK} (p : PostN B W r F σ Q) : RgOk lo hi ∧ ∀ q, H q = none → Q (.ref q) (upd H q (.lst (rgV lo hi))) := by
  obtain ⟨e, hb⟩ := kLr_some h
  subst e
  refine ⟨hb, fun q hq => ?_⟩
  obtain ⟨ok', nw⟩ := ok.newL hq (vs := rgV lo hi) (ds := rgs lo (hi - lo).toNat) (rp_rg lo _)
  exact p q F _ (Sub.refl F) ok' nw
theorem sn_lrange1 (q : Cq Kf X B W n) (hg2 : Gl X "list") (hm2 : X.mg "list" = none) (hg : Gl X "range") (hm : X.mg "range" = none) (ha : SE X B W a ta ma) (na : starEach [a] X.env = (false, eval a X.env) :: starEach [] X.env := by rfl)
    (nb : starEach [.Call (.Name "range" p2) [a] [] p3] X.env = (false, eval (.Call (.Name "range" p2) [a] [] p3) X.env) :: starEach [] X.env := by rfl) : SN X B W (.Call (.Name "list" p) [.Call (.Name "range" p2) [a] [] p3] [] pos) (tLstRg (tRg1 ta)) (nLr1 ma) := by
  cases q.hX
  exact ⟨pe_listRg q.calm hg2 hm2 (prg_1 hg hm ha.pe na) nb, SimN.of (k := kInt fun hi => kLr 0 hi) (tk := fun x σ H Q => ∃ n, x = V.int n ∧ RgOk 0 n ∧ ∀ q, H q = none → Q (.ref q) (upd H q (.lst (rgV 0 n)))) ha.sim fun d ρ w r hr v F σ H ok rv Q p => by
    obtain ⟨i, e1, hr2⟩ := kInt_some hr
    clear hr
    subst e1
    cases rv
    exact ⟨i, rfl, simN_rg hr2 ok p⟩⟩
theorem se_lrange1 (q : Cq Kf X B W n) (hg2 : Gl X "list") (hm2 : X.mg "list" = none) (hg : Gl X "range") (hm : X.mg "range" = none) (ha : SE X B W a ta ma) (na : starEach [a] X.env = (false, eval a X.env) :: starEach [] X.env := by rfl)
    (nb : starEach [.Call (.Name "range" p2) [a] [] p3] X.env = (false, eval (.Call (.Name "range" p2) [a] [] p3) X.env) :: starEach [] X.env := by rfl) : SE X B W (.Call (.Name "list" p) [.Call (.Name "range" p2) [a] [] p3] [] pos) (tLstRg (tRg1 ta)) (mLRange1 ma) := by
  cases q.hX
  exact ⟨(sn_lrange1 (p := p) (pos := pos) q hg2 hm2 hg hm ha na nb).pe, (sn_lrange1 (p := p) (p2 := p2) (p3 := p3) (pos := pos) q hg2 hm2 hg hm ha na nb).sim.val⟩
end

/-! ### the law's own frame: the source is opened, then the rest runs -/
/-- the law tells True of every script of at most 63 ints -/
def spLaw (K : PySem.W.Frag) : Sp := fun vs H Q _ => ∃ (a : Addr) (ns : List Int),
      vs = [.ref a] ∧ SqL K H a (ns.map V.int) ∧ ns.length ≤ 63 ∧ LamX.Tabs Tbs.T H ∧ ∀ H', Q (.bl true) H'
section
variable {P : Program} {wd : World} {K : PySem.W.Frag} {mg : Str → Option Value} {base : Heap}
/-- what the rest has to do: from any opened source it returns True -/
def Told (nn i : Nat) (m : M Fl) : Prop := ∀ sa ca cells, sa ≠ ca → cells.length ≤ 63 → ∃ ρ w, m ((List.replicate nn Slot.free).set i (.val (.raw (.ref sa)))) (some (src0 sa ca cells)) = some (.ok (.rt (.bl true)) ρ w)
theorem law_ok {st s1 : Stmt} {rest : List Stmt} {f fo : Addr} {fd fdo : FuncData} {N : List Str} {n i : Nat} {m : M Fl} {y : Str} {p1 p2 p3 p4 p5 : Pos} (F : Fun K "law" "law" st f fd) (S : FnScope N ["_law_script"] (defScope st)) (Fo : FnOk P wd K mg base (L2.CX P wd) n fo fdo ["_law_script"] (spOpen K))
    (mo : mg "_law_open_cells" = some (.ref fo)) (ko : PySem.W.keepIn K (.ref fo) = true) (bo : Binds K fdo ["_law_script"] []) (hb : defBody st = s1 :: rest) (h1 : s1 = .Assign [.Name y p1] (.Call (.Name "_law_open_cells" p2) [.Name "_law_script" p3] [] p4) p5) (hi : 0 < i) (hil : i < N.length)
    (head : ∀ (cdv : Value) (A : Around) (outer : List Env) (s : Shared) (H : Hp) (E : XK), Room n (cxOf (L2.CX P wd) P wd K mg base N "law" (defScope st) f cdv A outer s H E).A →
      PS (cxOf (L2.CX P wd) P wd K mg base N "law" (defScope st) f cdv A outer s H E) s1 (tAsg (tCallS (spOpen K) (fun _ => E) (tCons (tVar 0) tNil)) (gName i)))
    (body : ∀ (cdv : Value) (A : Around) (outer : List Env) (s : Shared) (H : Hp) (E : XK), ∃ t, ∀ B : Bs, Body K (cxOf (L2.CX P wd) P wd K mg base N "law" (defScope st) f cdv A outer s H E) B (fun cls d _ H => E cls d H) n →
      SB (cxOf (L2.CX P wd) P wd K mg base N "law" (defScope st) f cdv A outer s H E) B (fun cls d _ H => E cls d H) rest t m)
    (T : Told N.length i m) : FnOk P wd K mg base (L2.CX P wd) (n + 1) f fd ["_law_script"] (spLaw K) := by
  refine F.okX S (fun vs H Q E h => ?_) (fun cdv A outer s H vs Q E hr h => ?_)
  · obtain ⟨a, ns, h, _⟩ := h
    rw [h]
    rfl
  · obtain ⟨a, ns, ev, hs, hl, htb, hq⟩ := h
    subst ev
    obtain ⟨t, hbd⟩ := body cdv A outer s H E
    have hbd := fun B (hBK : B.K = K) => hbd B ⟨⟨rfl, (show K = B.K from hBK.symm), takes_of rfl rfl rfl rfl, hr, rfl, S.nd⟩, passes_of rfl⟩
    have hps := (hbd ⟨K, H, fun _ => none, none⟩ rfl).pss
    refine ⟨tSeq (tAsg (tCallS (spOpen K) (fun _ => E) (tCons (tVar 0) tNil)) (gName i)) t, by rw [hb]; exact pss_cons (head cdv A outer s H E hr) hps, ?_⟩
    refine ⟨.ref a, rfl, a, ns, rfl, hs, by omega, htb, fun H' sa ca keep tb' n1 n2 nsc hsa hca => ?_⟩
    obtain ⟨ρ1, w1, hrun⟩ := T sa ca ns nsc hl
    have ls : (L2.start N [V.ref a]).length = N.length := by
      unfold L2.start
      simp only [List.length_append, List.length_map, List.length_replicate, List.length_singleton]
      omega
    have fr : ∀ (j : Nat) (sl : Slot), ((List.replicate N.length Slot.free).set i (.val (.raw (.ref sa))))[j]? = some sl → sl = .free ∨ (i = j ∧ sl = .val (.raw (.ref sa))) := fun j sl e => by
      by_cases hj : i = j
      · subst hj
        rw [List.getElem?_set_self (by rw [List.length_replicate]; exact hil)] at e
        exact .inr ⟨rfl, (Option.some.inj e).symm⟩
      · rw [List.getElem?_set_ne hj, List.getElem?_replicate] at e
        split at e
        · exact .inl (Option.some.inj e).symm
        · cases e
    have ok0 : Ok ⟨K, H', fun _ => none, some (src0 sa ca ns)⟩ (fun _ => none) ((List.replicate N.length Slot.free).set i (.val (.raw (.ref sa)))) (some (src0 sa ca ns)) ((L2.start N [V.ref a]).set i (some (.ref sa))) H' := by
      refine ⟨fun b o e => (by cases e), Goes.refl _ _ _, ⟨rfl, rfl, nsc, hsa, hca⟩, by rw [List.length_set, List.length_set, List.length_replicate, ls], fun j d e => ?_, fun j ds e => ?_, fun j l b dj dl e => ?_, tb', fun b ps e => (by cases e)⟩
      · rcases fr j _ e with z | ⟨hj, z⟩
        · cases z
        · cases z
          subst hj
          exact ⟨.ref sa, List.getElem?_set_self (by rw [ls]; exact hil), .raw _⟩
      · rcases fr j _ e with z | ⟨_, z⟩ <;> cases z
      · rcases fr j _ e with z | ⟨_, z⟩ <;> cases z
    exact (hbd ⟨K, H', fun _ => none, some (src0 sa ca ns)⟩ rfl).sim _ _ _ hrun _ _ _ ok0 _ fun v F2 σ2 H2 _ _ rv => by
      cases rv
      exact hq H2
end

/-! ### what the top has left -/
/-- a def of the top -/
structure Df (K : PySem.W.Frag) (mg : Str → Option Value) (x : Str) (st : Stmt) (ps : List Str) : Prop where
  ex : ∃ (f : Addr) (fd : FuncData), Fun K x x st f fd ∧ mg x = some (.ref f) ∧ Binds K fd ps []
theorem df_mk {K : PySem.W.Frag} {h : Heap} {mg : Str → Option Value} {x : Str} {st : Stmt} {ps : List Str} {f : Addr} {oc : Value} {od an : Option Addr} {osl : Array (Option Value)} {kV dc pm cd ct : Value} (X : K.In h) (G : h.Ns mainGlobals mg)
    (a : PySem.W.nsIn K mainGlobals x = some (some (.ref f))) (l : K.lookup f = some ⟨oc, od, .func (PySem.W.fnOf x x (defArgs st) (defBody st) (defScope st) .none kV dc pm an cd ct), osl⟩) (c : PySem.W.codeIn K cd x = true) (k : PySem.W.keepIn K (.ref f) = true)
    (hb : ∀ F : Fun K x x st f (PySem.W.fnOf x x (defArgs st) (defBody st) (defScope st) .none kV dc pm an cd ct), Binds K (PySem.W.fnOf x x (defArgs st) (defBody st) (defScope st) .none kV dc pm an cd ct) ps []) : Df K mg x st ps :=
  ⟨f, _, fun_mk l c k, PySem.W.mg_of X G a, hb (fun_mk l c k)⟩
theorem z_of {P : Program} {wd : World} {K : PySem.W.Frag} {mg : Str → Option Value} {base : Heap} {x : Str} {st : Stmt} {ps : List Str} (D : Df K mg x st ps) : Fnc P wd K mg base 0 x ps.length (fun _ _ => none) := by
  obtain ⟨f, fd, F, hm, hb⟩ := D.ex
  exact fnc_zero F hm hb
/-- a written constant's value is these data -/
def CRp (K : PySem.W.Frag) (u : Value) (d : D) : Prop := ∃ v, RelV v u ∧ ∀ F, Rp K F v d
inductive CRpAll (K : PySem.W.Frag) : List Value → List D → Prop
  | nil : CRpAll K [] []
  | cons {u : Value} {us : List Value} {d : D} {ds : List D} : CRp K u d → CRpAll K us ds → CRpAll K (u :: us) (d :: ds)
section
variable {K : PySem.W.Frag}
theorem crp_str {x : Str} {t : Tok} (h : PyData.strOk x = true := by decide +kernel) : CRp K (.str x t) (.str x) := ⟨.str x, ⟨t, rfl⟩, fun _ => .str x h⟩
theorem crp_int {i : Int} {t : Tok} : CRp K (.int i t) (.int i) := ⟨.int i, ⟨t, rfl⟩, fun _ => .int i⟩
theorem crp_bl {b : Bool} : CRp K (.bool b) (.bl b) := ⟨.bl b, rfl, fun _ => .bl b⟩
theorem crp_non : CRp K .none .non := ⟨.non, rfl, fun _ => .non⟩
theorem crp_fn {x : Str} {a : Addr} (h : PySem.W.nsIn K mainGlobals x = some (some (.ref a))) : CRp K (.ref a) (.fn x) := ⟨.ref a, rfl, fun _ => .fn x h⟩
theorem CRpAll.vals {us : List Value} {ds : List D} (h : CRpAll K us ds) : ∃ vs, Vals vs us ∧ ∀ F, RpAll K F vs ds := by
  induction h with
  | nil => exact ⟨[], .nil, fun _ => .nil⟩
  | cons h _ ih =>
    obtain ⟨v, h1, h2⟩ := h
    obtain ⟨vs, g1, g2⟩ := ih
    exact ⟨v :: vs, .cons h1 g1, fun F => .cons (h2 F) (g2 F)⟩
theorem crp_tup {a : Addr} {its : Array Value} {n : Nat} {ds : List D} (l : K.lookup a = some ⟨.type "tuple", none, .seq its n, #[]⟩) (hs : its.size ≤ sizeLine) (h : CRpAll K its.toList ds) : CRp K (.ref a) (.tup ds) := by
  obtain ⟨vs, g1, g2⟩ := h.vals
  exact ⟨.ref a, rfl, fun F => .tup (.inr ⟨_, its, n, l, ⟨rfl, rfl, rfl⟩, rfl, hs, g1⟩) (g2 F)⟩
theorem crp_rol {a : Addr} {its : Array Value} {n : Nat} {ds : List D} (l : K.lookup a = some ⟨.type "list", none, .seq its n, #[]⟩) (hs : its.size ≤ sizeLine) (h : CRpAll K its.toList ds) : CRp K (.ref a) (.rol ds) := by
  obtain ⟨vs, g1, g2⟩ := h.vals
  exact ⟨.ref a, rfl, fun F => .rol (.inr ⟨_, its, n, l, rfl, rfl, rfl, hs, g1⟩) (g2 F)⟩
theorem cg_mk {h : Heap} {mg : Str → Option Value} {x : Str} {u : Value} {d : D} (X : K.In h) (G : h.Ns mainGlobals mg) (a : PySem.W.nsIn K mainGlobals x = some (some u)) (r : CRp K u d) : ∃ v u, mg x = some u ∧ RelV v u ∧ ∀ F, Rp K F v d := by
  obtain ⟨v, h1, h2⟩ := r
  exact ⟨v, u, PySem.W.mg_of X G a, h1, h2⟩
/-- a written dict, entry by entry -/
inductive KDs (K : PySem.W.Frag) (A : Addr) : List (Str × Option D) → Prop
  | nil : KDs K A []
  | on {z : Str} {u : Value} {d : D} {r : List (Str × Option D)} : PySem.W.nsIn K A z = some (some u) → CRp K u d → KDs K A r → KDs K A ((z, some d) :: r)
  | off {z : Str} {r : List (Str × Option D)} : PySem.W.nsIn K A z = some none → KDs K A r → KDs K A ((z, none) :: r)
theorem KDs.at' {A : Addr} {tb : List (Str × Option D)} (h : KDs K A tb) : ∀ z o, tb.lookup z = some o → match o with
    | some d => ∃ u v, PySem.W.nsIn K A z = some (some u) ∧ RelV v u ∧ ∀ F, Rp K F v d
    | none => PySem.W.nsIn K A z = some none := by
  induction h with
  | nil => exact fun z o e => by cases e
  | on g r _ ih =>
    intro z o e
    unfold List.lookup at e
    split at e
    · rename_i q
      cases e
      cases (beq_iff_eq.mp q)
      obtain ⟨v, h1, h2⟩ := r
      exact ⟨_, v, g, h1, h2⟩
    · exact ih z o e
  | off g _ ih =>
    intro z o e
    unfold List.lookup at e
    split at e
    · rename_i q
      cases e
      cases (beq_iff_eq.mp q)
      exact g
    · exact ih z o e
theorem kd_mk {h : Heap} {mg : Str → Option Value} {w : World} {x : Str} {A : Addr} {es : Array DictEntry} {n : Nat} {tb : List (Str × Option D)} (X : K.In h) (G : h.Ns mainGlobals mg) (a : PySem.W.nsIn K mainGlobals x = some (some (.ref A)))
    (l : K.lookup A = some ⟨.type "dict", none, .dict es n, #[]⟩) (k : PySem.W.KeysLit w.params es.toList) (low : (A == sysModules) = false) (t : KDs K A tb) : ∃ A, mg x = some (.ref A) ∧ KD K w A tb :=
  ⟨A, PySem.W.mg_of X G a, ⟨es, n, l, k, low⟩, t.at'⟩
end
theorem tb_all {Pr : Str → Nat → Fn1 → Prop} : ∀ {tb : Tb}, (∀ e ∈ tb, Pr e.1 e.2.1 e.2.2) → ∀ y k g, tb.lookup y = some (k, g) → Pr y k g
  | [], _, _, _, _,
        h => by cases h
  | (z, v) :: r, ha, y, k, g, h => by
    unfold List.lookup at h
    split at h
    · rename_i e
      have e : y = z := by simpa using e
      cases h
      subst e
      exact ha _ List.mem_cons_self
    · exact tb_all (fun e he => ha e (List.mem_cons_of_mem _ he)) y k g h
end DL
set_option Elab.async false
set_option linter.all false
set_option maxRecDepth 100000
set_option
      maxHeartbeats 4000000
/-! DLT: the law's own frame, in which no repr is under way; repr of data. -/
namespace DL
open PySem PySem.Spec PyProof.Rows L2 RZ StX
variable [Tbs]
section
variable {P : Program} {w : World} {K : PySem.W.Frag}
      {mg : Str → Option Value} {base : Heap}
/-- one call of a def, from what stands around it -/
theorem run_at {CXg : CXT} {k : Nat} {f : Addr} {x qual : Str} {st : Stmt} {fd : FuncData} {N ps : List Str} (F : Fun K x qual st f fd) (S : FnScope N ps (defScope st))
    {A : Around} {outer : List Env} {s : Shared} {H : Hp} {args : Args} {us : List Value}
    {vs : List V} {Q : VK} {E : XK} (hr : Room (k + 1) A) (e0 : Env0 P w K mg base A outer s H)
    (hb : BindsTo s fd args (ps.zip us)) (r : Vals vs us) (hl : vs.length = ps.length)
    (hbody : ∀ cdv : Value, fd.code = cdv → Room k (A.deeper (envOfC qual (defScope st) s.heap.objs.size f cdv)) →
      ∃ t, PSs (cxOf CXg P w K mg base N qual (defScope st) f cdv A outer s H E) (defBody st) t ∧
        t { nx := fun _ H' => Q .non H', rt := Q } (start N vs) H) :
    codeAny (model P w) A (.call (.ref f) args) (CR CXg outer P w H s Q E) s := by
  obtain ⟨oc, od, kV, doc, pm, an,
        cdv, ct, osl, rfl, lk, hcd⟩ := F.ex
  have kin : K.In s.heap := e0.mod.kin.keeps
    fun b o e => (e0.bs b o e).1
  have nolim : s.heap.NoLimit := e0.mod.nolimit.keeps
    fun b o e => (e0.bs b o e).1
  have kinds : ∀ y ∈ ps.zip us, (defScope st).names.lookup y.1 = some .local ∨
      ((defScope st).names.lookup y.1 = some .cell ∧
        ((cellsFrom (s.heap.objs.size + 1) (defScope st).names []).lookup y.1).isSome = true) := by
    rintro ⟨n, v⟩ hy
    rcases S.par n (List.of_mem_zip hy).1 with h | h
    · exact Or.inl h
    · exact Or.inr ⟨h, PySem.W.cellsFrom_some _ _ _
        (Or.inl h)⟩
  refine codeAny_call_function hr.depth (kin _ _ lk)
    rfl S.co S.gen rfl (PySem.W.codeRec_of kin hcd) (hb _ _ _ _ ?_)
  refine wpAny_newFunctionEnv_cells S.kind kinds
    fun env he s1 xx => ?_
  subst he
  refine ⟨nolim.keeps xx.toInCall.keep,
    codeAny_func ?_⟩
  obtain ⟨t, ht, hq⟩ := hbody cdv rfl (hr.deeper _)
  have I : Inv (cxOf CXg P w K mg base N qual (defScope st) f cdv A outer s H E) []
      (start N vs) H s1 := inv_start S hr.hd e0 hl r xx
  refine wpAny_mono (ht.run [] s1 (start N vs) H _ I hq)
    ?_ fun e s' hs => hs
  intro fl s' hs
  cases fl with
  | brk =>
    obtain ⟨_, _, _, z⟩ := hs
    cases z
  | cont =>
    obtain ⟨_, _, _, z⟩ := hs
    cases z
  | next =>
    obtain ⟨σ', H', J, z⟩ := hs
    exact ⟨V.non, H', J.os, J.bare, J.base, J.hok, rfl, z⟩
  | ret u =>
    obtain ⟨v, σ', H', J, rv, z⟩ := hs
    exact ⟨v, H', J.os, J.bare, J.base, J.hok, rv, z⟩
end
/-! ### the law's call -/
section
variable {P : Program} {w : World} {K : PySem.W.Frag} {mg mb : Str → Option Value} {CXg : CXT}
/-- one abstract heap of the law's call: the script alone may be in it -/
structure Scr (P : Program) (w : World) (K : PySem.W.Frag) (h : Heap) (a : Addr) (ns : List Int) (H : Hp) : Prop where
  hok : HOk P w H h
  only : ∀ b, H b ≠ none → b = a
  frz : ∀ b, H b ≠ none → ∃ o xs, H b = some (.frz o (.lst xs))
  free : H a ≠ none → K.lookup a = none
  sq : SqL K H a (ns.map V.int)
theorem scr_of {h : Heap} {a : Addr} {vs : List Value} {ns : List Int} (KX : K.In h)
    (ha : h.get? a = some { cls := .type "list", data := .seq vs.toArray })
    (hi : IntsAre vs ns) (hl : ns.length ≤ sizeLine) : ∃ H, Scr P w K h a ns H := by
  have rv := vals_ints hi
  have lv := hi.length
  by_cases hk : K.lookup a = none
  · let ob : Obj := { cls := .type "list", data := .seq vs.toArray }
    let u : HO := .frz ob (.lst (ns.map V.int))
    have at' : ∀ b o, upd (fun _ => none) a u b = some o → b = a ∧ o = u := fun b o e => by
      by_cases hb : b = a
      · subst hb
        rw [upd_same] at e
        exact ⟨rfl, (Option.some.inj e).symm⟩
      · rw [upd_ne hb] at e
        cases e
    refine ⟨upd (fun _ => none) a u, fun b o e => ?_, fun b hb => ?_, fun b hb => ?_, fun _ => hk, ?_⟩
    · obtain ⟨e1, e2⟩ := at' b o e
      subst e1
      subst e2
      exact ⟨ha,
            by rw [List.length_map]; exact hl, vs, _, rv, ha⟩
    · cases q : upd (fun _ => none) a u b with
      | none => exact absurd q hb
      | some o => exact (at' b o q).1
    · cases q : upd (fun _ => none) a u b with
      | none => exact absurd q hb
      | some o =>
        rw [(at' b o q).2]
        exact ⟨_, _, rfl⟩
    · exact .inl (.inr ⟨ob, upd_same⟩)
  · cases q : K.lookup a with
    | none => exact absurd q hk
    | some o =>
      have e := KX a o q
      rw [ha] at e
      cases e
      refine ⟨fun _ => none, fun b o e => (by cases e), fun b hb => absurd rfl hb, fun b hb => absurd rfl hb, fun hb => absurd rfl hb, ?_⟩
      exact .inr ⟨_, vs.toArray, _, q, rfl, rfl, rfl, by rw [List.size_toArray, lv]; exact hl, by simpa using rv⟩
theorem Scr.env0 {s₁ : Shared} {a : Addr} {vs : List Value} {ns : List Int} {H : Hp} (S : Scr P w K s₁.heap a ns H)
    (KX : K.In s₁.heap) (hns : s₁.heap.Ns mainGlobals mg) (hb : s₁.heap.Ns builtinsNs mb)
    (hbb : ∀ x : Str, x ≠ "__name__" → mb x = bootBuiltins x) (hlim : s₁.heap.NoLimit) (hg : s₁.gens = #[])
    (ha : s₁.heap.get? a = some { cls := .type "list", data := .seq vs.toArray }) :
    K.In (hidT s₁.heap H) ∧ (hidT s₁.heap H).Ns mainGlobals mg ∧ Env0 P w K mg (hidT s₁.heap H) callerA [] s₁ H := by
  have free_of : ∀ {b : Addr}, b ≠ a → H b = none := fun {b} n => by
    cases q : H b with
    | none => rfl
    | some u => exact absurd (S.only b (by rw [q]; intro z; cases z)) n
  have dictFree : ∀ {b : Addr} {o : Obj} {es : Array DictEntry} {ep : Nat}, s₁.heap.get? b = some o →
      o.data = .dict es ep → H b = none := fun {b o es ep} e d => free_of fun z => by
    rw [z, ha] at e
    cases e
    exact nomatch d
  have nsT : ∀ {b : Addr} {m : Str → Option Value}, s₁.heap.Ns b m → (hidT s₁.heap H).Ns b m := by
    rintro b m ⟨o, es, ep, e, d, r⟩
    exact ⟨o, es, ep, hidT_get e (dictFree e d), d, r⟩
  have kT : K.In (hidT s₁.heap H) := fun b o e => by
    refine hidT_get (KX b o e) ?_
    by_cases hba : b = a
    · cases q : H b with
      | none => rfl
      | some u =>
        have z := S.free (by rw [← hba, q]; intro z; cases z)
        rw [← hba, e] at z
        cases z
    · exact free_of hba
  obtain ⟨mc, l1, l2⟩ := hlim
  have mo : Mod K mg (hidT s₁.heap H) := ⟨kT, nsT hns, ⟨mb, nsT hb, hbb⟩, ⟨mc, nsT l1, l2⟩⟩
  exact ⟨kT, nsT hns, ⟨rfl, mo, fun b o e => of_hidT e, Nat.le_of_eq (hidT_size _ _), trivial, fun b hb => (nomatch hb), S.hok, .of_eq hg⟩⟩
/-- behind it: all stands as it stood -/
theorem Scr.behind {s₁ s' : Shared} {a : Addr} {ns : List Int} {H : Hp} (S : Scr P w K s₁.heap a ns H) {r : Result} (hCX : ∀ e s', CXg [] H s₁ (fun _ _ _ => False) e s' → False)
    (h : CR CXg [] P w H s₁ (fun v _ => v = V.bl true) (fun _ _ _ => False) r s') :
    r = .ok (.ret (.bool true)) ∧ OldK s₁.heap s'.heap ∧ s'.os = s₁.os ∧ AllBare s'.gens := by
  match r, h with
  | .error e, h => exact (hCX e s' h).elim
  | .ok .next, h => exact False.elim h
  | .ok .brk, h => exact False.elim h
  | .ok .cont, h => exact False.elim h
  | .ok (.ret u), ⟨v, H', os, bare, un, hok', rel, q⟩ =>
    have q : v = .bl true := q
    subst q
    have rel : u = Value.bool true := rel
    subst rel
    refine ⟨rfl, OldK.of_keep
          fun b o e => ?_, os, bare⟩
    by_cases hb : H b = none
    · exact un.keep b o e hb (fun z => nomatch z) fun z => nomatch z
    · obtain ⟨ob, xs, z⟩ := S.frz b hb
      obtain ⟨e1, _⟩ := S.hok b _ z
      obtain ⟨e2, _⟩ := hok' b _ (un.frzs b ob _ z)
      rw [e] at e1
      cases e1
      exact e2
/-- the goal that the head leaves, from one call of the law where no repr is under way -/
theorem walk_at {l : PySem.W.OpenLaw} {n : Nat} {q : Program} {loose : List Str} {XP : (Str → Option Value) → Heap → Prop} {YP : World → Heap → Prop} {d : DefRec} {Kp : Params → PySem.W.Frag}
    (hn : l.most = some n) (hn2 : n ≤ sizeLine) (hdf : d.params.defaults = []) (hY : ∀ (w : World) (h : Heap), YP w h → (Kp w.params).In h)
    (F : ∀ (w : World) (mg : Str → Option Value) (fa : Addr) (h : Heap), (Kp w.params).In h → h.Ns mainGlobals mg → mg d.name = some (.ref fa) →
      ∀ base : Heap, (Kp w.params).In base → base.Ns mainGlobals mg → ∀ (s : Shared) (H : Hp) (a : Addr) (ns : List Int), ns.length ≤ n → Env0 l.prog w (Kp w.params) mg base callerA [] s H →
        SqL (Kp w.params) H a (ns.map V.int) → codeAny (model l.prog w) callerA (.call (.ref fa) ⟨[.ref a], []⟩) (CR (L2.CX l.prog w) [] l.prog w H s (fun v _ => v = V.bl true) fun _ _ _ => False) s) :
    PySem.W.WalkO q loose XP YP l.row.toRowW
          d [] (fun f vs => PySem.call f vs) := by
  refine Att.attach_call hn hdf
        fun w s₀ s₁ mg mb fa o pm cd doc a vs ns G Y ho hd hcd hmg hobj hints hlen hg => ?_
  have KX := hY w _ Y
  obtain ⟨H, S⟩ := scr_of (P := l.prog) (w := w) KX hobj hints (Nat.le_trans hlen hn2)
  obtain ⟨kT, nT, e0⟩ := S.env0 KX G.T.g G.T.b G.T.builtins G.T.nolimit hg hobj
  refine codeAny_mono (F w mg fa _ KX G.T.g hmg _ kT nT s₁ H a ns hlen e0 S.sq) fun r s' h => S.behind (fun e s' c => ?_) h
  obtain ⟨_, _, _, _, _, _, _, _, _, _, _, _, c⟩ := c
  exact c
end
/-! ### the law's def, at its one call -/
section
variable {P : Program} {wd : World} {K : PySem.W.Frag} {mg : Str → Option Value} {base : Heap}
abbrev cxL (P : Program) (wd : World) (K : PySem.W.Frag) (mg : Str → Option Value) (base : Heap) (N : List Str) (st : Stmt) (f : Addr) (cdv : Value) (s : Shared) (H : Hp) : Cx :=
  cxOf (L2.CX P wd) P wd K mg base N "law" (defScope st) f cdv callerA [] s H fun _ _ _ => False
theorem law_okG {st s1 : Stmt} {rest : List Stmt} {f fo : Addr} {fd fdo : FuncData} {N : List Str} {n i : Nat} {m : M Fl} {y : Str} {p1 p2 p3 p4 p5 : Pos} (F : Fun K "law" "law" st f fd) (S : FnScope N ["_law_script"] (defScope st)) (Fo : FnOk P wd K mg base (L2.CX P wd) n fo fdo ["_law_script"] (spOpen K))
    (hbind : ∀ (s : Shared) (v : Value), BindsTo s fd ⟨[v], []⟩ [("_law_script", v)]) (hr0 : Room (n + 1) callerA)
    (hb : defBody st = s1 :: rest) (h1 : s1 = .Assign [.Name y p1] (.Call (.Name "_law_open_cells" p2) [.Name "_law_script" p3] [] p4) p5) (hi : 0 < i) (hil : i < N.length)
    (head : ∀ (cdv : Value) (s : Shared) (H : Hp), Room n (cxL P wd K mg base N st f cdv s H).A →
      PS (cxL P wd K mg base N st f cdv s H) s1 (tAsg (tCallS (spOpen K) (fun _ => fun _ _ _ => False) (tCons (tVar 0) tNil)) (gName i)))
    (body : ∀ (cdv : Value) (s : Shared) (H : Hp), ∃ t, ∀ B : Bs, Body K (cxL P wd K mg base N st f cdv s H) B (fun _ _ _ _ => False) n → (cxL P wd K mg base N st f cdv s H).A.guards = some [] →
      SB (cxL P wd K mg base N st f cdv s H) B (fun _ _ _ _ => False) rest t m)
    (T : Told N.length i m) (s : Shared) (H : Hp) (a : Addr) (ns : List Int) (hl : ns.length ≤ 63) (htb : LamX.Tabs Tbs.T H) (e0 : Env0 P wd K mg base callerA [] s H) (hs : SqL K H a (ns.map V.int)) :
    codeAny (model P wd) callerA (.call (.ref f) ⟨[.ref a], []⟩) (CR (L2.CX P wd) [] P wd H s (fun v _ => v = V.bl true) fun _ _ _ => False) s := by
  refine run_at (vs := [.ref a]) (us := [.ref a]) (ps := ["_law_script"]) F S hr0 e0 (hbind s (.ref a)) (.cons rfl .nil) rfl fun cdv _ hr => ?_
  obtain ⟨t, hbd⟩ := body cdv s H
  have hbd := fun B (hBK : B.K = K) => hbd B ⟨⟨rfl, (show K = B.K from hBK.symm), takes_of rfl rfl rfl rfl, hr, rfl, S.nd⟩, passes_of rfl⟩ rfl
  have hps := (hbd ⟨K, H, fun _ => none, none⟩ rfl).pss
  refine ⟨tSeq (tAsg (tCallS (spOpen K) (fun _ => fun _ _ _ => False) (tCons (tVar 0) tNil)) (gName i)) t, by rw [hb]; exact pss_cons (head cdv s H hr) hps, ?_⟩
  refine ⟨.ref a, rfl, a, ns, rfl, hs, by omega, htb, fun H' sa ca keep tb' n1 n2 nsc hsa hca => ?_⟩
  obtain ⟨ρ1, w1, hrun⟩ := T sa ca ns nsc hl
  have ls : (L2.start N [V.ref a]).length = N.length := by
    unfold L2.start
    simp only [List.length_append, List.length_map, List.length_replicate, List.length_singleton]
    omega
  have fr : ∀ (j : Nat) (sl : Slot), ((List.replicate N.length Slot.free).set i (.val (.raw (.ref sa))))[j]? = some sl → sl = .free ∨ (i = j ∧ sl = .val (.raw (.ref sa))) := fun j sl e => by
    by_cases hj : i = j
    · subst hj
      rw [List.getElem?_set_self (by rw [List.length_replicate]; exact hil)] at e
      exact .inr ⟨rfl, (Option.some.inj e).symm⟩
    · rw [List.getElem?_set_ne hj, List.getElem?_replicate] at e
      split at e
      · exact .inl (Option.some.inj e).symm
      · cases e
  have ok0 : Ok ⟨K, H', fun _ => none, some (src0 sa ca ns)⟩ (fun _ => none) ((List.replicate N.length Slot.free).set i (.val (.raw (.ref sa)))) (some (src0 sa ca ns)) ((L2.start N [V.ref a]).set i (some (.ref sa))) H' := by
    refine ⟨fun b o e => (by cases e), Goes.refl _ _ _, ⟨rfl, rfl, nsc, hsa, hca⟩, by rw [List.length_set, List.length_set, List.length_replicate, ls], fun j d e => ?_, fun j ds e => ?_, fun j l b dj dl e => ?_, tb', fun b ps e => (by cases e)⟩
    · rcases fr j _ e with z | ⟨hj, z⟩
      · cases z
      · cases z
        subst hj
        exact ⟨.ref sa, List.getElem?_set_self (by rw [ls]; exact hil), .raw _⟩
    · rcases fr j _ e with z | ⟨_, z⟩ <;> cases z
    · rcases fr j _ e with z | ⟨_, z⟩ <;> cases z
  exact (hbd ⟨K, H', fun _ => none, some (src0 sa ca ns)⟩ rfl).sim _ _ _ hrun _ _ _ ok0 _ fun v F2 σ2 H2 _ _ rv => by
    cases rv
    rfl
end
/-! ### repr of data -/
mutual
/-- data in tuples, with dicts that hold nothing -/
def datE : Nat → D → Bool
  | _, .non => true
  | _, .bl _ => true
  | _, .int _ => true
  | _, .str _ => true
  | n + 1, .tup xs => datsE n xs
  | _ + 1, .dct ks ds => ks.isEmpty && ds.isEmpty
  | _, _ => false
def datsE : Nat → List D → Bool
  | _, [] => true
  | n, x :: xs => datE n x && datsE n xs
end
mutual
def toPE : D → PyData
  | .non => .none
  | .bl b => .bool b
  | .int i => .int i
  | .str x => .str x
  | .tup xs => .tuple (toPsE xs)
  | .dct _ _ => .dict []
  | _ => .none
def toPsE : List D → List PyData
  | [] => []
  | x :: xs => toPE x :: toPsE xs
end
section
variable {X : Cx} {pins : List (Addr × Obj)} {σ : L2.St} {F H : Hp} {s : Shared}
mutual
theorem readsE (I : Inv X pins σ H s) (sub : Sub F H) : ∀ (n : Nat) (d : D) (v : V) (u : Value), datE n d = true → Rp X.K F v d → RelV v u → ∃ as, Reads s.heap u (toPE d) as ∧ sysModules ∉ as ∧ (toPE d).depth ≤ n
  | n, .non, _, _, h, r, q => by
    cases r
    cases q
    exact ⟨_, Reads.none, List.not_mem_nil, by simp [toPE, PyData.depth]⟩
  | n, .bl _, _, _, h, r, q => by
    cases r
    cases q
    exact ⟨_, Reads.bool _, List.not_mem_nil, by simp [toPE, PyData.depth]⟩
  | n, .int _, _, _, h, r, q => by
    cases r
    obtain ⟨t, rfl⟩ := q
    exact ⟨_, Reads.int _ t, List.not_mem_nil, by simp [toPE, PyData.depth]⟩
  | n, .str _, _, _, h, r, q => by
    cases r
    obtain ⟨t, rfl⟩ := q
    exact ⟨_, Reads.str _ t, List.not_mem_nil, by simp [toPE, PyData.depth]⟩
  | 0, .tup _, _, _, h, _, _ => by simp [datE] at h
  | n + 1, .tup ds, _, _, h, r, q => by
    cases r with
    | tup h1 h2 =>
      cases q
      obtain ⟨its, rv, ⟨o, ho, hc, k, hd⟩, _⟩ := I.tuple (sub.sqP h1).sqT
      obtain ⟨as, hr, hm, hp⟩ := readsAllE I sub n ds _ its (by simpa [datE] using h) h2 rv
      exact ⟨_, Reads.tuple ho hc hd hr, hm, by simp only [toPE, PyData.depth]; omega⟩
  | 0, .dct _ _, _, _, h, _, _ => by simp [datE] at h
  | n + 1, .dct ks ds, _, _, h, r, q => by
    cases ks with
    | cons a b => simp [datE] at h
    | nil =>
      cases ds with
      | cons a b => simp [datE] at h
      | nil =>
        cases r with
        | dct h1 h2 h3 =>
          cases h3
          cases q
          obtain ⟨_, hz, vs, kv, o, es, ep, ho, hx, hd, _, hp, _⟩ := dk_of I.hok (sub _ _ h1)
          cases kv
          have he : es.toList = [] := by
            cases e : es.toList with
            | nil => rfl
            | cons x y => rw [e] at hp; cases hp
          refine ⟨_, Reads.dict (kvs := []) (as := []) (bs := []) ho hx.1 hd (by rw [he]; exact .nil) (by rw [he]; exact .nil), fun z => ?_, by simp [toPE, PyData.depth, PyData.depthKv]⟩
          rcases List.mem_cons.mp
                z with z | z
          · rw [← z] at hz
            simp at hz
          · cases z
  | n, .lst _, _, _, h, _, _ => by cases n <;> simp [datE] at h
  | n, .raw _, _, _, h, _, _ => by cases n <;> simp [datE] at h
  | n, .fn _, _, _, h, _, _ => by cases n <;> simp [datE] at h
  | n, .pr _ _, _, _, h, _, _ => by cases n <;> simp [datE] at h
  | n, .rol _, _, _, h, _, _ => by cases n <;> simp [datE] at h
theorem readsAllE (I : Inv X pins σ H s) (sub : Sub F H) : ∀ (n : Nat) (ds : List D) (vs : List V) (us : List Value), datsE n ds = true → RpAll X.K F vs ds → Vals vs us → ∃ as, ReadsAll s.heap us (toPsE ds) as ∧ sysModules ∉ as ∧ PyData.depthAll (toPsE ds) ≤ n
  | n, [], _, _, h, r, q => by
    cases r
    cases q
    exact ⟨_, ReadsAll.nil, List.not_mem_nil, by simp [toPsE, PyData.depthAll]⟩
  | n, d :: ds, _, _, h, r, q => by
    simp only [datsE, Bool.and_eq_true] at h
    cases r with
    | cons r1 r2 =>
      cases q with
      | cons q1 q2 =>
        obtain ⟨as, a1, a2, a3⟩ := readsE I sub n d _ _ h.1 r1 q1
        obtain ⟨bs, b1, b2, b3⟩ := readsAllE I sub n ds _ _ h.2 r2 q2
        exact ⟨_, ReadsAll.cons a1 b1, fun z => (List.mem_append.mp z).elim a2 b2, by simp only [toPsE, PyData.depthAll]; omega⟩
end
end
/-- a tuple or a dict -/
def refE : D → Bool
  | .tup _ => true
  | .dct _ _ => true
  | _ => false
def reprE (d : D) : Option D := if refE d && datE 60 d && (toPE d).showable && decide ((toPE d).shown.length ≤ 100000) && PyData.strOk (toPE d).shown then some (.str (toPE d).shown) else none
def reprD : List D → Option D
  | [d] => if dat 60 d && (toP d).showable && decide ((toP d).shown.length ≤ 100000) && PyData.strOk (toP d).shown then some (.str (toP d).shown) else reprE d
  | _ => none
def rRepr1 (K : PySem.W.Frag) : List V → Hp → VK → Prop := fun xs H Q => ∃ x d, xs = [x] ∧ Dp K H x d ∧ SeqAt.shaped d = true ∧ d.showable = true ∧ d.shown.length ≤ sizeLine ∧ Q (.str d.shown) H
def rRepr2 (K : PySem.W.Frag) : List V → Hp → VK → Prop := fun xs H Q => ∃ a d F, xs = [.ref a] ∧ Sub F H ∧ datE 60 d = true ∧ Rp K F (.ref a) d ∧ (toPE d).showable = true ∧ (toPE d).shown.length ≤ sizeLine ∧ Q (.str (toPE d).shown) H
def rRepr (K : PySem.W.Frag) : List V → Hp → VK → Prop := fun xs H Q => rRepr1 K xs H Q ∨ rRepr2 K xs H Q
section
variable {X : Cx} {Kf : PySem.W.Frag} {B : Bs} {W : WX} {n : Nat} {e : Expr} {es : List Expr} {ts : TA} {ms : M (List D)} {p pos : Pos}
theorem call_reprD (hg : X.A.guards = some []) (hu : X.A.units + 70 < cLine) : CallR X (.builtin "repr") (rRepr1 X.K) := by
  intro pins s σ
        H xs us Q I r h
  obtain ⟨x, d, ex, hd, sd, sh, sz, q⟩ := h
  subst ex
  cases r with
  | cons r1 r2 =>
    cases r2
    obtain ⟨as, rd⟩ := Dp.reads I d x _ hd r1
    have hz : d.depth ≤ 64 := by
      unfold SeqAt.shaped at sd
      rw [Bool.and_eq_true] at sd
      exact of_decide_eq_true sd.2
    have nd : d.hasDict = false := by
      unfold SeqAt.shaped at sd
      rw [Bool.and_eq_true] at sd
      exact PyData.hasDict_of_canLay d sd.1
    have fin : ∀ (h' : Heap) (u tk : Tok), (∀ b o, s.heap.get? b = some o → h'.get? b = some o) → EP X pins σ Q (.str d.shown u) { s with heap := h', toks := tk } := fun h' u tk hk => ⟨.str d.shown, H, I.kept (t' := tk) hk, ⟨u, rfl⟩, q⟩
    have fin0 : ∀ (u tk : Tok), EP X pins σ Q (.str d.shown u) { s with toks := tk } := fun u tk => fin s.heap u tk fun _ _ e => e
    cases hd with
    | non =>
      cases r1
      exact PySem.P.repr_of_none (by simpa [PyData.shown] using fin0 s.toks (s.toks + 1))
    | bl b =>
      cases r1
      exact PySem.P.repr_of_bool (by simpa [PyData.shown] using fin0 s.toks (s.toks + 1))
    | int i =>
      obtain ⟨t, rfl⟩ := r1
      exact PySem.P.repr_of_int (by simpa [PyData.showable] using sh) (by simpa [PyData.shown] using fin0 s.toks (s.toks + 1))
    | str x =>
      obtain ⟨t, rfl⟩ := r1
      exact PySem.P.repr_of_str (by simpa [PyData.shown] using fin0 s.toks (s.toks + 1)) (by simpa [PyData.shown] using sz)
    | lst h1 h2 =>
      cases r1
      exact PySem.repr_of_reads' rd sh (PyData.noDict_hsm nd) hg (by omega) (fun _ _ e => e) fin sz
    | tup h1 h2 =>
      cases r1
      exact PySem.repr_of_reads' rd sh (PyData.noDict_hsm nd) hg (by omega) (fun _ _ e => e) fin sz
theorem call_reprE (hg : X.A.guards = some []) (hu : X.A.units + 70 < cLine) : CallR X (.builtin "repr") (rRepr2 X.K) := by
  intro pins s σ
        H xs us Q I r h
  obtain ⟨a, d, F, ex, sub, sd, hd, sh, sz, q⟩ := h
  subst ex
  cases r with
  | cons r1 r2 =>
    cases r2
    obtain ⟨as, rd, hm, hz⟩ := readsE I sub 60 d _ _ sd hd r1
    cases (show _ = Value.ref a from r1)
    exact PySem.repr_of_reads' rd sh (fun _ => hm) hg (by omega) (fun _ _ e => e) (fun h' u tk hk => ⟨.str (toPE d).shown, H, I.kept (t' := tk) hk, ⟨u, rfl⟩, q⟩) sz
theorem call_reprA (hg : X.A.guards = some []) (hu : X.A.units + 70 < cLine) : CallR X (.builtin "repr") (rRepr X.K) := by
  intro pins s σ
        H xs us Q I r h
  rcases h with h | h
  · exact call_reprD hg hu pins s σ H xs us Q I r h
  · exact call_reprE hg hu pins s σ H xs us Q I r h
theorem cas_repr : CaS B W (rRepr B.K) fun ds => lft (reprD ds) := by
  refine .pure fun ds d h F H vs sub rs Q q _ _ => ?_
  unfold reprD at h
  split at h
  · split at h
    · rename_i hc
      rw [Bool.and_eq_true, Bool.and_eq_true, Bool.and_eq_true] at hc
      obtain ⟨⟨⟨h1, h2⟩, h3⟩, h4⟩ := hc
      cases h
      obtain ⟨v, ev, rv⟩ := rs.one
      subst ev
      obtain ⟨g1, g2⟩ := rp_shaped sub h1 rv
      exact .inl ⟨v, _, rfl, g1, g2, h2, small (of_decide_eq_true h3), q _ (.str _ h4)⟩
    · unfold reprE at h
      split at h
      · rename_i d0 _ hc
        rw [Bool.and_eq_true, Bool.and_eq_true, Bool.and_eq_true, Bool.and_eq_true] at hc
        obtain ⟨⟨⟨⟨h0, h1⟩, h2⟩, h3⟩, h4⟩ := hc
        cases h
        obtain ⟨v, ev, rv⟩ := rs.one
        subst ev
        obtain ⟨a, rfl⟩ : ∃ a, v = .ref a := by
          cases rv with
          | tup _ _ => exact ⟨_, rfl⟩
          | dct _ _ _ => exact ⟨_, rfl⟩
          | _ => simp [refE] at h0
        exact .inr ⟨a, d0, F, rfl, sub, h1, rv, h2, small (of_decide_eq_true h3), q _ (.str _ h4)⟩
      · cases h
  · cases h
theorem Cq.u70 {Kf : PySem.W.Frag} {X : Cx} {B : Bs} {W : WX} {n : Nat} (q : Cq Kf X B W n) : X.A.units + 70 < cLine := by
  cases q.hX
  have := q.hr.un; omega
theorem se_repr (qg : X.A.guards = some []) (q : Cq Kf X B W n) (hg : Gl X "repr") (hm : X.mg "repr" = none) (ha : SA X B W (e :: es) ts ms) (he : starEach (e :: es) X.env = (false, eval e X.env) :: starEach es X.env := by rfl) (hpl : (backTo pos (starEach es X.env)).any (·.1) = false := by rfl) :
    SE X B W (.Call (.Name "repr" p) (e :: es) [] pos) (tCB (rRepr Kf) ts) (bnd ms fun ds => lft (reprD ds)) := by
  have u := q.u70
  cases q.hX
  exact se_cb (call_reprA qg u) (by rw [q.hK]; exact cas_repr) hg hm (by decide +kernel) ha (by decide) (by decide) he hpl
end
end DL
set_option Elab.async false
set_option linter.all false
set_option maxRecDepth 100000
set_option
      maxHeartbeats 4000000
/-! DLU: {k: v, ..}[x], the keys written texts. -/
namespace DL
open PySem PySem.Spec PyProof.Rows L2 RZ StX
variable [Tbs]
section
variable {B : Bs} {F : Hp} {ρ : Rho} {w : Wo} {σ : L2.St} {H : Hp} {p : Addr} {o o' : HO}
theorem Ok.putIn (k : Ok B F ρ w σ H) (h : H p = none) : Ok (B.plus p o) F ρ w σ (upd H p o) := by
  obtain ⟨h0, hF, hw⟩ := k.fresh h
  have ne : ∀ {a : Addr} {u : HO}, F a = some u → a ≠ p := fun {a u} e z => by rw [z, hF] at e; cases e
  have pl : ∀ {a : Addr}, a ≠ p → (B.plus p o).H a = B.H a := fun {a} n => upd_ne n
  refine ⟨fun a u e => ?_, ⟨k.go.sub, fun a u e n nt => ?_, fun a u e => ?_, k.go.old, fun a e => ?_, fun _ => tabs_put k.tab (pn_none h)⟩, wd_upd k.wd hw fun _ _ => rfl, k.len, k.val, fun i ds e => ?_, k.inj, tabs_put k.tab (pn_none h), k.nt⟩
  · rw [upd_ne (ne e)]
    exact k.sub a u e
  · by_cases ha : a = p
    · subst ha
      have e : upd B.H a o a = some u := e
      rw [upd_same] at e ⊢
      exact e
    · rw [pl ha] at e
      rw [upd_ne ha]
      exact k.go.keep a u e n nt
  · rcases k.go.frs a u e with z | z
    · exact .inl z
    · exact .inr ⟨by rw [pl (ne e)]; exact z.1, z.2⟩
  · rcases k.go.new a e with z | z
    · exact .inl z
    · exact .inr (by rw [pl fun q => hw (q ▸ e)]; exact z)
  · obtain ⟨a, us, h1, h2, h3, h4, h5, h6⟩ := k.own i ds e
    have na : a ≠ p := ne_of_none h2 h
    exact ⟨a, us, h1, by rw [upd_ne na]; exact h2, h3, by rw [pl na]; exact h4, h5, h6⟩
/-- it is taken out of what must stay -/
theorem Ok.takeOut (no : (∀ ps, o ≠ .tbl ps) ∧ ∀ c q, o ≠ LamX.CodeO c q) (h0 : noTb (B.H p) = none) (hw : p ∉ adr B.w) (hF : B.F p = none) (k : Ok (B.plus p o) F ρ w σ H) : Ok B F ρ w σ H ∧ H p = some o ∧ F p = none ∧ p ∉ adr w ∧ ∀ (i : Nat) (ds : List D), ρ[i]? = some (Slot.own ds) → σ[i]? ≠ some (some (V.ref p)) := by
  have at' : (B.plus p o).H p = some o := upd_same
  have pl : ∀ {a : Addr}, a ≠ p → (B.plus p o).H a = B.H a := fun {a} n => upd_ne n
  have back : ∀ {a : Addr}, noTb ((B.plus p o).H a) = none → noTb (B.H a) = none := fun {a} e => by
    by_cases ha : a = p
    · rw [ha]; exact h0
    · rw [← pl ha]; exact e
  have nF : F p = none := by
    cases q : F p with
    | none => rfl
    | some u =>
      rcases k.go.frs p u q with z | z
      · have z : B.F p = some u := z
        rw [hF] at z
        cases z
      · exact (noTb_no z.1 at' no.1).elim
  have nw : p ∉ adr w := fun z => by
    rcases k.go.new p z with q | q
    · exact hw q
    · exact noTb_no q at' no.1
  refine ⟨⟨k.sub, ⟨k.go.sub, fun a u e n nt => k.go.keep a u ?_ n nt, fun a u e => (k.go.frs a u e).imp id fun z => ⟨back z.1, z.2⟩, k.go.old, fun a e => (k.go.new a e).imp id back, fun _ => k.tab⟩, k.wd, k.len, k.val, fun i ds e => ?_, k.inj, k.tab, k.nt⟩, k.go.keep p o at' hw no.1, nF, nw, fun i ds e z => ?_⟩
  · rw [pl fun q => by rw [q] at e; exact noTb_no h0 e nt]
    exact e
  · obtain ⟨a, us, h1, h2, h3, h4, h5, h6⟩ := k.own i ds e
    exact ⟨a, us, h1, h2, h3, back h4, h5, h6⟩
  · obtain ⟨a, us, h1, h2, h3, h4, h5, h6⟩ := k.own i ds e
    rw [h1] at z
    cases z
    exact noTb_no h4 at' no.1
/-- it changes -/
theorem Ok.putNew (no : (∀ ps, o ≠ .tbl ps) ∧ ∀ c q, o ≠ LamX.CodeO c q) (h0 : noTb (B.H p) = none) (hw : p ∉ adr B.w) (hF : B.F p = none) (k : Ok (B.plus p o) F ρ w σ H) : Ok (B.plus p o') F ρ w σ (upd H p o') := by
  obtain ⟨k1, h1, nF, nw, ns⟩ := k.takeOut no h0 hw hF
  have pl : ∀ {a : Addr}, a ≠ p → (B.plus p o').H a = B.H a := fun {a} n => upd_ne n
  refine ⟨fun a u e => ?_, ⟨k1.go.sub, fun a u e n nt => ?_, fun a u e => ?_, k1.go.old, fun a e => ?_, fun _ => tabs_put k1.tab (fun u e => by rw [h1] at e; cases e; exact no)⟩, wd_upd k1.wd nw fun _ _ => rfl, k1.len, k1.val, fun i ds e => ?_, k1.inj, tabs_put k1.tab (fun u e => by rw [h1] at e; cases e; exact no), k1.nt⟩
  · rw [upd_ne fun z => by rw [z, nF] at e; cases e]
    exact k1.sub a u e
  · by_cases ha : a = p
    · subst ha
      have e : upd B.H a o' a = some u := e
      rw [upd_same] at e ⊢
      exact e
    · rw [pl ha] at e
      rw [upd_ne ha]
      exact k1.go.keep a u e n nt
  · rcases k1.go.frs a u e with z | z
    · exact .inl z
    · exact .inr ⟨by rw [pl fun q => by rw [q, nF] at e; cases e]; exact z.1, z.2⟩
  · rcases k1.go.new a e with z | z
    · exact .inl z
    · exact .inr (by rw [pl fun q => nw (q ▸ e)]; exact z)
  · obtain ⟨a, us, g1, g2, g3, g4, g5, g6⟩ := k1.own i ds e
    have na : a ≠ p := fun z => ns i ds e (by rw [g1, z])
    exact ⟨a, us, g1, by rw [upd_ne na]; exact g2, g3, by rw [pl na]; exact g4, g5, g6⟩
end
theorem no_dK {vs : List (Key × V)} : (∀ ps, HO.dK vs ≠ .tbl ps) ∧ ∀ c q, HO.dK vs ≠ LamX.CodeO c q := ⟨fun _ z => (by cases z), fun c q z => (by unfold LamX.CodeO at z; cases z)⟩
/-! ### the pairs -/
def RPs (B : Bs) (ks : List Str) : Hp → List (V × V) → List D → Prop := fun F ps ds => ∃ vs, ps = (ks.zip vs).map (fun kv => (V.str kv.1, kv.2)) ∧ vs.length = ks.length ∧ RpAll B.K F vs ds
structure SPs (X : Cx) (B : Bs) (W : WX) (pos : Pos) (keys : List (Option Expr)) (vals : List Expr) (ks : List Str) (trs : List (TE × TE)) (ms : M (List D)) : Prop where
  pps : PPs X pos keys vals trs
  sim : Sim B W (RPs B ks) (tPairs trs) ms
section
variable {X : Cx} {Kf : PySem.W.Frag} {B : Bs} {W : WX} {n : Nat} {a e : Expr} {ta te : TE} {ma me : M D} {pos p p2 : Pos} {keys : List (Option Expr)} {vals : List Expr} {ks : List Str} {trs : List (TE × TE)} {ms : M (List D)} {k : Str}
theorem sps_nil : SPs X B W pos [] [] [] [] mNil := ⟨pps_nil, fun ρ w r hr F σ H ok Q q => by
  cases hr
  exact q [] F H (Sub.refl F) ok ⟨[], rfl, rfl, .nil⟩⟩
theorem sps_cons {j : Nat} (hk : PyData.strOk k = true) (h : SE X B W e te me) (hs : SPs X B W pos keys vals ks trs ms) : SPs X B W pos (some (.Constant (.str k) j p) :: keys) (e :: vals) (k :: ks) ((tC (.str k), te) :: trs) (mCons me ms) :=
  ⟨pps_cons pe_str h.pe hs.pps, by
    intro ρ w r hr F σ H ok Q q
    show te σ H fun v H1 => tPairs trs σ H1 fun ps H2 => Q ((.str k, v) :: ps) H2
    refine (Sim.bnd (R' := RPs B (k :: ks)) (tk := fun x σ H Q => tPairs trs σ H fun ps H2 => Q ((.str k, x) :: ps) H2) h.sim fun d ρ1 w1 r1 hr1 x F1 σ1 H1 ok1 rx Q1 p1 => ?_) ρ w r hr F σ H ok Q q
    unfold DL.bnd at hr1
    cases h : ms ρ1 w1 with
    | none => rw [h] at hr1; cases hr1
    | some r2 =>
      rw [h] at hr1
      cases r2 with
      | ok ds ρ2 w2 =>
        cases hr1
        refine hs.sim ρ1 w1 _ h F1 σ1 H1 ok1 _ fun ps F2 H2 s2 ok2 rs => ?_
        obtain ⟨vs, e1, e2, e3⟩ := rs
        subst e1
        exact p1 _ F2 H2 s2 ok2 ⟨x :: vs, rfl, by simp [e2], .cons (rx.up s2) e3⟩
      | exc z ρ2 w2 =>
        cases hr1
        exact hs.sim ρ1 w1 _ h F1 σ1 H1 ok1 _ fun d F2 H2 s2 ok2 q => p1 d F2 H2 s2 ok2 q⟩
def lookD : List Str → List D → Str → Option D
  | k :: ks, d :: ds, z => if k = z then some d else lookD ks ds z
  | _, _, _ => none
def kLook (ks : List Str) (ds : List D) : D → M D
  | .str z => lft (lookD ks ds z)
  | _ => fun _ _ => none
theorem kLook_some {ks : List Str} {ds : List D} {d : D} {ρ : Rho} {w : Wo} {r : Rs D} (h : kLook ks ds d ρ w = some r) : ∃ z d', d = .str z ∧ lookD ks ds z = some d' ∧ r = .ok d' ρ w := by
  cases d with
  | str z =>
    obtain ⟨d', h1, h2⟩ := lft_some (show lft (lookD ks ds z) ρ w = some r from h)
    exact ⟨z, d', rfl, h1, h2⟩
  | _ => cases h
def mDget (ks : List Str) (ms : M (List D)) (mi : M D) : M D := bnd ms fun ds => bnd mi (kLook ks ds)
def nodupS : List Str → Bool
  | [] => true
  | k :: ks => !(ks.contains k) && nodupS ks
theorem nodupS_ok : ∀ {ks : List Str}, nodupS ks = true → ks.Nodup
  | [], _ => .nil
  | k :: ks, h => by
    simp only [nodupS, Bool.and_eq_true, Bool.not_eq_true'] at h
    refine List.nodup_cons.mpr ⟨fun m => ?_, nodupS_ok h.2⟩
    have := List.contains_iff_mem.mpr m
    rw [this] at h
    cases h.1
theorem merge_fresh : ∀ (ks : List Str) (vs : List V) (acc : List (Key × V)), ks.Nodup → vs.length = ks.length → (∀ k ∈ ks, valV acc (.inr k) = none) → mergeK acc ((ks.zip vs).map fun kv => ((.inr kv.1 : Key), kv.2)) = acc ++ (ks.zip vs).map fun kv => ((.inr kv.1 : Key), kv.2)
  | [], vs, acc, _, hl, _ => by
    cases vs with
    | nil => simp [mergeK]
    | cons v vs => simp at hl
  | k :: ks, vs, acc, hn, hl, hf => by
    cases vs with
    | nil => simp at hl
    | cons v vs =>
      obtain ⟨n1, n2⟩ := List.nodup_cons.mp hn
      have e : mergeK acc (((k :: ks).zip (v :: vs)).map fun kv => ((.inr kv.1 : Key), kv.2)) = mergeK (L2.putK acc (.inr k) v) ((ks.zip vs).map fun kv => ((.inr kv.1 : Key), kv.2)) := rfl
      rw [e, putK_new v (hf k List.mem_cons_self), merge_fresh ks vs _ n2 (by simpa using hl) fun k' hk' => ?_]
      · simp
      · rw [valV_snoc _ _ _ _ (hf k List.mem_cons_self), if_neg fun z => n1 (by cases z; exact hk')]
        exact hf k' (List.mem_cons_of_mem _ hk')
theorem look_val {K : PySem.W.Frag} {F : Hp} : ∀ {ks : List Str} {vs : List V} {ds : List D} {z : Str} {d : D}, RpAll K F vs ds → vs.length = ks.length → lookD ks ds z = some d → ∃ v, valV ((ks.zip vs).map fun kv => ((.inr kv.1 : Key), kv.2)) (.inr z) = some v ∧ Rp K F v d
  | [], _, _, _, _, _, _, h => by simp [lookD] at h
  | k :: ks, _, [], _, _, _, _, h => by simp [lookD] at h
  | k :: ks, _, d :: ds, z, d', r, hl, h => by
    cases r with
    | cons r1 r2 =>
      unfold lookD at h
      split at h
      · rename_i e
        cases h
        exact ⟨_, valV_pos (by rw [e]), r1⟩
      · rename_i e
        obtain ⟨v, h1, h2⟩ := look_val r2 (by simpa using hl) h
        refine ⟨v, ?_, h2⟩
        rw [List.zip_cons_cons, List.map_cons, valV_neg fun q => e (by cases q; rfl)]
        exact h1
theorem se_dispget {dpos : Pos} (q : Cq Kf X B W n) (hs : ∀ B' : Bs, Kf = B'.K → Cq Kf X B' W n → SPs X B' W dpos keys vals ks trs ms) (hi : ∀ B' : Bs, Kf = B'.K → Cq Kf X B' W n → SE X B' W a ta ma) (hn : nodupS ks = true) (hl15 : ks.length ≤ 15) (hall : keys.all (·.isSome) = true := by rfl) (hl : keys.length = vals.length := by rfl) (h0 : keys ≠ [] := by intro h; exact nomatch h)
    (hlim : decide (keys.length ≤ 15) = true := by rfl) (hsl : NoSl a := by intro _ _; rfl) : SE X B W (.Subscript (.Dict keys vals dpos) a pos) (tDGet (tDisp trs) ta) (mDget ks ms ma) := by
  refine ⟨pe_dget (by have := q.u65; omega) (pe_disp (hs B q.hK q).pps hall hl h0 (of_decide_eq_true hlim)) (hi B q.hK q).pe hsl, ?_⟩
  intro ρ w r hr F σ H ok Q post
  intro pp hp
  obtain ⟨n0, nF, nw⟩ := ok.fresh hp
  have bF : B.F pp = none := ok.go.sub.back nF
  have bw : pp ∉ adr B.w := fun z => nw (ok.go.old pp z)
  have cq : ∀ o, Cq Kf X (B.plus pp o) W n := fun o => ⟨q.hX, q.hK, q.tk, q.hr, q.calm, q.nd⟩
  have ok1 : Ok (B.plus pp (.dK [])) F ρ w σ (upd H pp (.dK [])) := ok.putIn hp
  unfold mDget bnd at hr
  cases h1 : ms ρ w with
  | none => rw [h1] at hr; cases hr
  | some r1 =>
    rw [h1] at hr
    refine (hs (B.plus pp (.dK [])) q.hK (cq _)).sim ρ w r1 h1 F σ _ ok1 _ ?_
    cases r1 with
    | exc x ρ1 w1 =>
      cases hr
      exact fun d F' H' s ok' hx => post d F' H' s (ok'.takeOut no_dK n0 bw bF).1 hx
    | ok ds ρ1 w1 =>
      intro ps F1 H1 s1 ok2 rs
      obtain ⟨vs, e1, e2, e3⟩ := rs
      subst e1
      obtain ⟨_, g1, _⟩ := ok2.takeOut no_dK n0 bw bF
      refine ⟨g1, (ks.zip vs).map fun kv => ((.inr kv.1 : Key), kv.2), by rw [List.map_map]; rfl, by rw [List.length_map, List.length_zip]; omega, ?_⟩
      rw [merge_fresh ks vs [] (nodupS_ok hn) e2 fun _ _ => rfl, List.nil_append]
      have ok3 : Ok (B.plus pp (.dK ((ks.zip vs).map fun kv => ((.inr kv.1 : Key), kv.2)))) F1 ρ1 w1 σ (upd H1 pp (.dK ((ks.zip vs).map fun kv => ((.inr kv.1 : Key), kv.2)))) := ok2.putNew no_dK n0 bw bF
      dsimp only at hr
      cases h2 : ma ρ1 w1 with
      | none => rw [h2] at hr; cases hr
      | some r2 =>
        rw [h2] at hr
        refine (hi (B.plus pp (.dK ((ks.zip vs).map fun kv => ((.inr kv.1 : Key), kv.2)))) q.hK (cq _)).sim ρ1 w1 r2 h2 F1 σ _ ok3 _ ?_
        cases r2 with
        | exc x ρ2 w2 =>
          cases hr
          exact fun d F' H' s ok' hx => post d F' H' (s1.trans s) (ok'.takeOut no_dK n0 bw bF).1 hx
        | ok d ρ2 w2 =>
          intro y F2 H2 s2 ok4 ry
          obtain ⟨ok5, g2, _⟩ := ok4.takeOut no_dK n0 bw bF
          dsimp only at hr
          obtain ⟨z, d', ed, hd', er⟩ := kLook_some hr
          subst ed
          subst er
          cases ry
          obtain ⟨v, hv, rv⟩ := look_val (e3.up s2) e2 hd'
          exact ⟨pp, v, rfl, by rw [← hv]; exact DGet.k (k := .inr z) g2, post v F2 H2 (s1.trans s2) ok5 rv⟩
end
end DL
set_option Elab.async false
set_option linter.all false
set_option maxRecDepth 100000
set_option
      maxHeartbeats 4000000
/-! DLIX: index, of a tuple of texts or of a list of data. -/
namespace DL
open PySem PySem.Spec PyProof.Rows L2 RZ StX
variable [Tbs]
def firstEq (z : D) : List D → Option Nat
  | [] => none
  | y :: ys => if deq y z = true then some 0 else (firstEq z ys).map (· + 1)
theorem firstEq_some {z : D} : ∀ {ys : List D} {j : Nat}, firstEq z ys = some j → (∃ y, ys[j]? = some y ∧ deq y z = true) ∧ ∀ m y, m < j → ys[m]? = some y → deq y z = false
  | [], _, h => by cases h
  | y :: ys, j, h => by
    unfold firstEq at h
    split at h
    · rename_i e
      cases h
      exact ⟨⟨y, rfl, e⟩, fun m _ hm => absurd hm (Nat.not_lt_zero m)⟩
    · rename_i e
      cases hj : firstEq z ys with
      | none => rw [hj] at h; cases h
      | some i =>
        rw [hj] at h
        cases h
        obtain ⟨h1, h2⟩ := firstEq_some hj
        refine ⟨h1, fun m y' hm hy => ?_⟩
        cases m with
        | zero =>
          cases hy
          exact Bool.eq_false_iff.mpr e
        | succ m => exact h2 m y' (Nat.lt_of_succ_lt_succ hm) hy
def lixD : D → List D → Option D
  | .lst ys, [z] => if dat 60 z && dats 59 ys then (firstEq z ys).map fun j => .int (j : Nat) else none
  | _, _ => none
def mIx (mo : M D) (ms : M (List D)) : M D := bnd mo fun d => match d with
  | .tup _ => bnd ms fun ds => lft (tixD d ds)
  | .lst _ => bnd ms fun ds => lft (lixD d ds)
  | _ => fun _ _ => none
theorem toPs_get : ∀ {ys : List D} {j : Nat} {y : D}, ys[j]? = some y → (toPs ys)[j]? = some (toP y)
  | [], _, _, h => by simp at h
  | x :: ys, 0, _, h => by cases h; simp [toPs]
  | x :: ys, j + 1, y, h => by
    simp only [toPs, List.getElem?_cons_succ]
    exact toPs_get (ys := ys) (by simpa using h)
theorem toPs_back : ∀ {ys : List D} {j : Nat} {z : PyData}, (toPs ys)[j]? = some z → ∃ y, ys[j]? = some y ∧ z = toP y
  | [], _, _, h => by simp [toPs] at h
  | x :: ys, 0, _, h => by
    simp only [toPs] at h
    cases h
    exact ⟨x, rfl, rfl⟩
  | x :: ys, j + 1, z, h => by
    simp only [toPs, List.getElem?_cons_succ] at h
    obtain ⟨y, h1, h2⟩ := toPs_back (ys := ys) h
    exact ⟨y, by simpa using h1, h2⟩
theorem dats_at : ∀ {n : Nat} {ys : List D} {j : Nat} {y : D}, dats n ys = true → ys[j]? = some y → dat n y = true
  | _, [], _, _, _, h => by simp at h
  | n, x :: ys, 0, _, g, h => by
    cases h
    simp only [dats, Bool.and_eq_true] at g
    exact g.1
  | n, x :: ys, j + 1, y, g, h => by
    simp only [dats, Bool.and_eq_true] at g
    exact dats_at (ys := ys) (j := j) g.2 (by simpa using h)
section
variable {X : Cx} {Kf : PySem.W.Frag} {B : Bs} {W : WX} {n : Nat} {e : Expr} {es : List Expr} {p pos apos : Pos} {ts : TA} {ms : M (List D)} {x : Str}
theorem pe_or {t u : TE} (h : PE X e t) (g : PE X e u) : PE X e (fun σ H Q => t σ H Q ∨ u σ H Q) :=
  ⟨fun pins s σ H Q I z => z.elim (fun z => h.run pins s σ H Q I z) fun z => g.run pins s σ H Q I z⟩
def tIxA (K : PySem.W.Frag) (to : TE) (ts : TA) : TE := fun σ H Q => tTM K (rTix K) to ts σ H Q ∨ tBM K "list" (rIndexD K) to ts σ H Q
theorem sim_ix {to : TE} {mo : M D} (ho : Sim B W (RV B) to mo) (hs : Sim B W (RA B) ts ms) : Sim B W (RV B) (tIxA B.K to ts) (mIx mo ms) := by
  intro ρ w res hres F σ H ok Q q
  unfold mIx bnd at hres
  cases hm : mo ρ w with
  | none => rw [hm] at hres; cases hres
  | some r1 =>
    rw [hm] at hres
    cases r1 with
    | exc z ρ1 w1 =>
      cases hres
      exact .inl (ho ρ w _ hm F σ H ok _ q)
    | ok d ρ1 w1 =>
      dsimp only at hres
      cases d with
      | tup ds =>
        refine .inl (sim_tix ho hs ρ w res ?_ F σ H ok Q q)
        unfold mTM bnd
        rw [hm]
        exact hres
      | lst ds =>
        refine .inr (ho ρ w _ hm F σ H ok _ fun v F1 H1 s1 ok1 rv => ?_)
        cases rv with
        | lst h1 r1 =>
          refine ⟨.inl ⟨rfl, _, SqL.of (ok1.sub _ _ h1)⟩, ?_⟩
          dsimp only at hres
          cases hm2 : ms ρ1 w1 with
          | none => rw [hm2] at hres; cases hres
          | some r2 =>
            rw [hm2] at hres
            refine hs ρ1 w1 r2 hm2 F1 σ H1 ok1 _ ?_
            cases r2 with
            | exc z ρ2 w2 =>
              cases hres
              exact fun d F2 H2 s2 ok2 hx => q d F2 H2 (s1.trans s2) ok2 hx
            | ok es ρ2 w2 =>
              intro us F2 H2 s2 ok2 rus
              obtain ⟨zd, hz, e3⟩ := lft_some hres
              subst e3
              unfold lixD at hz
              split at hz
              · rename_i ys z ed
                cases ed
                split at hz
                · rename_i hc
                  rw [Bool.and_eq_true] at hc
                  cases hj : firstEq z ds with
                  | none => rw [hj] at hz; cases hz
                  | some j =>
                    rw [hj] at hz
                    cases hz
                    obtain ⟨u, eu, ru⟩ := rus.one
                    subst eu
                    obtain ⟨⟨y, g1, g2⟩, g3⟩ := firstEq_some hj
                    obtain ⟨p1, q1⟩ := rp_shaped ok2.sub (d := .lst ds) (by simpa [dat] using hc.2) (.lst (s2 _ _ h1) (r1.up s2))
                    obtain ⟨p2, q2⟩ := rp_shaped ok2.sub hc.1 ru
                    have dy : dat 60 y = true := datU' (dats_at hc.2 g1)
                    refine ⟨_, u, toP z, toPs ds, j, toP y, rfl, rfl, by simpa [toP] using p1, p2, by simpa [toP] using q1, q2, toPs_get g1, by rw [deq_eqv 60 y z dy hc.1]; exact g2, fun m z' hm hz' => ?_, q _ F2 H2 (s1.trans s2) ok2 (.int _)⟩
                    obtain ⟨y', k1, k2⟩ := toPs_back hz'
                    subst k2
                    rw [deq_eqv 60 y' z (datU' (dats_at hc.2 k1)) hc.1]
                    exact g3 m y' hm k1
                · cases hz
              · cases hz
      | _ => cases hres
where
  datU' {d : D} (h : dat 59 d = true) : dat 60 d = true := mem_any.dat_up 59 d h
theorem se_ixm {o : Expr} {to : TE} {mo : M D} (q : Cq Kf X B W n) (ho : SE X B W o to mo) (ha : SA X B W [e] ts ms) (hbase : attributeBase o "index" X.env (eval o X.env) = eval o X.env := by rfl)
    (hfew : ((backTo pos (starEach [e] X.env)).all (fun x => !x.1) && (backToKw pos (keywordEach [] X.env)).all (fun x => x.1.isSome) && decide ([e].length + ([] : List Keyword).length + (if ([] : List Keyword).isEmpty then 0 else 1) < 30)) = true := by rfl)
    (hline : (apos.endLine == pos.line) = true := by rfl) (hs : starEach [e] X.env = (false, eval e X.env) :: starEach [] X.env := by rfl) (hpl : (backTo pos (starEach [] X.env)).any (·.1) = false := by rfl) : SE X B W (.Call (.Attribute o "index" apos) [e] [] pos) (tIxA Kf to ts) (mIx mo ms) := by
  have u := q.u65
  cases q.hX
  exact ⟨pe_or (pe_tm PySem.F.slot_tuple_index PySem.F.type_tuple_index mt_tix ho.pe ha.pa hbase hfew hline hs hpl) (pe_bm PySem.F.plainAttrs_list PySem.F.slot_list_index PySem.F.type_list_index (mt_indexD u) ho.pe ha.pa hbase hfew hline hs hpl), by rw [q.hK]; exact sim_ix ho.sim ha.sim⟩
end
end DL
set_option Elab.async false
set_option linter.all false
set_option maxRecDepth 100000
set_option
      maxHeartbeats 4000000
/-! DLE1: super().__init__('..') in the __init__ of an own class over ValueError. -/
namespace DL
open PySem PySem.Spec PyProof.Rows L2 RZ StX
variable [Tbs]
/-- what the written part says of a class C whose own __init__, at f, asks its upper one -/
structure SupK (prog : Program) (K : PySem.W.Frag) (mg : Str → Option Value) (C f cda cc : Addr) (scope : Scope) : Prop where
  oex : OexC K C
  fun' : ∃ oc od fd sl ar, K.lookup f = some ⟨oc, od, .func fd, sl⟩ ∧ (fd.params.posonlyargs ++ fd.params.args).head? = some ar ∧ ar.arg = "self"
  code : ∃ cl cd vs sl file tf, K.lookup cda = some ⟨cl, cd, .fields vs, sl⟩ ∧ vs[2]? = some (.str file tf) ∧ ((prog.main.file : Str) == file) = true
  cell : ∃ cl cd sl, K.lookup cc = some ⟨cl, cd, .cell (some (.ref C)), sl⟩
  above : PySem.W.ks_superIn K C C "__init__" = some (some (.builtin "ValueError.__init__"))
  sub : PySem.W.subIn K (.ref C) (.type "ValueError") = some true
  own : PySem.W.mroIn K C (.ref C) = some true
  opq : PySem.W.nsIn K cStatics "thirdparty.any" = some none
  noS : mg "super" = none
  top : (prog.main.scope.names.lookup ("super" : Str)).isSome = false
  nmS : scope.names.lookup ("super" : Str) = some .globalImplicit
  nmC : scope.names.lookup ("__class__" : Str) = some .free
  nm0 : scope.names.lookup ("self" : Str) = some .local
section
variable {X : Cx} {pins : List (Addr × Obj)} {σ : L2.St} {H : Hp} {s : Shared} {C f cda cc a L : Addr} {q : Str} {scope : Scope}
theorem supK_cls (T : SupK X.prog X.K X.mg C f cda cc scope) : ∃ cd, PySem.W.clsIn X.K C = some cd := by
  obtain ⟨nm, qn, N, bs, bm, sn, sub, ab, col, dd, k0, k1, k2, k3, k5, hC, hbm⟩ := T.oex.cls
  exact ⟨_, by unfold PySem.W.clsIn; rw [hC] <;> rfl⟩
/-- the wrapper called: the exception holds other arguments, all else stays -/
theorem sup_call {A : Around} {E : Value → Shared → Prop} {u : Addr} {rest : List Value} {Q : Value → Shared → Prop} (T : OexC X.K C) (I : Inv X pins σ H s) (e : H a = some (exo a C none)) (hu : s.heap.get? u = some (PySem.W.kxs_mw "ValueError.__init__" a)) (hz : rest.length ≤ sizeLine)
    (h : ∀ s', Inv X pins σ H s' → Q .none s') : wpAny (model X.prog X.w) A (call (.ref u) rest) Q E s := by
  obtain ⟨nm, qn, N, bs, bm, sn, sub, ab, col, dd, k0, k1, k2, k3, k5, hC, hbm⟩ := T.cls
  obtain ⟨t1, ho⟩
        := exo_at I.hok e
  obtain ⟨hp, g, d, t, os⟩ := s
  have FB := F.excBase_ValueError
  refine wpAny_call (codeAny_of_tree (show wpAny _ A.in1 (callAny (.ref u) ⟨rest, []⟩) _ _ _ from ?_))
  simp only [callAny]
  refine wpAny_bind
        (wpAny_load hu ?_)
  simp only [PySem.W.kxs_mw, show (Value.type "method-wrapper" == Value.type "method" || Value.type "method-wrapper" == Value.type "builtin_function_or_method" || Value.type "method-wrapper" == Value.type "method-wrapper") = true from by decide, if_true]
  refine PySem.W.KFB.if_so (by decide) (wpAny_bind (PySem.W.check_bound_init FB.toExcCallFacts (I.kIn _ _ hC) ho rfl (wpAny_bind (wpAny_pure (wpAny_pure ⟨plainId_quiet FB.init.plain _, codeAny_builtin FB.initEntry ?_⟩)))))
  refine PySem.W.exc_init_tree (cls := .ref C) (t0 := t1) (dv := none) (c2 := .none) (c3 := .none) (b4 := .bool false) ho hz fun h' k hx _ => ?_
  have J := I.write (t' := t) (x := a) (e := a) (o := exo a C none)
        (by rw [e]; exact True.intro) (.inl rfl) k ⟨_, hx⟩ (exo_ok hx)
  have eu : upd H a (exo
        a C none) = H := by
    funext b
    by_cases hb : b = a
    · rw [hb, upd_same, e]
    · rw [upd_ne hb]
  rw [eu] at J
  exact h _ J
/-- super().__init__('m') as a statement of the def's own frame -/
theorem sup_stmt {body : List Stmt} {m : Str} {j : Nat} {p0 p1 p2 p3 p4 p5 : Pos} {Q : Flow → Shared → Prop} {i : Nat} {pl : Sem Bool} (T : SupK X.prog X.K X.mg C f cda cc scope) (henv : X.env = PySem.W.ksEnv q scope L f (.ref cda) cc) (I : Inv X pins σ H s)
    (hN : X.N[i]? = some "self") (hv : σ[i]? = some (some (V.ref a))) (e : H a = some (exo a C none)) (hi : interactive X.env = false) (hw : swapsWith (.Call (.Attribute (.Call (.Name "super" p0) [] [] p1) "__init__" p2) [.Constant (.str m) j p3] [] p4) none p5.line X.env = pure false)
    (hev : eval (.Call (.Attribute (.Call (.Name "super" p0) [] [] p1) "__init__" p2) [.Constant (.str m) j p3] [] p4) X.env = (do
      let ov ← attributeBase (.Call (.Name "super" p0) [] [] p1) "__init__" X.env (eval (.Call (.Name "super" p0) [] [] p1) X.env)
      standAt p2.atName
      let (f, first) ← holding [ov]
            (getMethod ov "__init__" pl)
      callWith p4 f first (backTo p4 (starEach [.Constant (.str m) j p3] X.env)) []))
    (h : ∀ s', Inv X pins σ H s' → Q .next s') :
    PySem.wpAt (model X.prog X.w) X.A (.func body X.env) (exec (.Expr (.Call (.Attribute (.Call (.Name "super" p0) [] [] p1) "__init__" p2) [.Constant (.str m) j p3] [] p4) p5) X.env) Q X.xe s := by
  obtain ⟨cdC, hcd⟩ := supK_cls T
  obtain ⟨oc, od, fd, sl, ar, hf, hp, har⟩ := T.fun'
  obtain ⟨cl, cdo, vs, csl, file, tf, hco, hvs, hfile⟩ := T.code
  obtain ⟨ccl, ccd, ccs, hcell⟩ := T.cell
  have KX := I.kIn
  obtain ⟨oD, hD1, hD2⟩ : ∃ oD, s.heap.get? C = some oD ∧ oD.data = .cls cdC := by
    unfold PySem.W.clsIn at hcd
    split at hcd
    · rename_i c d cd' sl' ho
      cases hcd
      exact ⟨_, KX _ _ ho, rfl⟩
    · cases hcd
  obtain ⟨mL, hns, hloc⟩ := I.loc
  have kS : X.env.kindOf "super" = some .globalImplicit := by rw [henv]; exact T.nmS
  have kC : X.env.kindOf "__class__" = some .free := by rw [henv]; exact T.nmC
  have k0 : X.env.kindOf "self" = some .local := by rw [henv]; exact T.nm0
  have hself : mL "self" = some (.ref a) := by
    obtain ⟨u, ru, hu⟩ := hloc i "self" (V.ref a) hN hv (.inl (by rw [henv]; exact T.nm0))
    rcases hu with ⟨_, hu⟩ | ⟨hk, _⟩
    · cases ru
      exact hu
    · rw [k0] at hk
      rcases hk with z | z <;> cases z
  obtain ⟨t1, ha⟩ := exo_at I.hok e
  refine ks_wpAt_Expr_any (ks_wpAt_MethodCall ?_ hev) hi hw
  refine ks_wpAt_super_base kS kC (by decide) (by rw [henv]) (KX _ _ hf) rfl hp (by rw [henv]) (KX _ _ hco) rfl hvs hfile T.top ?_
  obtain ⟨mb, b1, b2⟩ := I.mod.blt
  refine PySem.W.ks_loadName_global I.ok.kind kS (Calls.loadGlobal_builtin (by rw [I.ok.glob]; exact I.mod.glob.keeps I.bk) T.noS (by rw [I.ok.blt]; exact b1.keeps I.bk) ((b2 "super" (by decide)).trans PyProof.Rows.Boot.«super») ⟨rfl, ?_⟩)
  refine wpAny_loadName_free I.ok.kind kC (c := cc) (by rw [henv] <;> rfl) ⟨_, KX _ _ hcell, rfl⟩ ?_
  rw [har]
  refine wpAny_loadName_local I.ok.kind k0 hns hself ?_
  refine ks_wpAny_isType_cls
        hD1 hD2 ⟨rfl, ?_⟩
  obtain ⟨hp0, g, d, t, os⟩ := s
  refine ks_wpAny_call_super hD1 hD2 ha rfl (fun c z => by cases z) (PySem.W.looks_mroIn KX T.own) (fun h1 so1 k1 => ?_)
  have I1 : Inv X pins σ H ⟨h1, g, d, t, os⟩ := I.kept (t' := t) k1
  have KX1 := I1.kIn
  have ha1 : h1.get? a = some _ := k1 _ _ ha
  have hne : a ≠ C := fun z => by
    rw [z] at ha
    rw [ha] at hD1
    cases hD1
    cases hD2
  have hsb := T.sub
  have hab := T.above
  unfold PySem.W.ks_superIn at hab
  rw [hcd] at hab
  refine PySem.W.kxs_getMethod PySem.W.kxs_ValueError so1 (PySem.W.looks_opaque KX1 T.opq) (l₀ := cdC.mro) (fun A Q E s k q => wpAny_bind ((PySem.W.looks_clsIn KX1 hcd) A _ E s k (wpAny_pure q))) rfl KX1 hab ?_ hne (by decide) ?_
  · exact (show PySem.W.InstAt h1 a _ C none from ⟨ha1, rfl, rfl, trivial⟩).type.andThen (PySem.W.looks_subIn KX1 hsb)
  have k2 : ∀ b o, h1.get? b = some o → (h1.push (PySem.W.kxs_mw "ValueError.__init__" a)).get? b = some o := fun b o z => Heap.get?_push_of_some _ z
  have hu : (h1.push (PySem.W.kxs_mw "ValueError.__init__" a)).get? h1.objs.size = some (PySem.W.kxs_mw "ValueError.__init__" a) := Heap.get?_push_at rfl rfl
  have I2 : Inv X pins σ H ⟨h1.push (PySem.W.kxs_mw "ValueError.__init__" a), g, d, t + 1, os⟩ := I1.kept (t' := t + 1) k2
  have hsE : starEach [.Constant (.str m) j p3] X.env = [(false, eval (.Constant (.str m) j p3) X.env)] := by rfl
  rw [hsE]
  refine PySem.W.kxs_callWith (i := "ValueError.__init__") (x := a) (args := [(false, eval (.Constant (.str m) j p3) X.env)]) rfl (Calls.evalArgs_plain (Calls.spliced_cons (Calls.Constant_str (Calls.spliced_nil ⟨hu, ?_⟩))))
  have I3 := I2.tok (t + 1 + 1)
  refine sup_call (a := a) T.oex I3 e hu (by show 1 ≤ sizeLine; rw [sizeLine_eq]; omega) fun s' J => h s' J
end
end DL
set_option Elab.async false
set_option linter.all false
set_option maxRecDepth 100000
set_option
      maxHeartbeats 4000000
/-! DLE2: the __init__ of an own class over ValueError whose first statement is super().__init__('..'). -/
namespace DL
open PySem PySem.Spec PyProof.Rows L2 RZ StX NdefX
variable [Tbs]
abbrev supE (m : Str) (j : Nat) (p0 p1 p2 p3 p4 : Pos) : Expr := .Call (.Attribute (.Call (.Name "super" p0) [] [] p1) "__init__" p2) [.Constant (.str m) j p3] [] p4
section
variable {CX : CXT} {P : Program} {w : World} {K : PySem.W.Frag} {mg : Str → Option Value} {base : Heap} {k : Nat} {f C cda cc : Addr} {name qual : Str} {params : Arguments} {rest : List Stmt} {scope : Scope} {dV kV doc pm ct oc : Value} {an od : Option Addr}
  {osl : Array (Option Value)} {N ps : List Str} {sp : Sp} {m : Str} {j : Nat} {p0 p1 p2 p3 p4 p5 : Pos} {pl : Sem Bool}
abbrev supF (name qual : Str) (params : Arguments) (body : List Stmt) (scope : Scope) (cda cc : Addr) : NF := ⟨name, qual, params, body, scope, [("__class__", cc)], cda⟩
theorem fn_sup (lk : K.lookup f = some ⟨oc, od, .func (PySem.W.fnX name qual params (.Expr (supE m j p0 p1 p2 p3 p4) p5 :: rest) scope [("__class__", cc)] dV kV doc pm an (.ref cda) ct), osl⟩)
    (hcd : PySem.W.codeIn K (.ref cda) qual = true) (S : NScope N ps ["__class__"] scope) (T : SupK P K mg C f cda cc scope) (h0 : ps[0]? = some ("self" : Str))
    (henv : ∀ L : Addr, let env := PySem.W.ksEnv qual scope L f (.ref cda) cc
      interactive env = false ∧ swapsWith (supE m j p0 p1 p2 p3 p4) none p5.line env = pure false ∧ eval (supE m j p0 p1 p2 p3 p4) env = (do
        let ov ← attributeBase (.Call (.Name "super" p0) [] [] p1) "__init__" env (eval (.Call (.Name "super" p0) [] [] p1) env)
        standAt p2.atName
        let (f, first) ← holding [ov]
              (getMethod ov "__init__" pl)
        callWith p4 f first (backTo p4 (starEach [.Constant (.str m) j p3] env)) []))
    (len : ∀ vs H Q E, sp vs H Q E → vs.length = ps.length) (hself : ∀ vs H Q E, sp vs H Q E → ∃ a, vs[0]? = some (V.ref a) ∧ H a = some (exo a C none))
    (hbody : ∀ (A : Around) (outer : List Env) (s : Shared) (H : Hp) (vs : List V) (Q : VK) (E : XK), Room k (A.deeper (PySem.W.ksEnv qual scope s.heap.objs.size f (.ref cda) cc)) → sp vs H Q E →
      ∃ t, PSs (ncx CX P w K mg base N (supF name qual params (.Expr (supE m j p0 p1 p2 p3 p4) p5 :: rest) scope cda cc) f A outer s H E) rest t ∧ t { nx := fun _ H' => Q .non H', rt := Q } (startF N vs [some (V.ref C)]) H) :
    FnOk P w K mg base CX (k + 1) f (PySem.W.fnX name qual params (.Expr (supE m j p0 p1 p2 p3 p4) p5 :: rest) scope [("__class__", cc)] dV kV doc pm an (.ref cda) ct) ps sp := by
  refine ⟨len,
        fun A outer s H args us vs Q E hr e0 hb r hsp => ?_⟩
  have hl := len _ _ _ _ hsp
  have KB := e0.mod.kin
  have KX : K.In s.heap := KB.keeps fun b o e => (e0.bs b o e).1
  have lim : s.heap.NoLimit := e0.mod.nolimit.keeps
        fun b o e => (e0.bs b o e).1
  obtain ⟨a, ha0, hea⟩ := hself _ _ _ _ hsp
  obtain ⟨ccl, ccd, ccs, hcell⟩ := T.cell
  refine ks_codeAny_call_defAt (fd := PySem.W.fnX name qual params (.Expr (supE m j p0 p1 p2 p3 p4) p5 :: rest) scope [("__class__", cc)] dV kV doc pm an (.ref cda) ct) (binds := ps.zip us) hr.depth (KX _ _ lk) rfl lim (PySem.W.codeRec_of KX hcd) rfl hb S.nocell (fun ⟨n, _⟩ hy => S.par n (List.of_mem_zip hy).1) (fun h₁ hns kp => ?_) S.co S.gen S.kind
  have hC : CellsAt [("__class__", cc)] ["__class__"] [some (V.ref C)] s.heap H := by
    refine ⟨rfl, fun y c z => ?_, fun y1 y2 c z1 z2 => ?_, fun i y hi => ?_⟩
    · have hc : c = cc := by
        simp only [List.lookup] at z
        split at z
        · exact (Option.some.inj z).symm
        · cases z
      subst hc
      obtain ⟨q1, q2⟩ := e0.bs _ _ (KB _ _ hcell)
      exact ⟨q2, _, _, q1, rfl⟩
    · have one : ∀ {y : Str} {c : Addr}, List.lookup y [(("__class__" : Str), cc)] = some c → y = "__class__" := fun {y c} z => by
        simp only [List.lookup] at z
        split at z
        · rename_i q
          exact eq_of_beq q
        · cases z
      rw [one z1, one z2]
    · have hy : y = "__class__" := by
        cases i with
        | zero => exact (Option.some.inj hi).symm
        | succ i => simp at hi
      subst hy
      refine ⟨cc, by simp [List.lookup], fun v hv => ?_⟩
      have hv' : v = V.ref C := by
        cases i with
        | zero => exact (Option.some.inj (Option.some.inj hv)).symm
        | succ i => simp at hv
      subst hv'
      exact ⟨.ref C, rfl, _, KX _ _ hcell, rfl⟩
  have I := inv_startN (CX := CX) (w := w) (E := E) (f := f) (F := supF name qual params (.Expr (supE m j p0 p1 p2 p3 p4) p5 :: rest) scope cda cc) (tk := s.toks + (ps.zip us).length) S hr.hd e0 hl r hC hns kp
  obtain ⟨hi, hw, hev⟩ := henv s.heap.objs.size
  have pl0 : ps.length + 1 ≤ N.length := by
    have q := congrArg
          List.length S.pre
    rw [List.length_take,
          List.length_append] at q
    simp at q
    omega
  have hN : N[0]? = some ("self" : Str) := by
    have q : (N.take (ps.length + 1))[0]? = (ps ++ [("__class__" : Str)])[0]? := congrArg (fun l => l[0]?) S.pre
    rw [List.getElem?_take_of_lt (by omega), List.getElem?_append_left (List.getElem?_eq_some_iff.mp h0).1] at q
    rw [q]
    exact h0
  have hv : (startF N vs [some (V.ref C)])[0]? = some (some (V.ref a)) := by
    unfold startF
    rw [List.getElem?_append_left (by rw [List.length_map]; exact (List.getElem?_eq_some_iff.mp ha0).1), List.getElem?_map, ha0]
    rfl
  refine ks_wpAt_execs_cons (sup_stmt (T := T) (henv := rfl) I hN hv hea hi hw hev fun s' J => wpAt_of_wpAny ?_)
  obtain ⟨t, ht, hq⟩ := hbody A
        outer s H vs Q E (hr.deeper _) hsp
  refine wpAny_mono (ht.run [] s' _ H _ J hq) (fun fl s2 end_ => ?_) fun _ _ z => z
  -- falling off the end and `return`: one way out; `break`, `continue` are none here
  have out : ∀ {τ : L2.St} {K2 : Hp} {x : V} {ux : Value}, Inv (ncx CX P w K mg base N (supF name qual params (.Expr (supE m j p0 p1 p2 p3 p4) p5 :: rest) scope cda cc) f A outer s H E) [] τ K2 s2 → L2.RelV x ux → Q x K2 → CE outer P w H s Q ux s2 := by
    intro τ K2 x ux z1 z2 z3
    exact ⟨x, K2, z1.os, z1.bare, z1.base, z1.hok, z2, z3⟩
  match fl, end_ with
  | .next, ⟨_, _, z1, z3⟩ => exact out z1 (show L2.RelV .non .none from rfl) z3
  | .ret _, ⟨_, _, _, z1, z2, z3⟩ => exact out z1 z2 z3
  | .brk, ⟨_, _, _, z⟩ => exact z.elim
  | .cont, ⟨_, _, _, z⟩ => exact z.elim
end
end DL
set_option Elab.async false
set_option linter.all false
set_option maxRecDepth 100000
set_option
      maxHeartbeats 4000000
/-! DLE3: an own error made: its __init__ keeps a copy of what it is given. -/
namespace DL
open PySem PySem.Spec PyProof.Rows L2 RZ StX NdefX
variable [Tbs]
/-- the promise of such an __init__: g is what copies -/
def spInit (K : PySem.W.Frag) (C : Addr) (fld : Str) (g : Fn1) : Sp := fun vs H Q _ => ∃ a v F d w y w', vs = [V.ref a, v] ∧ H a = some (exo a C none) ∧ Sub F H ∧ WdOk F H w ∧ LamX.Tabs Tbs.T H ∧ (∀ b ps, F b ≠ some (.tbl ps)) ∧ Rp K F v d ∧ g [d] w = some (.ok y w') ∧
  ∀ u dx F' H', Sub F' H' → WdOk F' H' w' → Goes H F w H' F' w' → Rp K F' u y → H' a = some (exo a C none) → H' dx = none → dx ≠ a → Q .non (upd (upd H' dx (exd dx [(fld, u)])) a (exo a C (some dx)))
theorem exo_adr {F H : Hp} {w : Wo} {a C : Addr} (k : WdOk F H w) (e : H a = some (exo a C none)) : a ∉ adr w := fun z => by
  cases w with
  | none => cases z
  | some w =>
    obtain ⟨_, _, _, h4, h5⟩ := k
    have z : a ∈ [w.sa, w.ca] := z
    rcases List.mem_cons.mp z with q | q
    · rw [q, h4] at e
      have e := Option.some.inj e
      cases e
    · rw [List.mem_singleton.mp q, h5] at e
      have e := Option.some.inj e
      cases e
section
variable {P : Program} {w : World} {K : PySem.W.Frag} {mg : Str → Option Value} {base : Heap} {n : Nat} {f C cda cc : Addr} {name qual fld prm : Str} {params : Arguments} {scope : Scope} {dV kV doc pm ct oc : Value} {an od : Option Addr}
  {osl : Array (Option Value)} {m : Str} {j : Nat} {p0 p1 p2 p3 p4 p5 q1 q2 q3 q4 q5 q6 : Pos} {pl : Sem Bool} {g : Fn1}
abbrev initS (fld prm : Str) (q1 q2 q3 q4 q5 q6 : Pos) : Stmt := .Assign [.Attribute (.Name "self" q1) fld q2] (.Call (.Name "copied" q3) [.Name prm q4] [] q5) q6
theorem fn_init (lk : K.lookup f = some ⟨oc, od, .func (PySem.W.fnX name qual params [.Expr (supE m j p0 p1 p2 p3 p4) p5, initS fld prm q1 q2 q3 q4 q5 q6] scope [("__class__", cc)] dV kV doc pm an (.ref cda) ct), osl⟩)
    (hcd : PySem.W.codeIn K (.ref cda) qual = true) (S : NScope ["self", prm, "__class__"] ["self", prm] ["__class__"] scope) (T : SupK P K mg C f cda cc scope)
    (henv : ∀ L : Addr, let env := PySem.W.ksEnv qual scope L f (.ref cda) cc
      interactive env = false ∧ swapsWith (supE m j p0 p1 p2 p3 p4) none p5.line env = pure false ∧ eval (supE m j p0 p1 p2 p3 p4) env = (do
        let ov ← attributeBase (.Call (.Name "super" p0) [] [] p1) "__init__" env (eval (.Call (.Name "super" p0) [] [] p1) env)
        standAt p2.atName
        let (f, first) ← holding [ov]
              (getMethod ov "__init__" pl)
        callWith p4 f first (backTo p4 (starEach [.Constant (.str m) j p3] env)) []))
    (hsw : ∀ L : Addr, swapsWith (.Call (.Name "copied" q3) [.Name prm q4] [] q5) (some (.Attribute (.Name "self" q1) fld q2)) q6.line (PySem.W.ksEnv qual scope L f (.ref cda) cc) = pure false)
    (nmc : scope.names.lookup ("copied" : Str) = some .globalImplicit) (hd1 : (prm == ("__debug__" : Str)) = false) (hd2 : (prm == ("__classdict__" : Str)) = false) (hno : PySem.W.findIn K (.ref C) fld = some none)
    (Fc : Fnc P w K mg base n "copied" 1 g) :
    FnOk P w K mg base (L2.CX P w) (n + 1) f (PySem.W.fnX name qual params [.Expr (supE m j p0 p1 p2 p3 p4) p5, initS fld prm q1 q2 q3 q4 q5 q6] scope [("__class__", cc)] dV kV doc pm an (.ref cda) ct) ["self", prm] (spInit K C fld g) := by
  refine fn_sup lk hcd S T rfl henv (fun vs H Q E h => ?_) (fun vs H Q E h => ?_) (fun A outer s H vs Q E hr h => ?_)
  · obtain ⟨a, v, F, d, w, y, w', e, _⟩ := h
    rw [e]
    rfl
  · obtain ⟨a, v, F, d, w, y, w', e, ha, _⟩ := h
    rw [e]
    exact ⟨a, rfl, ha⟩
  · obtain ⟨a, v, F, d, wo, y, wo', e, ha, hs, hw, htb, hnt, rv, hg, post⟩ := h
    subst e
    obtain ⟨fc, fdc, psc, m1, m2, m3, m4⟩ := Fc.ex
    let X := ncx (L2.CX P w) P w K mg base ["self", prm, "__class__"] (supF name qual params [.Expr (supE m j p0 p1 p2 p3 p4) p5, initS fld prm q1 q2 q3 q4 q5 q6] scope cda cc) f A outer s H E
    have v0 : PE X (.Name "self" q1) _ := pe_var (i := 0) rfl (.inl T.nm0) (by decide) (by decide)
    have v1 : PE X (.Name prm q4) _ := pe_var (i := 1) rfl (.inl (S.par prm (by simp))) hd1 hd2
    have pc : PE X (.Call (.Name "copied" q3) [.Name prm q4] [] q5) (tCallS (spG K 1 g) (WE (fun _ _ _ _ => False)) _) := pe_callS (X := X) m4 hr (show X.env.kindOf "copied" = some .globalImplicit from nmc) m1 m2 m3 (fun σ => passAt takes0 σ) (pa_cons v1 pa_nil (by rfl)) (by decide) (by rfl) (by rfl)
    refine ⟨_, pss_one (ps_ost v0 pc (hsw _)), ?_⟩
    have go0 : ∀ {F' H' : Hp}, Goes H F wo H' F' wo' → H' a = some (exo a C none) := fun {F' H'} go => go.keep a _ ha (exo_adr hw ha) (fun _ z => exo_tbl z)
    show tCallS (spG K 1 g) (WE (fun _ _ _ _ => False)) (tCons (tVar 1) tNil) (startF ["self", prm, "__class__"] [V.ref a, v] [some (V.ref C)]) H fun u H1 => tVar 0 (startF ["self", prm, "__class__"] [V.ref a, v] [some (V.ref C)]) H1 fun x H2 => _
    refine ⟨v, rfl, ⟨F, [d], wo, .ok y wo', rfl, hs, hw, htb, hnt, .cons rv .nil, hg, fun u F' H' s' k' go rv' => ?_⟩⟩
    refine ⟨.ref a, rfl, a, C, rfl, T.oex, hno, .inl ⟨go0 go, fun dx hdx hne => ?_⟩⟩
    exact post u dx F' H' s' k' go rv' (go0 go) hdx hne
/-! ### raise -/
theorem exo_code {a C : Addr} {q : Str} : exo a C none ≠ LamX.CodeO a q := fun z => by
  have z' := HO.ext.inj z
  let o : Obj := { cls := .ref C, dict := none, data := .fields #[.ref 0, .none, .none, .none, .bool false, .none] }
  let h : Heap := { objs := Array.replicate (a + 1) o }
  have hg : h.get? a = some o := by
    show (match (Array.replicate (a + 1) o)[a]? with
      | some ⟨_, _,
            .freed, _⟩ => none
      | x => x) = some o
    rw [Array.getElem?_replicate, if_pos (Nat.lt_succ_self a)]
  obtain ⟨oc, vs, t, e1, e2, e3⟩ := (eq_iff_iff.mp (congrFun z' h)).mp ⟨0, hg⟩
  rw [hg] at e1
  cases e1
  cases e2
  have e3 : some Value.none = some (.str q t) := e3
  cases e3
theorem exo_del {F' H1 H' : Hp} {w w' : Wo} {a dx C : Addr} {F : Hp} (hn : H1 a = none) (hf : F a = none) (tb : LamX.Tabs Tbs.T H') (go : Goes (upd H1 a (exo a C none)) F w H' F' w') (ha : H' a = some (exo a C none)) (hdx : H' dx = none) (hne : dx ≠ a) (k : WdOk F' H' w') (s : Sub F' H') (xs : List (Str × V)) (o : HO) :
    let H3 := upd (del (upd (upd H' dx (exd dx xs)) a (exo a C (some dx))) a) dx o
    F' a = none ∧ F' dx = none ∧ Sub F' H3 ∧ WdOk F' H3 w' ∧ (WdOk F H1 w → Goes H1 F w H3 F' w') ∧ LamX.Tabs Tbs.T H3 := by
  intro H3
  have fa : F' a = none := by
    cases q : F' a with
    | none => rfl
    | some o =>
      rcases go.frs a o q with z | z
      · rw [hf] at z; cases z
      · rw [upd_same] at z
        exact (noTb_no z.1 rfl (fun _ q => exo_tbl q)).elim
  have fd : F' dx = none := s.back hdx
  have h3 : ∀ b, b ≠ a → b ≠ dx → H3 b = H' b := fun b h1 h2 => by
    show upd (del (upd (upd H' dx (exd dx xs)) a (exo a C (some dx))) a) dx o b = H' b
    rw [upd_ne h2, del_ne h1, upd_ne h1, upd_ne h2]
  have na : a ∉ adr w' := exo_adr k ha
  have nd : dx ∉ adr w' := fun z => by
    obtain ⟨_, o, e, _⟩ := k.there z
    rw [hdx] at e
    cases e
  have sb : Sub F' H3 := fun b o e => by
    have h1 : b ≠ a := fun z => by rw [z, fa] at e; cases e
    have h2 : b ≠ dx := fun z => by rw [z, fd] at e; cases e
    rw [h3 b h1 h2]
    exact s b o e
  have wk : WdOk F' H3 w' := by
    cases w' with
    | none => exact True.intro
    | some w' =>
      obtain ⟨k1, k2, k3, k4, k5⟩ := k
      have na : a ∉ [w'.sa, w'.ca] := na
      have nd : dx ∉ [w'.sa, w'.ca] := nd
      simp only [List.mem_cons, List.not_mem_nil, or_false, not_or] at na nd
      refine ⟨k1, k2, k3, ?_, ?_⟩
      · rw [h3 _ (fun z => na.1 z.symm) (fun z => nd.1 z.symm)]
        exact k4
      · rw [h3 _ (fun z => na.2 z.symm) (fun z => nd.2 z.symm)]
        exact k5
  have tb3 : LamX.Tabs Tbs.T H3 := fun P hP => by
    obtain ⟨ps, t1, t2, t3⟩ := tb P hP
    refine ⟨ps, ?_, t2, fun pos cv hc => ?_⟩
    · rw [h3 _ (fun z => by rw [z, ha] at t1; exact exo_tbl (Option.some.inj t1)) (fun z => by rw [z, hdx] at t1; cases t1)]
      exact t1
    · obtain ⟨c, q1, q2⟩ := t3 pos cv hc
      refine ⟨c, q1, ?_⟩
      rw [h3 _ (fun z => by subst z; rw [ha] at q2; exact exo_code (Option.some.inj q2)) (fun z => by rw [z, hdx] at q2; cases q2)]
      exact q2
  refine ⟨fa, fd, sb, wk, fun k0 => ⟨go.sub, fun b o e n nt => ?_, fun b o e => ?_, go.old, fun b e => ?_, fun _ => tb3⟩, tb3⟩
  · have h1 : b ≠ a := fun z => by rw [z, hn] at e; cases e
    have hk := go.keep b o (by rw [upd_ne h1]; exact e) n nt
    have h2 : b ≠ dx := fun z => by rw [z, hdx] at hk; cases hk
    rw [h3 b h1 h2]
    exact hk
  · rcases go.frs b o e with z | z
    · exact .inl z
    · by_cases h1 : b = a
      · rw [h1] at e
        rw [fa] at e
        cases e
      · rw [upd_ne h1] at z
        exact .inr z
  · rcases go.new b e with z | z
    · exact .inl z
    · by_cases h1 : b = a
      · rw [h1] at e
        exact absurd e na
      · rw [upd_ne h1] at z
        exact .inr z
end
end DL
set_option Elab.async false
set_option linter.all false
set_option maxRecDepth 100000
set_option
      maxHeartbeats 4000000
/-! DLE4: raise of an own error. -/
namespace DL
open PySem PySem.Spec PyProof.Rows L2 RZ StX NdefX
variable [Tbs]
theorem WdOk.laid {F H : Hp} {w : Wo} {a : Addr} {o : HO} (k : WdOk F H w) (h : H a = none) : WdOk F (upd H a o) w := by
  cases w with
  | none => exact True.intro
  | some w =>
    obtain ⟨k1, k2, k3, k4, k5⟩ := k
    refine ⟨k1, k2, k3, ?_, ?_⟩
    · rw [upd_ne (ne_of_none k4 h)]
      exact k4
    · rw [upd_ne (ne_of_none k5 h)]
      exact k5
/-- tables stay tables -/
def UnTbl (H H' : Hp) : Prop := ∀ b ps, H b = some (.tbl ps) → ∃ ps', H' b = some (.tbl ps')
omit [Tbs] in
theorem fnOk_tbl {P : Program} {w : World} {K : PySem.W.Frag} {mg : Str → Option Value} {base : Heap} {CX : CXT} {k : Nat} {f : Addr} {fd : FuncData} {ps : List Str} {sp : Sp} (F : FnOk P w K mg base CX k f fd ps sp) :
    FnOk P w K mg base CX k f fd ps (fun vs H Q E => sp vs H (fun v H' => UnTbl H H' → Q v H') E) :=
  ⟨fun vs H Q E h => F.len vs H _ E h, fun A outer s H args us vs Q E hr e0 hb r h => codeAny_mono (F.run A outer s H args us vs _ E hr e0 hb r h) fun res s' hq => by
    cases res with
    | error e => exact hq
    | ok fl =>
      cases fl with
      | ret u =>
        obtain ⟨v, H', h1, h2, un, h3, h4, q⟩ := hq
        exact ⟨v, H', h1, h2, un, h3, h4, q fun b ps e => let ⟨m, z⟩ := un.tbls b ps e; ⟨_, z⟩⟩
      | next => exact hq
      | brk => exact hq
      | cont => exact hq⟩
/-- an own error class x at C, which keeps in fld what g makes of its argument -/
structure ErrM (P : Program) (w : World) (K : PySem.W.Frag) (mg : Str → Option Value) (base : Heap) (n : Nat) (x : Str) (C : Addr) (fld : Str) (g : Fn1) : Prop where
  ex : ∃ (k : Nat) (fI : Addr) (fd : FuncData) (ps : List Str), k + 1 ≤ n ∧ OexC K C ∧ PySem.W.findIn K (.ref C) "__init__" = some (some (.ref fI)) ∧ PySem.W.typeIn K (.ref fI) = some (.type "function") ∧ mg x = some (.ref C) ∧ Binds K fd ps [] ∧ FnOk P w K mg base (L2.CX P w) k fI fd ps (spInit K C fld g)
def kRaise (c : Value) (fld : Str) (g : Fn1) : List D → M Fl
  | [d] => fun ρ w => match g [d] w with
    | some (.ok y w') => some (.exc ⟨c, [fld], [y]⟩ ρ w')
    | _ => none
  | _ => fun _ _ => none
def mRaise (c : Value) (fld : Str) (g : Fn1) (ms : M (List D)) : M Fl := bnd ms (kRaise c fld g)
theorem kRaise_some {c : Value} {fld : Str} {g : Fn1} {ds : List D} {ρ : Rho} {w : Wo} {r : Rs Fl} (h : kRaise c fld g ds ρ w = some r) : ∃ d y w', ds = [d] ∧ g [d] w = some (.ok y w') ∧ r = .exc ⟨c, [fld], [y]⟩ ρ w' := by
  unfold kRaise at h
  split at h
  · rename_i d
    split at h
    · rename_i y w' e
      cases h
      exact ⟨d, y, w', rfl, e, rfl⟩
    · cases h
  · cases h
section
variable {X : Cx} {Kf : PySem.W.Frag} {B : Bs} {W : WX} {n : Nat} {e : Expr} {ts : TA} {ms : M (List D)} {x fld : Str} {C : Addr} {g : Fn1} {p pos rpos : Pos}
theorem ss_raise (q : Cq Kf X B W n) (R : ErrM X.prog X.w X.K X.mg X.base n x C fld g) (hg : Gl X x) (hs : SA X B W [e] ts ms) (hdb : (x == ("__debug__" : Str)) = false := by decide)
    (he : starEach [e] X.env = (false, eval e X.env) :: starEach [] X.env := by rfl) (hpl : (backTo pos (starEach [] X.env)).any (·.1) = false := by rfl) :
    SS X B W (.Raise (some (.Call (.Name x p) [e] [] pos)) none rpos) (fun _ σ H => tMkO C (fun vs H Q E => spInit Kf C fld g vs H (fun v H' => UnTbl H H' → Q v H') E) [] ts σ H fun cls d H' => W cls d σ H') (mRaise (.ref C) fld g ms) := by
  cases q.hX
  obtain ⟨k, fI, fd, ps, hk, r1, r2, r3, r4, r5, r6⟩ := R.ex
  have hx : Passes (L2.CX X.prog X.w) X (fun _ _ _ => False) := passes_call (W := fun _ _ _ _ => False) takes0 fun _ _ _ _ h => h
  refine ⟨ps_raise q.calm q.tk (pmk_oex r1 r2 r3 (fnOk_tbl r6) (q.hr.mono hk) r5 .nil hx hg r4 hs.pa hdb he hpl), ?_⟩
  refine SimS.of (R := RA B) (k := kRaise (.ref C) fld g) (tk := fun _ vs σ H1 => vs.length ≤ 1000 ∧ ∀ a, H1 a = none → spInit X.K C fld g (.ref a :: (vs ++ [])) (upd H1 a (exo a C none))
    (fun v H2 => UnTbl (upd H1 a (exo a C none)) H2 → v = .non ∧ ∃ (d : Addr) (fs : List (Str × V)), H2 a = some (exo a C (some d)) ∧ H2 d = some (exd d fs) ∧ H1 d = none ∧ W (.ref C) (some d) σ (upd (del H2 a) d (.xd fs))) (fun _ _ _ => False)) hs.sim fun ds ρ w r hr vs F σ H1 ok rs Dn post => ?_
  obtain ⟨d, y, w', ed, hgd, er⟩ := kRaise_some hr
  subst ed er
  cases rs with
  | cons rv rn =>
    cases rn
    rename_i v
    refine ⟨by show 1 ≤ 1000; decide, fun a hn => ?_⟩
    have fa : F a = none := ok.sub.back hn
    refine ⟨a, v, F, d, w, y, w', rfl, upd_same, ok.sub.trans (Sub.new hn), ok.wd.laid hn, tabs_put ok.tab (pn_none hn), ok.nt, by rw [q.hK]; exact rv, hgd, fun u dx F' H' s' k' go rv' ha hdx hne hut => ?_⟩
    obtain ⟨x1, x2, x3, x4, x5, _⟩ := exo_del hn fa (go.tabs (tabs_put ok.tab (pn_none hn))) go ha hdx hne k' s' [(fld, u)] (.xd [(fld, u)])
    have hz : noTb (H1 dx) = none := by
      have z := go.back k' (noTb_none hdx)
      rw [upd_ne hne] at z
      exact z
    have hd1 : H1 dx = none := by
      cases q : H1 dx with
      | none => rfl
      | some o =>
        exfalso
        rcases ho_tbl o with ⟨ps, z⟩ | z
        · subst z
          obtain ⟨ps', z⟩ := hut dx ps (by rw [upd_ne hne]; exact q)
          rw [upd_ne hne, upd_same] at z
          cases z
        · exact noTb_no hz q z
    refine ⟨rfl, dx, [(fld, u)], upd_same, by rw [upd_ne hne, upd_same], hd1, ?_⟩
    exact post (some dx) F' σ _ go.sub (ok.called x3 x4 (x5 ok.wd)) (.inr ⟨dx, [u], rfl, upd_same, rfl, .cons (by rw [← q.hK]; exact rv') .nil⟩)
end
end DL
set_option Elab.async false
set_option linter.all false
set_option maxRecDepth 100000
set_option
      maxHeartbeats 4000000
/-! DLE5: a def that calls what it got and tells ('fine', what it came to) or ('kind', e.path). -/
namespace DL
open PySem PySem.Spec PyProof.Rows L2 RZ StX LamX
theorem takes_len {X : Cx} {W : WX} (t : Takes X W) : Takes X (fun cls d σ H => σ.length = X.N.length → W cls d σ H) := fun u s' ⟨a, B, sI, pins, σ, H, cls, d, e, I, nb, up, sky, na, os, ag, w⟩ => t u s' ⟨a, B, sI, pins, σ, H, cls, d, e, I, nb, up, sky, na, os, ag, w I.len⟩
/-- try: return (fine, a()) / except E as e: return (kind, e.fld) -/
def TTk (K : PySem.W.Frag) (CS : Addr) (fine kind fld : Str) : (XK → Hp → VK → Prop) → Hp → VK → Prop := fun tl H Q =>
  tl (fun cls d H' => ∃ b, PySem.W.exmOne K cls (.ref CS) = some b ∧ (b = true → ∃ dd fs v, cls = .ref CS ∧ d = some dd ∧ H' dd = some (.xd fs) ∧ fs.lookup fld = some v ∧ [V.str kind, v].length ≤ sizeLine ∧ NewT [.str kind, v] H' Q) ∧ (b = false → False)) H
    (fun v H' => [V.str fine, v].length ≤ sizeLine ∧ NewT [.str fine, v] H' Q)
section
variable {X : Cx}
theorem told_k {Ng : List Str} {x a e n q fine kind fld : Str} {sg : Scope} {g CS : Addr} {cdg : Value} {j1 j2 i k1 k2 : Nat} {p1 p2 p3 p4 p5 p6 p7 p8 p9 p10 p11 p12 p13 : Pos} (hge : sg.names.lookup e = some .globalImplicit) (hme : X.mg e = some (.ref CS)) (hde : (e == ("__debug__" : Str)) = false)
    (h0 : ∀ f : Addr, (L2.start Ng [V.ref f])[0]? = some (some (V.ref f))) (hi : Ng[i]? = some n) (hN : Ng.Nodup) (hln : sg.names.lookup n = some .local) (T : XfC X.K CS) (hno : PySem.W.findIn X.K (.ref CS) fld = some none) (hd1 : (n == ("__debug__" : Str)) = false) (hd2 : (n == ("__classdict__" : Str)) = false) :
    GivesTo X Ng x sg g cdg [.Try [.Return (some (.Tuple [.Constant (.str fine) j1 p1, .Call (.Name a p2) [] [] p3] k1 p4)) p5] [.ExceptHandler (some (.Name e p6)) (some n) [.Return (some (.Tuple [.Constant (.str kind) j2 p7, .Attribute (.Name n p8) fld p9] k2 p10)) p11] p12] [] [] p13] a q (TTk X.K CS fine kind fld) := by
  intro f c' s H Q tl act hc h
  let Z := (cxOf C8.CX0 X.prog X.w X.K X.mg X.base Ng x sg g cdg X.A X.stack s H C8.E0).nox
  have hgl : Gl Z e := hge
  refine ⟨_, pss_one (ps_try_as (X := Z) (c := .ref CS) (n := n) (i := i)
    (tb := fun W D σ H => ∃ Ech : XK, (∀ cls d σ' H', Ech cls d H' → σ'.length = Ng.length → W cls d σ' H') ∧ σ[0]? = some (some (.ref f)) ∧ H c' = some (CodeO c' q) ∧ tl Ech H (fun v H' => [V.str fine, v].length ≤ sizeLine ∧ NewT [.str fine, v] H' D.rt))
    (ts := fun a cls d => tRet (tTupP (tCons (tC (.str kind)) (tCons (tXf a cls d CS fld (tVar i)) tNil))))
    rfl rfl hN hi hln ⟨hgl, hde, .inl hme⟩ L2.takes0 (fun W pn xe tk _ => ?_) (fun a oe cls d pn hz hf => ?_)), ?_⟩
  · refine
        ⟨fun pins s' σ H' D I h' => ?_⟩
    obtain ⟨Ech, hW,
          h1, h2, h3⟩ := h'
    have hp := act (fun cls d σ H => σ.length = Ng.length → W cls d σ H) pn xe Ech p2 p3 (takes_len (X := Z.tr pn xe) tk) hW
    have hq := pss_one (ps_ret (pos := p5) (pe_tupP (k := k1) (pos := p4) (pa_cons (pe_str (x := fine) (j := j1) (pos := p1)) (pa_cons hp pa_nil (by rfl)) (by rfl))))
    exact hq.run pins s'
          σ H' D I ⟨h1, h2, h3⟩
  · exact pss_one (ps_ret (pe_tupP (pa_cons pe_str (pa_cons (pe_xf T hno hz hf (pe_var (i := i) hi (.inl hln) hd1 hd2) (by rfl)) pa_nil (by rfl)) (by rfl))))
  · refine ⟨_, fun cls d σ' H' hE hl => ?_, h0 f, hc, h⟩
    obtain ⟨b, e1, e2, e3⟩ := hE
    refine ⟨b, e1, fun hb a ha => ?_, fun hb => e3 hb⟩
    obtain ⟨dd, fs, v, c1, c2, c3, c4, c5, c6⟩ := e2 hb
    have il : i < σ'.length := by rw [hl]; exact (List.getElem?_eq_some_iff.mp hi).1
    exact ⟨.ref a, List.getElem?_set_self il, rfl, c1, dd, fs, v, c2, c3, c4, c5, c6⟩
end
end DL
set_option Elab.async false
set_option linter.all false
set_option maxRecDepth 100000
set_option
      maxHeartbeats 4000000
/-! DLE6: x(lambda: e), x a def that tells what e came to, or the error's field. -/
namespace DL
open PySem PySem.Spec PyProof.Rows L2 RZ StX
variable [Tbs]
/-- new things, and tables that grow -/
theorem Ok.extN {B : Bs} {F : Hp} {ρ : Rho} {w : Wo} {σ : L2.St} {H H1 : Hp} (k : Ok B F ρ w σ H) (e : LamX.ExtN H H1) (t : LamX.Tabs Tbs.T H1) : Ok B F ρ w σ H1 := by
  refine ⟨fun b o h => e b o (k.sub b o h) (fun ps z => by subst z; exact k.nt b ps h), ⟨k.go.sub, fun a o h n nt => e a o (k.go.keep a o h n nt) nt, k.go.frs, k.go.old, k.go.new, fun _ => t⟩, ?_, k.len, k.val, fun i ds h => ?_, k.inj, t, k.nt⟩
  · have kw := k.wd
    cases w with
    | none => exact True.intro
    | some w =>
      obtain ⟨g1, g2, g3, g4, g5⟩ := kw
      exact ⟨g1, g2, g3, e _ _ g4 (fun _ z => by cases z), e _ _ g5 (fun _ z => by cases z)⟩
  · obtain ⟨a, vs, h1, h2, h3, h4, h5, h6⟩ := k.own i ds h
    exact ⟨a, vs, h1, e _ _ h2 (fun _ z => by cases z), h3, h4, h5, h6⟩
open Classical in
noncomputable def mTold (c : Value) (fine kind fld : Str) (mb : M D) : M D := fun ρ w => match mb ρ w with
  | some (.ok d ρ' w') => some (.ok (.tup [.str fine, d]) ρ' w')
  | some (.exc x ρ' w') => if x.cls = c ∧ x.ns = [fld] then (match x.ds with
    | [y] => some (.ok (.tup [.str kind, y]) ρ' w')
    | _ => none) else none
  | none => none
theorem mTold_some {c : Value} {fine kind fld : Str} {mb : M D} {ρ : Rho} {w : Wo} {r : Rs D} (h : mTold c fine kind fld mb ρ w = some r) : (∃ d ρ' w', mb ρ w = some (.ok d ρ' w') ∧ r = .ok (.tup [.str fine, d]) ρ' w') ∨ ∃ y ρ' w', mb ρ w = some (.exc ⟨c, [fld], [y]⟩ ρ' w') ∧ r = .ok (.tup [.str kind, y]) ρ' w' := by
  unfold mTold at h
  split at h
  · rename_i d ρ' w' e
    cases h
    exact .inl ⟨d, ρ', w', e, rfl⟩
  · rename_i x ρ' w' e
    split at h
    · rename_i q
      obtain ⟨cls, ns, ds⟩ := x
      obtain ⟨q1, q2⟩ := q
      dsimp only at q1 q2 h
      subst q1 q2
      split at h
      · rename_i y
        cases h
        exact .inr ⟨y, ρ', w', e, rfl⟩
      · cases h
    · cases h
  · cases h
section
variable {X : Cx} {Kf : PySem.W.Frag} {B : Bs} {W : WX} {n : Nat}
/-- the reading of the whole, from the lambda's -/
theorem sim_told {CS : Addr} {fine kind fld : Str} {t : XK → TE} {mb : M D} (hs1 : PyData.strOk fine = true) (hs2 : PyData.strOk kind = true) (hex : PySem.W.exmOne B.K (.ref CS) (.ref CS) = some true) (hb : ∀ E : XK, Sim B (fun cls d _ H => E cls d H) (RV B) (t E) mb) :
    Sim B W (RV B) (LamX.tLam Tbs.T (TTk B.K CS fine kind fld) t) (mTold (.ref CS) fine kind fld mb) := by
  intro ρ w r hr F σ H ok Q post
  refine ⟨ok.tab, fun H1 ext t1 => ?_⟩
  have ok1 := ok.extN ext t1
  have two : ∀ (x : Str) (v : V), [V.str x, v].length ≤ sizeLine := fun _ _ => by show 2 ≤ sizeLine; decide
  rcases mTold_some hr with ⟨d, ρ', w', e, er⟩ | ⟨y, ρ', w', e, er⟩
  · subst er
    refine hb _ ρ w _ e F σ H1 ok1 _ fun v F' H' s ok' rv => ⟨two _ _, fun p o hp po => ?_⟩
    obtain ⟨s2, ok2⟩ := ok'.laid hp (.frz o (.tup [.str fine, v]))
    exact post (.ref p) _ _ (s.trans s2) ok2 (.tup (.inl ⟨o, upd_same, po⟩) (.cons (.str fine hs1) (.cons (rv.up s2) .nil)))
  · subst er
    refine hb _ ρ w _ e F σ H1 ok1 _ fun d F' H' s ok' hd => ⟨true, hex, fun _ => ?_, fun z => by cases z⟩
    rcases hd with ⟨z, _⟩ | ⟨p, vs, ed, hp, hl, rv⟩
    · cases z
    · cases rv with
      | cons rv rn =>
        cases rn
        rename_i v
        refine ⟨p, _, v, rfl, ed, hp, by simp [List.lookup], two _ _, fun q o hq po => ?_⟩
        obtain ⟨s2, ok2⟩ := ok'.laid hq (.frz o (.tup [.str kind, v]))
        exact post (.ref q) _ _ (s.trans s2) ok2 (.tup (.inl ⟨o, upd_same, po⟩) (.cons (.str kind hs2) (.cons (rv.up s2) .nil)))
end
end DL
set_option Elab.async false
set_option linter.all false
set_option maxRecDepth 100000
set_option
      maxHeartbeats 4000000
/-! DLE7: x(lambda: e) as a judgement. -/
namespace DL
open PySem PySem.Spec PyProof.Rows L2 RZ StX LamX
variable [Tbs]
/-- the def x tells what it got comes to: (fine, value), or (kind, the field of the error CS) -/
structure ToldM (P : Program) (w : World) (K : PySem.W.Frag) (mg : Str → Option Value) (base : Heap) (x : Str) (CS : Addr) (fine kind fld : Str) : Prop where
  s1 : PyData.strOk fine = true
  s2 : PyData.strOk kind = true
  hex : PySem.W.exmOne K (.ref CS) (.ref CS) = some true
  ex : ∃ (a : Str) (g : Addr) (st : Stmt) (fd : FuncData) (Ng : List Str), (a == ("__debug__" : Str)) = false ∧ (a == ("__classdict__" : Str)) = false ∧ mg x = some (.ref g) ∧ Fun K x x st g fd ∧ Binds K fd [a] [] ∧ FnScope Ng [a] (defScope st) ∧ Ng[0]? = some a ∧ Vis (defScope st) a ∧
    ∀ (X : Cx) (q : Str) (cdg : Value), X.prog = P → X.w = w → X.K = K → X.mg = mg → X.base = base → GivesTo X Ng x (defScope st) g cdg (defBody st) a q (TTk K CS fine kind fld)
omit [Tbs] in
theorem toldM_of {P : Program} {w : World} {K : PySem.W.Frag} {mg : Str → Option Value} {base : Heap} {x a e n fine kind fld : Str} {CS g : Addr} {st : Stmt} {fd : FuncData} {Ng : List Str} {j1 j2 i k1 k2 : Nat} {p1 p2 p3 p4 p5 p6 p7 p8 p9 p10 p11 p12 p13 : Pos}
    (s1 : PyData.strOk fine = true) (s2 : PyData.strOk kind = true) (hex : PySem.W.exmOne K (.ref CS) (.ref CS) = some true) (hm : mg x = some (.ref g)) (F : Fun K x x st g fd) (hb : Binds K fd [a] []) (S : FnScope Ng [a] (defScope st)) (hN0 : Ng[0]? = some a) (hv : Vis (defScope st) a)
    (hbd : defBody st = [.Try [.Return (some (.Tuple [.Constant (.str fine) j1 p1, .Call (.Name a p2) [] [] p3] k1 p4)) p5] [.ExceptHandler (some (.Name e p6)) (some n) [.Return (some (.Tuple [.Constant (.str kind) j2 p7, .Attribute (.Name n p8) fld p9] k2 p10)) p11] p12] [] [] p13])
    (hge : (defScope st).names.lookup e = some .globalImplicit) (hme : mg e = some (.ref CS)) (hde : (e == ("__debug__" : Str)) = false) (h0 : ∀ f : Addr, (L2.start Ng [V.ref f])[0]? = some (some (V.ref f))) (hi : Ng[i]? = some n) (hln : (defScope st).names.lookup n = some .local)
    (T : XfC K CS) (hno : PySem.W.findIn K (.ref CS) fld = some none) (hd1 : (n == ("__debug__" : Str)) = false) (hd2 : (n == ("__classdict__" : Str)) = false) (ha1 : (a == ("__debug__" : Str)) = false) (ha2 : (a == ("__classdict__" : Str)) = false) :
    ToldM P w K mg base x CS fine kind fld := by
  refine ⟨s1, s2, hex, a, g, st, fd, Ng, ha1, ha2, hm, F, hb, S, hN0, hv, fun X q cdg e1 e2 e3 e4 e5 => ?_⟩
  subst e1 e2 e3 e4 e5
  rw [hbd]
  exact told_k hge hme hde h0 hi S.nd hln T hno hd1 hd2
/-- the frame makes lambdas: its code object's table is told -/
structure LamIn (X : Cx) : Prop where
  ex : ∃ c Pt : Addr, TabB X.base X.mg c Pt ∧ X.env.code = .ref c ∧ (Pt, X.env.qual ++ "<lambda>") ∈ Tbs.T ∧ ∀ p ∈ Tbs.T, p.1 = Pt → p.2 = X.env.qual ++ "<lambda>"
/-- within a comprehension of such a frame -/
theorem LamIn.blk {X : Cx} (h : LamIn X) {s : Shared} {H : Hp} {C : Addr} {scope : Scope} {cl : List (Str × Addr)} {fp : List Addr} : LamIn (X.blk s H scope (compEnvC scope cl C X.env) fp) := ⟨h.ex⟩
section
variable {X : Cx} {Kf : PySem.W.Frag} {B : Bs} {W : WX} {n k : Nat} {x fine kind fld : Str} {CS : Addr} {params : Arguments} {body : Expr} {scope : Scope} {lpos p pos : Pos} {t : XK → TE} {mb : M D}
theorem se_told (q : Cq Kf X B W n) (R : ToldM X.prog X.w X.K X.mg X.base x CS fine kind fld) (LI : LamIn X) (hg : Gl X x) (L : LamS X.env.scope scope) (hdef : defaultsOf params X.env = ([], []))
    (hbind : ∀ (q : Str) (cl : List (Str × Addr)) (pm cv ctv : Value), bindArgs (PySem.W.kla_fn "<lambda>" q params body scope cl pm cv ctv) ⟨[], []⟩ = pure []) (hn : k + 2 ≤ n)
    (hb : ∀ (A : Around) (outer : List Env) (s : Shared) (H : Hp) (E : XK) (f c' : Addr), Cq Kf (lamCx X A outer s H E scope f c') B (fun cls d _ H => E cls d H) k → SE (lamCx X A outer s H E scope f c') B (fun cls d _ H => E cls d H) body (t E) mb) (hdb : (x == ("__debug__" : Str)) = false := by decide) :
    SE X B W (.Call (.Name x p) [.Lambda params body scope lpos] [] pos) (LamX.tLam Tbs.T (TTk Kf CS fine kind fld) t) (mTold (.ref CS) fine kind fld mb) := by
  have hK := q.hK
  cases q.hX
  have cq : ∀ (A : Around) (outer : List Env) (s : Shared) (H : Hp) (E : XK) (f c' : Addr), Room k (A.deeper (lamEnv X scope s.heap.objs.size f c')) → Cq X.K (lamCx X A outer s H E scope f c') B (fun cls d _ H => E cls d H) k := fun A outer s H E f c' hr => ⟨rfl, q.hK, takes_of rfl rfl rfl rfl, hr, rfl, q.nd⟩
  obtain ⟨a, g, st, fd, Ng, a1, a2, a3, a4, a5, a6, a7, a8, a9⟩ := R.ex
  obtain ⟨oc, od, kV, doc, pm, an, cdv, ct, osl, efd, lk, hcd⟩ := a4.ex
  obtain ⟨c, Pt, l1, l2, l3, l4⟩ := LI.ex
  subst efd
  refine ⟨pe_lamcall (k := k) hg a3 a4.kp lk hcd a5 a6 a7 a8 (a9 X _ cdv rfl rfl rfl rfl rfl) l1 l2 l3 l4 (q.hr.mono hn) L hdef hbind (fun A outer s H E f c' hr => (hb A outer s H E f c' (cq A outer s H E f c' hr)).pe) hdb a1 a2, ?_⟩
  have hex := R.hex
  rw [hK] at hex ⊢
  refine sim_told R.s1 R.s2 hex fun E => ?_
  have hr := (q.hr.mono hn).mono (Nat.le_succ (k + 1))
  exact (hb X.A [] X.s_0 X.H_0 E 0 0 (cq X.A [] X.s_0 X.H_0 E 0 0 (hr.deeper _))).sim
end
end DL
set_option Elab.async false
set_option linter.all false
set_option maxRecDepth 100000
set_option
      maxHeartbeats 4000000
/-! DLE8: the law's call, its code's table in the heap. -/
namespace DL
open PySem PySem.Spec PyProof.Rows L2 RZ StX LamX
variable [Tbs]
section
variable {P : Program} {w : World} {K : PySem.W.Frag} {mg mb : Str → Option Value} {CXg : CXT}
/-- as Scr, with tables beside the script; cs: the code objects and their tables -/
structure ScrT (P : Program) (w : World) (K : PySem.W.Frag) (h : Heap) (a : Addr) (cs : List (Addr × Addr)) (ns : List Int) (H : Hp) : Prop where
  hok : HOk P w H h
  tab : ∀ b ∈ cs.map (·.2), H b = some (.tbl #[])
  only : ∀ b, b ∉ cs.map (·.2) → H b ≠ none → b = a
  frz : ∀ b, b ∉ cs.map (·.2) → H b ≠ none → ∃ o xs, H b = some (.frz o (.lst xs))
  free : H a ≠ none → K.lookup a = none
  ne : a ∉ cs.map (·.2)
  sq : SqL K H a (ns.map V.int)
/-- the tables laid over a heap -/
def tabH (ts : List Addr) (H : Hp) : Hp := fun b => if b ∈ ts then some (.tbl #[]) else H b
omit [Tbs] in
theorem tabH_in {ts : List Addr} {H : Hp} {b : Addr} (h : b ∈ ts) : tabH ts H b = some (.tbl #[]) := if_pos h
omit [Tbs] in
theorem tabH_ne {ts : List Addr} {H : Hp} {b : Addr} (h : b ∉ ts) : tabH ts H b = H b := if_neg h
/-- the tables stand empty in h -/
def TabsAt (h : Heap) (cs : List (Addr × Addr)) : Prop := ∀ p ∈ cs, h.get? p.2 = some { cls := .none, data := .fields #[] }
omit [Tbs] in
theorem TabsAt.at' {h : Heap} {cs : List (Addr × Addr)} (T : TabsAt h cs) {b : Addr} (hb : b ∈ cs.map (·.2)) : h.get? b = some { cls := .none, data := .fields #[] } := by
  obtain ⟨p, hp, e⟩ :=
        List.mem_map.mp hb
  rw [← e]
  exact T p hp
omit [Tbs] in
theorem Scr.tbl {h : Heap} {a : Addr} {cs : List (Addr × Addr)} {vs : List Value} {ns : List Int} {H : Hp} (S : Scr P w K h a ns H) (hP : TabsAt h cs)
    (ha : h.get? a = some { cls := .type "list", data := .seq vs.toArray }) : ScrT P w K h a cs ns (tabH (cs.map (·.2)) H) := by
  have ne : a ∉ cs.map (·.2) := fun z => by
    rw [hP.at' z] at ha
    have z' := congrArg Obj.data (Option.some.inj ha)
    cases z'
  refine ⟨fun b o e => ?_, fun b hb => tabH_in hb, fun b n e => ?_, fun b n e => ?_, fun e => ?_, ne, ?_⟩
  · by_cases hb :
        b ∈ cs.map (·.2)
    · rw [tabH_in hb] at e
      cases e
      exact hP.at' hb
    · rw [tabH_ne hb] at e
      obtain ⟨ob, xs, z⟩ := S.frz b (by rw [e]; intro z; cases z)
      rw [e] at z
      cases z
      exact S.hok b _ e
  · rw [tabH_ne n] at e
    exact S.only b e
  · rw [tabH_ne n] at e ⊢
    exact S.frz b e
  · rw [tabH_ne ne] at e
    exact S.free e
  · rcases S.sq with (h | ⟨o, h⟩) | h
    · exact .inl (.inl (by rw [tabH_ne ne]; exact h))
    · exact .inl (.inr ⟨o, by rw [tabH_ne ne]; exact h⟩)
    · exact .inr h
omit [Tbs] in
theorem ScrT.env0 {s₁ : Shared} {a : Addr} {cs : List (Addr × Addr)} {vs : List Value} {ns : List Int} {H : Hp} (S : ScrT P w K s₁.heap a cs ns H)
    (KX : K.In s₁.heap) (hns : s₁.heap.Ns mainGlobals mg) (hb : s₁.heap.Ns builtinsNs mb)
    (hbb : ∀ x : Str, x ≠ "__name__" → mb x = bootBuiltins x) (hlim : s₁.heap.NoLimit) (hg : s₁.gens = #[])
    (hP : TabsAt s₁.heap cs) (nP : ∀ p ∈ cs, K.lookup p.2 = none) (C : ∀ p ∈ cs, PySem.W.CodeHd s₁.heap p.1 p.2)
    (hbm : ∃ (bm : Addr) (ob : Obj), mg "__builtins__" = some (.ref bm) ∧ bm ≠ builtinsNs ∧
          s₁.heap.get? bm = some ob ∧ ob.cls = .type "module" ∧ ob.dict = some builtinsNs ∧ ob.data = .plain)
    (ha : s₁.heap.get? a = some { cls := .type "list", data := .seq vs.toArray }) :
    K.In (hidT s₁.heap H) ∧ (hidT s₁.heap H).Ns mainGlobals mg ∧ (∀ p ∈ cs, TabB (hidT s₁.heap H) mg p.1 p.2) ∧ Env0 P w K mg (hidT s₁.heap H) callerA [] s₁ H := by
  have free_of : ∀ {b : Addr}, b ≠ a → b ∉ cs.map (·.2) → H b = none := fun {b} n m => by
    cases q : H b with
    | none => rfl
    | some u => exact absurd (S.only b m (by rw [q]; intro z; cases z)) n
  have free_at : ∀ {b : Addr} {o : Obj}, s₁.heap.get? b = some o → (∀ vs n, o.data ≠ .seq vs n) → o.data ≠ .fields #[] → H b = none := fun {b o} e h1 h2 => free_of
    (fun z => by
      rw [z, ha] at e
      cases e
      exact h1 _ _ rfl)
    (fun z => by
      rw [hP.at' z] at e
      cases e
      exact h2 rfl)
  have dictFree : ∀ {b : Addr} {o : Obj} {es : Array DictEntry} {ep : Nat}, s₁.heap.get? b = some o → o.data = .dict es ep → H b = none := fun {b o es ep} e d =>
    free_at e (fun vs n z => by rw [d] at z; cases z) (fun z => by rw [d] at z; cases z)
  have nsT : ∀ {b : Addr} {m : Str → Option Value}, s₁.heap.Ns b m → (hidT s₁.heap H).Ns b m := by
    rintro b m ⟨o, es, ep, e, d, r⟩
    exact ⟨o, es, ep, hidT_get e (dictFree e d), d, r⟩
  have kT : K.In (hidT s₁.heap H) := fun b o e => by
    refine hidT_get (KX b o e) ?_
    by_cases hbp : b ∈ cs.map (·.2)
    · obtain ⟨p, hp, z⟩ := List.mem_map.mp hbp
      rw [← z, nP p hp] at e
      cases e
    · by_cases hba : b = a
      · cases q : H b with
        | none => rfl
        | some u =>
          have z := S.free (by rw [← hba, q]; intro z; cases z)
          rw [← hba, e] at z
          cases z
      · exact free_of hba hbp
  obtain ⟨mc, l1, l2⟩ := hlim
  have mo : Mod K mg (hidT s₁.heap H) := ⟨kT, nsT hns, ⟨mb, nsT hb, hbb⟩, ⟨mc, nsT l1, l2⟩⟩
  -- what has fields, and some, was not laid
  have kept : ∀ {b : Addr} {o : Obj} {vs : Array Value}, s₁.heap.get? b = some o → o.data = .fields vs → vs.size ≠ 0 → (hidT s₁.heap H).get? b = some o := fun {b o vs} e d nz => by
    refine hidT_get e (free_at e ?_ ?_)
    · intro _ _ z
      exact nomatch d.symm.trans z
    · intro z
      have := Data.fields.inj (d.symm.trans z)
      exact nz (by rw [this]; rfl)
  -- a dict is no table, a module is neither
  have noTab : ∀ {p : Addr × Addr} {b : Addr} {o : Obj}, p ∈ cs → s₁.heap.get? b = some o → o.data ≠ .fields #[] → b ≠ p.2 := by
    rintro p b o hp e nd rfl
    exact nd (congrArg Obj.data (Option.some.inj (e.symm.trans (hP p hp))))
  obtain ⟨gd, ges, gep, ge, gdata, _⟩ := id hns
  have tabs : ∀ p ∈ cs, TabB (hidT s₁.heap H) mg p.1 p.2 := by
    intro p hp
    have hd := C p hp
    constructor
    case code =>
      obtain ⟨o, vs, x1, x2, x3, x4, x5, x6, x7, at_, cl, fl, row, more⟩ := hd
      have nz : vs.size ≠ 0 := fun z => by
        rw [Array.getElem?_eq_none (by omega)] at row
        exact nomatch row
      exact ⟨o, vs, x1, x2, x3, x4, x5, x6, x7, kept at_ fl nz, cl, fl, row, more⟩
    case gP => exact noTab hp ge (fun z => nomatch gdata.symm.trans z)
    case bm =>
      obtain ⟨m, om, name, notB, at_, cl, di, plain⟩ := hbm
      have pl : ∀ {dt : Data}, om.data = dt → dt = .plain := fun z => z.symm.trans plain
      refine ⟨m, om, name, notB, ?_, noTab hp at_ (fun z => nomatch pl z), hidT_get at_ (free_at at_ (fun _ _ z => nomatch pl z) fun z => nomatch pl z), cl, di, plain⟩
      rintro rfl
      rw [ge] at at_
      exact nomatch gdata.symm.trans ((congrArg Obj.data (Option.some.inj at_)).trans plain)
  exact ⟨kT, nsT hns, tabs, ⟨rfl, mo, fun b o e => of_hidT e, Nat.le_of_eq (hidT_size _ _), trivial, fun b hb => (nomatch hb), S.hok, .of_eq hg⟩⟩
omit [Tbs] in
/-- behind it: all stands as it stood, the tables alone may have grown -/
theorem ScrT.behind {s₁ s' : Shared} {a : Addr} {cs : List (Addr × Addr)} {ns : List Int} {H : Hp} (S : ScrT P w K s₁.heap a cs ns H) (hP : TabsAt s₁.heap cs) (C : ∀ p ∈ cs, PySem.W.CodeHd s₁.heap p.1 p.2)
    {r : Result} (hCX : ∀ e s', CXg [] H s₁ (fun _ _ _ => False) e s' → False)
    (h : CR CXg [] P w H s₁ (fun v _ => v = V.bl true) (fun _ _ _ => False) r s') :
    r = .ok (.ret (.bool true)) ∧ OldK s₁.heap s'.heap ∧ s'.os = s₁.os ∧ AllBare s'.gens := by
  match r, h with
  | .error e, h => exact (hCX e s' h).elim
  | .ok .next, h => exact False.elim h
  | .ok .brk, h => exact False.elim h
  | .ok .cont, h => exact False.elim h
  | .ok (.ret u), ⟨v, H', os, bare, un, hok', rel, q⟩ =>
    have q : v = .bl true := q
    subst q
    have rel : u = Value.bool true := rel
    subst rel
    have grown : ∀ b ∈ cs.map (·.2), ∃ more : Array Value, s'.heap.get? b = some { cls := .none, data := .fields (#[] ++ more) } := fun b hb => by
      obtain ⟨more, hm⟩ := un.tbls b #[] (S.tab b hb)
      exact ⟨more, hok' b _ hm⟩
    have key : ∀ b o, b ∉ cs.map (·.2) → s₁.heap.get? b =
          some o → s'.heap.get? b = some o := fun b o nb e => by
      by_cases hb : H b = none
      · exact un.keep b o e hb (fun z => nomatch z) fun z => nomatch z
      · obtain ⟨ob, xs, z⟩ := S.frz b nb hb
        obtain ⟨e1, _⟩ := S.hok b _ z
        obtain ⟨e2, _⟩ := hok' b _ (un.frzs b ob _ z)
        rw [e] at e1
        cases e1
        exact e2
    refine ⟨rfl,
          ⟨fun b o e => ?_, fun b o e => ?_⟩, os, bare⟩
    · by_cases hb :
          b ∈ cs.map (·.2)
      · obtain ⟨more, hm⟩ := grown b hb
        obtain ⟨p, hp, z⟩ := List.mem_map.mp hb
        subst z
        rw [hP p hp] at e
        cases e
        exact .inr (.inl ⟨((C p hp).tab (hP p hp)).isCodeTable, rfl, #[], more, rfl, hm⟩)
      · exact .inl (key b o hb e)
    · by_cases hb :
          b ∈ cs.map (·.2)
      · obtain ⟨more, hm⟩ := grown b hb
        exact ⟨_, hm⟩
      · exact ⟨o, key b o hb e⟩
/-- walk_at, of a text whose defs make lambdas -/
theorem walk_atT {l : PySem.W.OpenLaw} {n : Nat} {q : Program} {loose : List Str} {XP : (Str → Option Value) → Heap → Prop} {YP : World → Heap → Prop} {d : DefRec} {Kp : Params → PySem.W.Frag}
    (hn : l.most = some n) (hn2 : n ≤ sizeLine) (hdf : d.params.defaults = []) (hY : ∀ (w : World) (h : Heap), YP w h → (Kp w.params).In h)
    (F : ∀ (w : World) (mg : Str → Option Value) (fa : Addr) (h : Heap), YP w h → (Kp w.params).In h → h.Ns mainGlobals mg → mg d.name = some (.ref fa) →
      ∃ cs : List (Addr × Addr), TabsAt h cs ∧ (∀ p ∈ cs, (Kp w.params).lookup p.2 = none) ∧ (∀ p ∈ cs, PySem.W.CodeHd h p.1 p.2) ∧
      ∀ base : Heap, (Kp w.params).In base → base.Ns mainGlobals mg → (∀ p ∈ cs, TabB base mg p.1 p.2) → ∀ (s : Shared) (H : Hp) (a : Addr) (ns : List Int), ns.length ≤ n → (∀ p ∈ cs, H p.2 = some (.tbl #[])) → Env0 l.prog w (Kp w.params) mg base callerA [] s H →
        SqL (Kp w.params) H a (ns.map V.int) → codeAny (model l.prog w) callerA (.call (.ref fa) ⟨[.ref a], []⟩) (CR (L2.CX l.prog w) [] l.prog w H s (fun v _ => v = V.bl true) fun _ _ _ => False) s) :
    PySem.W.WalkO q loose XP YP l.row.toRowW
          d [] (fun f vs => PySem.call f vs) := by
  refine Att.attach_call hn hdf
        fun w s₀ s₁ mg mb fa o pm cd doc a vs ns G Y ho hd hcd hmg hobj hints hlen hg => ?_
  have KX := hY w _ Y
  obtain ⟨cs, hP, nP, C, run⟩ := F w mg fa _ Y KX G.T.g hmg
  obtain ⟨H, S0⟩ := scr_of (P := l.prog) (w := w) KX hobj hints (Nat.le_trans hlen hn2)
  have S := S0.tbl hP hobj
  obtain ⟨kT, nT, tb, e0⟩ := S.env0 KX G.T.g G.T.b G.T.builtins G.T.nolimit hg hP nP C G.T.bmain hobj
  refine codeAny_mono (run _ kT nT tb s₁ _ a ns hlen (fun p hp => S.tab _ (List.mem_map.mpr ⟨p, hp, rfl⟩)) e0 S.sq) fun r s' h => S.behind hP C (fun e s' c => ?_) h
  obtain ⟨_, _, _, _, _, _, _, _, _, _, _, _, c⟩ := c
  exact c
end
/-! ### the law's def, which makes lambdas -/
section
variable {P : Program} {wd : World} {K : PySem.W.Frag} {mg : Str → Option Value} {base : Heap}
theorem law_okT {st s1 : Stmt} {rest : List Stmt} {f fo : Addr} {fd fdo : FuncData} {N : List Str} {n i : Nat} {c Pt : Addr} {m : M Fl} {y : Str} {p1 p2 p3 p4 p5 : Pos} (F : Fun K "law" "law" st f fd) (S : FnScope N ["_law_script"] (defScope st)) (Fo : FnOk P wd K mg base (L2.CX P wd) n fo fdo ["_law_script"] (spOpen K))
    (hcode : fd.code = .ref c) (TB : LamX.TabB base mg c Pt) (hmT : (Pt, (("law" : Str) ++ ".<locals>.") ++ "<lambda>") ∈ Tbs.T) (huT : ∀ p ∈ Tbs.T, p.1 = Pt → p.2 = (("law" : Str) ++ ".<locals>.") ++ "<lambda>")
    (hbind : ∀ (s : Shared) (v : Value), BindsTo s fd ⟨[v], []⟩ [("_law_script", v)]) (hr0 : Room (n + 1) callerA)
    (hb : defBody st = s1 :: rest) (h1 : s1 = .Assign [.Name y p1] (.Call (.Name "_law_open_cells" p2) [.Name "_law_script" p3] [] p4) p5) (hi : 0 < i) (hil : i < N.length)
    (head : ∀ (cdv : Value) (s : Shared) (H : Hp), Room n (cxL P wd K mg base N st f cdv s H).A →
      PS (cxL P wd K mg base N st f cdv s H) s1 (tAsg (tCallS (spOpen K) (fun _ => fun _ _ _ => False) (tCons (tVar 0) tNil)) (gName i)))
    (body : ∀ (cdv : Value) (s : Shared) (H : Hp), ∃ t, ∀ B : Bs, Body K (cxL P wd K mg base N st f cdv s H) B (fun _ _ _ _ => False) n → (cxL P wd K mg base N st f cdv s H).A.guards = some [] → LamIn (cxL P wd K mg base N st f cdv s H) →
      SB (cxL P wd K mg base N st f cdv s H) B (fun _ _ _ _ => False) rest t m)
    (T : Told N.length i m) (s : Shared) (H : Hp) (a : Addr) (ns : List Int) (hl : ns.length ≤ 63) (htb : ∀ p ∈ Tbs.T, H p.1 = some (.tbl #[])) (e0 : Env0 P wd K mg base callerA [] s H) (hs : SqL K H a (ns.map V.int)) :
    codeAny (model P wd) callerA (.call (.ref f) ⟨[.ref a], []⟩) (CR (L2.CX P wd) [] P wd H s (fun v _ => v = V.bl true) fun _ _ _ => False) s := by
  refine run_at (vs := [.ref a]) (us := [.ref a]) (ps := ["_law_script"]) F S hr0 e0 (hbind s (.ref a)) (.cons rfl .nil) rfl fun cdv hcd hr => ?_
  have htb : LamX.Tabs Tbs.T H := fun p hp => LamX.TabS.nil (htb p hp)
  have hq : (cxL P wd K mg base N st f cdv s H).env.qual = ("law" : Str) ++ ".<locals>." := rfl
  have hLam : LamIn (cxL P wd K mg base N st f cdv s H) := ⟨c, Pt, TB, hcd.symm.trans hcode, hmT, huT⟩
  obtain ⟨t, hbd⟩ := body cdv s H
  have hbd := fun B (hBK : B.K = K) => hbd B ⟨⟨rfl, (show K = B.K from hBK.symm), takes_of rfl rfl rfl rfl, hr, rfl, S.nd⟩, passes_of rfl⟩ rfl hLam
  have hps := (hbd ⟨K, H, fun _ => none, none⟩ rfl).pss
  refine ⟨tSeq (tAsg (tCallS (spOpen K) (fun _ => fun _ _ _ => False) (tCons (tVar 0) tNil)) (gName i)) t, by rw [hb]; exact pss_cons (head cdv s H hr) hps, ?_⟩
  refine ⟨.ref a, rfl, a, ns, rfl, hs, by omega, htb, fun H' sa ca keep tb' n1 n2 nsc hsa hca => ?_⟩
  obtain ⟨ρ1, w1, hrun⟩ := T sa ca ns nsc hl
  have ls : (L2.start N [V.ref a]).length = N.length := by
    unfold L2.start
    simp only [List.length_append, List.length_map, List.length_replicate, List.length_singleton]
    omega
  have fr : ∀ (j : Nat) (sl : Slot), ((List.replicate N.length Slot.free).set i (.val (.raw (.ref sa))))[j]? = some sl → sl = .free ∨ (i = j ∧ sl = .val (.raw (.ref sa))) := fun j sl e => by
    by_cases hj : i = j
    · subst hj
      rw [List.getElem?_set_self (by rw [List.length_replicate]; exact hil)] at e
      exact .inr ⟨rfl, (Option.some.inj e).symm⟩
    · rw [List.getElem?_set_ne hj, List.getElem?_replicate] at e
      split at e
      · exact .inl (Option.some.inj e).symm
      · cases e
  have ok0 : Ok ⟨K, H', fun _ => none, some (src0 sa ca ns)⟩ (fun _ => none) ((List.replicate N.length Slot.free).set i (.val (.raw (.ref sa)))) (some (src0 sa ca ns)) ((L2.start N [V.ref a]).set i (some (.ref sa))) H' := by
    refine ⟨fun b o e => (by cases e), Goes.refl _ _ _, ⟨rfl, rfl, nsc, hsa, hca⟩, by rw [List.length_set, List.length_set, List.length_replicate, ls], fun j d e => ?_, fun j ds e => ?_, fun j l b dj dl e => ?_, tb', fun b ps e => (by cases e)⟩
    · rcases fr j _ e with z | ⟨hj, z⟩
      · cases z
      · cases z
        subst hj
        exact ⟨.ref sa, List.getElem?_set_self (by rw [ls]; exact hil), .raw _⟩
    · rcases fr j _ e with z | ⟨_, z⟩ <;> cases z
    · rcases fr j _ e with z | ⟨_, z⟩ <;> cases z
  exact (hbd ⟨K, H', fun _ => none, some (src0 sa ca ns)⟩ rfl).sim _ _ _ hrun _ _ _ ok0 _ fun v F2 σ2 H2 _ _ rv => by
    cases rv
    rfl
end
end DL
set_option Elab.async false
set_option linter.all false
set_option maxRecDepth 100000
set_option
      maxHeartbeats 4000000
/-! DLE9: what is never reached; a def that calls what it got and tells the error's field or None. -/
namespace DL
open PySem PySem.Spec PyProof.Rows L2 RZ StX LamX
section
variable [Tbs]
variable {X : Cx} {Kf : PySem.W.Frag} {B : Bs} {W : WX} {n : Nat} {e : Expr} {es : List Expr} {st : Stmt} {sts : List Stmt}
/-- what is never reached -/
theorem se_dead : SE X B W e (fun _ _ _ => False) (fun _ _ => none) := ⟨⟨fun _ _ _ _ _ _ h => h.elim⟩, fun _ _ _ h => by cases h⟩
theorem ss_dead : SS X B W st (fun _ _ _ => False) (fun _ _ => none) := ⟨⟨fun _ _ _ _ _ _ h => h.elim⟩, fun _ _ _ h => by cases h⟩
theorem sb_dead : SB X B W sts (fun _ _ _ => False) (fun _ _ => none) := ⟨⟨fun _ _ _ _ _ _ h => h.elim⟩, fun _ _ _ h => by cases h⟩
end
/-- found = None / try: a() / except E as n: found = n.fld / return found -/
def TPk (K : PySem.W.Frag) (CS : Addr) (fld : Str) : (XK → Hp → VK → Prop) → Hp → VK → Prop := fun tl H Q =>
  tl (fun cls d H' => ∃ b, PySem.W.exmOne K cls (.ref CS) = some b ∧ (b = true → ∃ dd fs v, cls = .ref CS ∧ d = some dd ∧ H' dd = some (.xd fs) ∧ fs.lookup fld = some v ∧ Q v H') ∧ (b = false → False)) H (fun _ H' => Q .non H')
section
variable {X : Cx}
theorem pe_weak {e : Expr} {t : TE} (h : PE X e t) : PE X e (fun σ H Q => ∃ QQ : VK, (∀ v H', QQ v H' → Q v H') ∧ t σ H QQ) := ⟨fun pins s σ H Q I ⟨QQ, hq, ht⟩ => thn (h.run pins s σ H QQ I ht) fun v s' ⟨x, H1, I1, r, q⟩ => ⟨x, H1, I1, r, hq _ _ q⟩⟩
theorem path_k {Ng : List Str} {x a e n y q fld : Str} {sg : Scope} {g CS : Addr} {cdg : Value} {i j k : Nat} {p0 p1 p2 p3 p4 p5 p6 p7 p8 p9 p10 p11 p12 p13 p14 : Pos} (hge : sg.names.lookup e = some .globalImplicit) (hme : X.mg e = some (.ref CS)) (hde : (e == ("__debug__" : Str)) = false)
    (h0 : ∀ f : Addr, (L2.start Ng [V.ref f])[0]? = some (some (V.ref f))) (hl : ∀ f : Addr, (L2.start Ng [V.ref f]).length = Ng.length) (hi : Ng[i]? = some n) (hj : Ng[j]? = some y) (hj0 : 0 < j) (hij : i ≠ j) (hN : Ng.Nodup) (hln : sg.names.lookup n = some .local) (hly : sg.names.lookup y = some .local) (T : XfC X.K CS) (hno : PySem.W.findIn X.K (.ref CS) fld = some none)
    (hd1 : (n == ("__debug__" : Str)) = false) (hd2 : (n == ("__classdict__" : Str)) = false) (hd3 : (y == ("__debug__" : Str)) = false) (hd4 : (y == ("__classdict__" : Str)) = false) :
    GivesTo X Ng x sg g cdg [.Assign [.Name y p0] (.Constant .none k p1) p2, .Try [.Expr (.Call (.Name a p3) [] [] p4) p5] [.ExceptHandler (some (.Name e p6)) (some n) [.Assign [.Name y p7] (.Attribute (.Name n p8) fld p9) p10] p11] [] [] p12, .Return (some (.Name y p13)) p14] a q (TPk X.K CS fld) := by
  intro f c' s H Q tl act hc h
  let Z := (cxOf C8.CX0 X.prog X.w X.K X.mg X.base Ng x sg g cdg X.A X.stack s H C8.E0).nox
  have hgl : Gl Z e := hge
  have jl : j < Ng.length := (List.getElem?_eq_some_iff.mp hj).1
  have il : i < Ng.length := (List.getElem?_eq_some_iff.mp hi).1
  refine ⟨_, pss_cons (ps_set (X := Z) (i := j) hN hj (.inl hly) pe_non) (pss_cons (ps_try_as (X := Z) (c := .ref CS) (n := n) (i := i)
    (tb := fun W D σ H => ∃ Ech : XK, (∀ cls d σ' H', Ech cls d H' → σ'.length = Ng.length → W cls d σ' H') ∧ ∃ QQ : VK, (∀ v H', QQ v H' → D.nx σ H') ∧ σ[0]? = some (some (.ref f)) ∧ H c' = some (CodeO c' q) ∧ tl Ech H QQ)
    (ts := fun a cls d => tAsg (tXf a cls d CS fld (tVar i)) (gName j))
    rfl rfl hN hi hln ⟨hgl, hde, .inl hme⟩ L2.takes0 (fun W pn xe tk _ => ?_) (fun a oe cls d pn hz hf => ?_)) (pss_one (ps_ret (pe_var (i := j) hj (.inl hly) hd3 hd4)))), ?_⟩
  · refine
        ⟨fun pins s' σ H' D I h' => ?_⟩
    obtain ⟨Ech, hW, QQ, hQ, h1, h2, h3⟩ := h'
    have hp := act (fun cls d σ H => σ.length = Ng.length → W cls d σ H) pn xe Ech p3 p4 (takes_len (X := Z.tr pn xe) tk) hW
    have hq := pss_one (ps_expr (pos := p5) (pe_weak hp))
    exact hq.run pins s' σ H' D I ⟨QQ, hQ, h1, h2, h3⟩
  · exact pss_one (ps_set hN hj (.inl hly) (pe_xf T hno hz hf (pe_var (i := i) hi (.inl hln) hd1 hd2) (by rfl)))
  · refine ⟨_, fun cls d σ' H' hE hl' => ?_, (fun _ H' => Q .non H'), fun v H' hq => ?_, ?_, hc, h⟩
    · obtain ⟨b, e1, e2, e3⟩ := hE
      refine ⟨b, e1, fun hb a ha => ?_, fun hb => (e3 hb).elim⟩
      obtain ⟨dd, fs, v, c1, c2, c3, c4, c5⟩ := e2 hb
      refine ⟨.ref a, List.getElem?_set_self (by rw [hl']; exact il), rfl, c1, dd, fs, v, c2, c3, c4, ?_⟩
      refine ⟨v, ?_, c5⟩
      rw [List.getElem?_set_ne hij, List.getElem?_set_self (by rw [List.length_set, hl']; exact jl)]
    · exact ⟨.non, List.getElem?_set_self (by rw [hl f]; exact jl), hq⟩
    · rw [List.getElem?_set_ne (Nat.ne_of_gt hj0)]
      exact h0 f
end
section
variable [Tbs]
open Classical in
noncomputable def mPath (c : Value) (fld : Str) (mb : M D) : M D := fun ρ w => match mb ρ w with
  | some (.ok _ ρ' w') => some (.ok .non ρ' w')
  | some (.exc x ρ' w') => if x.cls = c ∧ x.ns = [fld] then (match x.ds with
    | [y] => some (.ok y ρ' w')
    | _ => none) else none
  | none => none
theorem mPath_some {c : Value} {fld : Str} {mb : M D} {ρ : Rho} {w : Wo} {r : Rs D} (h : mPath c fld mb ρ w = some r) : (∃ d ρ' w', mb ρ w = some (.ok d ρ' w') ∧ r = .ok .non ρ' w') ∨ ∃ y ρ' w', mb ρ w = some (.exc ⟨c, [fld], [y]⟩ ρ' w') ∧ r = .ok y ρ' w' := by
  unfold mPath at h
  split at h
  · rename_i d ρ' w' e
    cases h
    exact .inl ⟨d, ρ', w', e, rfl⟩
  · rename_i x ρ' w' e
    split at h
    · rename_i q
      obtain ⟨cls, ns, ds⟩ := x
      obtain ⟨q1, q2⟩ := q
      dsimp only at q1 q2 h
      subst q1 q2
      split at h
      · rename_i y
        cases h
        exact .inr ⟨y, ρ', w', e, rfl⟩
      · cases h
    · cases h
  · cases h
theorem sim_path {B : Bs} {W : WX} {CS : Addr} {fld : Str} {t : XK → TE} {mb : M D} (hex : PySem.W.exmOne B.K (.ref CS) (.ref CS) = some true) (hb : ∀ E : XK, Sim B (fun cls d _ H => E cls d H) (RV B) (t E) mb) :
    Sim B W (RV B) (LamX.tLam Tbs.T (TPk B.K CS fld) t) (mPath (.ref CS) fld mb) := by
  intro ρ w r hr F σ H ok Q post
  refine ⟨ok.tab, fun H1 ext t1 => ?_⟩
  have ok1 := ok.extN ext t1
  rcases mPath_some hr with ⟨d, ρ', w', e, er⟩ | ⟨y, ρ', w', e, er⟩
  · subst er
    exact hb _ ρ w _ e F σ H1 ok1 _ fun v F' H' s ok' rv => post .non _ _ s ok' .non
  · subst er
    refine hb _ ρ w _ e F σ H1 ok1 _ fun d F' H' s ok' hd => ⟨true, hex, fun _ => ?_, fun z => by cases z⟩
    rcases hd with ⟨z, _⟩ | ⟨p, vs, ed, hp, hl, rv⟩
    · cases z
    · cases rv with
      | cons rv rn =>
        cases rn
        rename_i v
        exact ⟨p, _, v, rfl, ed, hp, by simp [List.lookup], post v _ _ s ok' rv⟩
/-- the def x calls what it got; TT: what it makes of it -/
structure GivM (P : Program) (w : World) (K : PySem.W.Frag) (mg : Str → Option Value) (base : Heap) (x : Str) (TT : (XK → Hp → VK → Prop) → Hp → VK → Prop) : Prop where
  ex : ∃ (a : Str) (g : Addr) (st : Stmt) (fd : FuncData) (Ng : List Str), (a == ("__debug__" : Str)) = false ∧ (a == ("__classdict__" : Str)) = false ∧ mg x = some (.ref g) ∧ Fun K x x st g fd ∧ Binds K fd [a] [] ∧ FnScope Ng [a] (defScope st) ∧ Ng[0]? = some a ∧ Vis (defScope st) a ∧
    ∀ (X : Cx) (q : Str) (cdg : Value), X.prog = P → X.w = w → X.K = K → X.mg = mg → X.base = base → GivesTo X Ng x (defScope st) g cdg (defBody st) a q TT
variable {X : Cx} {Kf : PySem.W.Frag} {B : Bs} {W : WX} {n k : Nat} {x : Str} {params : Arguments} {body : Expr} {scope : Scope} {lpos p pos : Pos} {t : XK → TE} {mb m : M D} {TT : (XK → Hp → VK → Prop) → Hp → VK → Prop}
theorem se_lam (q : Cq Kf X B W n) (R : GivM X.prog X.w X.K X.mg X.base x TT) (LI : LamIn X) (hg : Gl X x) (L : LamS X.env.scope scope) (hdef : defaultsOf params X.env = ([], []))
    (hbind : ∀ (q : Str) (cl : List (Str × Addr)) (pm cv ctv : Value), bindArgs (PySem.W.kla_fn "<lambda>" q params body scope cl pm cv ctv) ⟨[], []⟩ = pure []) (hn : k + 2 ≤ n)
    (hs : (∀ E : XK, Sim B (fun cls d _ H => E cls d H) (RV B) (t E) mb) → Sim B W (RV B) (LamX.tLam Tbs.T TT t) m)
    (hb : ∀ (A : Around) (outer : List Env) (s : Shared) (H : Hp) (E : XK) (f c' : Addr), Cq Kf (lamCx X A outer s H E scope f c') B (fun cls d _ H => E cls d H) k → SE (lamCx X A outer s H E scope f c') B (fun cls d _ H => E cls d H) body (t E) mb) (hdb : (x == ("__debug__" : Str)) = false := by decide) :
    SE X B W (.Call (.Name x p) [.Lambda params body scope lpos] [] pos) (LamX.tLam Tbs.T TT t) m := by
  have hK := q.hK
  cases q.hX
  have cq : ∀ (A : Around) (outer : List Env) (s : Shared) (H : Hp) (E : XK) (f c' : Addr), Room k (A.deeper (lamEnv X scope s.heap.objs.size f c')) → Cq X.K (lamCx X A outer s H E scope f c') B (fun cls d _ H => E cls d H) k := fun A outer s H E f c' hr => ⟨rfl, q.hK, takes_of rfl rfl rfl rfl, hr, rfl, q.nd⟩
  obtain ⟨a, g, st, fd, Ng, a1, a2, a3, a4, a5, a6, a7, a8, a9⟩ := R.ex
  obtain ⟨oc, od, kV, doc, pm, an, cdv, ct, osl, efd, lk, hcd⟩ := a4.ex
  obtain ⟨c, Pt, l1, l2, l3, l4⟩ := LI.ex
  subst efd
  refine ⟨pe_lamcall (k := k) hg a3 a4.kp lk hcd a5 a6 a7 a8 (a9 X _ cdv rfl rfl rfl rfl rfl) l1 l2 l3 l4 (q.hr.mono hn) L hdef hbind (fun A outer s H E f c' hr => (hb A outer s H E f c' (cq A outer s H E f c' hr)).pe) hdb a1 a2, ?_⟩
  refine hs fun E => ?_
  have hr := (q.hr.mono hn).mono (Nat.le_succ (k + 1))
  exact (hb X.A [] X.s_0 X.H_0 E 0 0 (cq X.A [] X.s_0 X.H_0 E 0 0 (hr.deeper _))).sim
end
end DL
set_option Elab.async false
set_option linter.all false
set_option maxRecDepth 100000
set_option
      maxHeartbeats 4000000
/-! DLE10: a def whose body makes lambdas. -/
namespace DL
open PySem PySem.Spec PyProof.Rows L2 RZ StX LamX
variable [Tbs]
section
variable {P : Program} {wd : World} {K : PySem.W.Frag} {mg : Str → Option Value} {base : Heap}
theorem fnc_ofL {x qual : Str} {st : Stmt} {f c Pt : Addr} {fd : FuncData} {N ps : List Str} {n : Nat} {m : M Fl} (F : Fun K x qual st f fd) (S : FnScope N ps (defScope st)) (hm : mg x = some (.ref f)) (hb : Binds K fd ps [])
    (hcode : fd.code = .ref c) (TB : TabB base mg c Pt) (hmT : (Pt, (qual ++ ".<locals>.") ++ "<lambda>") ∈ Tbs.T) (huT : ∀ p ∈ Tbs.T, p.1 = Pt → p.2 = (qual ++ ".<locals>.") ++ "<lambda>")
    (body : ∀ (cdv : Value) (A : Around) (outer : List Env) (s : Shared) (H : Hp) (E : XK), ∃ t, ∀ B : Bs, Body K (cxOf (L2.CX P wd) P wd K mg base N qual (defScope st) f cdv A outer s H E) B (fun cls d _ H => E cls d H) n → LamIn (cxOf (L2.CX P wd) P wd K mg base N qual (defScope st) f cdv A outer s H E) →
      SB (cxOf (L2.CX P wd) P wd K mg base N qual (defScope st) f cdv A outer s H E) B (fun cls d _ H => E cls d H) (defBody st) t m) : Fnc P wd K mg base (n + 1) x ps.length (gOf ps.length N.length m) :=
  fnc_ofC F S hm hb fun cdv hcd A outer s H E => by
    obtain ⟨t, h⟩ := body cdv A outer s H E
    exact ⟨t, fun B q => h B q ⟨c, Pt, TB, hcd.symm.trans hcode, hmT, huT⟩⟩
end
end DL
set_option Elab.async false
set_option linter.all false
set_option maxRecDepth 100000
set_option
      maxHeartbeats 4000000
/-! DLE11: list comprehensions with two fors. -/
namespace DL
open PySem PySem.Spec PyProof.Rows L2 RZ
variable [Tbs]
section
variable {X : Cx} {Kf : PySem.W.Frag} {B : Bs} {W : WX} {n : Nat} {te : TE} {me : M D} {pos : Pos}
/-- one loop that appends to L -/
theorem loop_in {own : List Nat} {g : TG} {tt : TT} {bind : D → Rho → Option Rho} {mt : M Bool} {J : It} {ds : List D} {F : Hp} {ρ : Rho} {w : Wo} {σ : L2.St} {H : Hp} {L : Addr} {acc0 ys : List D} {vs0 : List V} {ρe : Rho} {we : Wo} {Nx : Hp → Prop}
    (hg : ∀ B' : Bs, B'.K = B.K → ∀ d ρ ρ', bind d ρ = some ρ' → ∀ F w σ H v, Ok B' F ρ w σ H → Rp B'.K F v d → ∀ Q : L2.St → Hp → Prop, (∀ σ', wipe σ' own = wipe σ own → Ok B' F ρ' w σ' H → Q σ' H) → g v σ H Q)
    (ht : ∀ B' : Bs, B'.K = B.K → Sim B' W0 RB tt mt) (he : ∀ B' : Bs, B'.K = B.K → Sim B' W0 (RV B') te me) (wk : Walk B F J ds) (hlp : lcLoop own bind mt me ds ρ w = some (ys, ρe, we))
    (ok : Ok B F ρ w σ H) (nw0 : New B F ρ w σ H L acc0) (hL : H L = some (.lst vs0)) (racc0 : RpAll B.K F vs0 acc0) (hlen : (acc0 ++ ys).length ≤ 100000)
    (fin : ∀ F' H' vs', Sub F F' → Ok B F' (wipeR ρe own) we (wipe σ own) H' → New B F' (wipeR ρe own) we (wipe σ own) H' L (acc0 ++ ys) → H' L = some (.lst vs') → RpAll B.K F' vs' (acc0 ++ ys) → Nx H') :
    ∃ W : Nat → Nat → Hp → Prop, (∃ m, W 0 m H) ∧ ∀ i m H, W i m H → (J.stop i H ∧ Nx H) ∨ (J.go i H ∧ ∃ Nx1 : Hp → Prop, (∀ H', Nx1 H' → ∃ m', m' < m ∧ W (i + 1) m' H') ∧ ∀ x H', J.yld i H x H' → g x (wipe σ own) H' fun σ2 H2 => wipe σ2 own = wipe σ own ∧ tt σ2 H2 fun b H3 =>
      if b = true then te σ2 H3 fun y H4 => ∃ acc, H4 L = some (.lst acc) ∧ acc.length < sizeLine ∧ Nx1 (upd H4 L (.lst (acc ++ [y]))) else Nx1 H3) := by
  have ww : ∀ {σ : L2.St} {vs : List Nat}, wipe (wipe σ vs) vs = wipe σ vs := fun {σ vs} => wipe_idem σ vs vs fun _ h => h
  refine ⟨fun i m H' => ∃ F' ρ' w' acc rest vs, m = ds.length - i ∧ i ≤ ds.length ∧ Sub F F' ∧ Ok B F' (wipeR ρ' own) w' (wipe σ own) H' ∧ New B F' (wipeR ρ' own) w' (wipe σ own) H' L acc ∧ H' L = some (.lst vs) ∧ RpAll B.K F' vs acc ∧
    lcLoop own bind mt me (ds.drop i) ρ' w' = some (rest, ρe, we) ∧ acc ++ rest = acc0 ++ ys, ⟨ds.length, ?_⟩, ?_⟩
  · exact ⟨F, ρ, w, acc0, ys, vs0, rfl, Nat.zero_le _, Sub.refl F, ok.wiped own, nw0.wiped own, hL, racc0, hlp, rfl⟩
  · rintro i m H' ⟨F', ρ', w', acc, rest, vs, rfl, hi', sF, ok', nw, hLs, racc, hrest, eys⟩
    by_cases hlt : i < ds.length
    · refine .inr ?_
      have hd : ds[i]? = some ds[i] := List.getElem?_eq_getElem hlt
      obtain ⟨_, hgo⟩ := wk i F' _ _ _ _ sF (B.plus L (.lst vs)) rfl (ok'.plus nw hLs)
      obtain ⟨go, hy⟩ := hgo _ hd
      refine ⟨go, fun H'' => ∃ F'' ρ'' w'' acc' rest' vs', Sub F F'' ∧ Ok B F'' (wipeR ρ'' own) w'' (wipe σ own) H'' ∧ New B F'' (wipeR ρ'' own) w'' (wipe σ own) H'' L acc' ∧ H'' L = some (.lst vs') ∧ RpAll B.K F'' vs' acc' ∧
        lcLoop own bind mt me (ds.drop (i + 1)) ρ'' w'' = some (rest', ρe, we) ∧ acc' ++ rest' = acc0 ++ ys, fun H'' ⟨F'', ρ'', w'', acc', rest', vs', q1, q2, q3, q4, q5, q7, q8⟩ => ⟨ds.length - (i + 1), by omega, F'', ρ'', w'', acc', rest', vs', rfl, hlt, q1, q2, q3, q4, q5, q7, q8⟩, fun x Hy yl => ?_⟩
      obtain ⟨F2, s2, ok2, rx⟩ := hy x Hy yl
      rw [List.drop_eq_getElem_cons hlt] at hrest
      unfold lcLoop at hrest
      cases hb : bind ds[i] (wipeR ρ' own) with
      | none => rw [hb] at hrest; cases hrest
      | some ρ0 =>
        rw [hb] at hrest
        dsimp only at hrest
        have w0L : L ∉ adr B.w := fun z => nw.nw (ok'.go.old L z)
        have bFL : B.F L = none := ok'.go.sub.back nw.nF
        refine hg (B.plus L (.lst vs)) rfl ds[i] _ ρ0 hb F2 _ _ _ x ok2 rx _ fun σ2 hw2 ok3 => ⟨by rw [hw2, ww], ?_⟩
        cases ht1 : mt ρ0 w' with
        | none => rw [ht1] at hrest; cases hrest
        | some r1 =>
          rw [ht1] at hrest
          cases r1 with
          | exc _ _ _ => cases hrest
          | ok bb ρ1 w1 =>
            refine ht (B.plus L (.lst vs)) rfl ρ0 w' _ ht1 F2 σ2 Hy ok3 _ fun b F4 H4 s4 ok4 eb => ?_
            cases eb
            cases bb with
            | true =>
              rw [if_pos rfl]
              dsimp only at hrest
              cases he1 : me ρ1 w1 with
              | none => rw [he1] at hrest; cases hrest
              | some r2 =>
                rw [he1] at hrest
                cases r2 with
                | exc _ _ _ => cases hrest
                | ok yy ρ2 w2 =>
                  dsimp only at hrest
                  refine he (B.plus L (.lst vs)) rfl ρ1 w1 _ he1 F4 σ2 H4 ok4 _ fun y F5 H5 s5 ok5 ry => ?_
                  have sub5 : Sub F' F5 := (s2.trans s4).trans s5
                  obtain ⟨ok6, nw6, hL6⟩ := Ok.minus nw.n0 w0L bFL racc sub5 ok5
                  cases hl2 : lcLoop own bind mt me (ds.drop (i + 1)) ρ2 w2 with
                  | none => rw [hl2] at hrest; cases hrest
                  | some z2 =>
                    rw [hl2] at hrest
                    obtain ⟨rest', ρe', we'⟩ := z2
                    cases hrest
                    have le : vs.length ≤ 100000 := by
                      have e := congrArg List.length eys
                      rw [List.length_append] at e
                      rw [racc.length]
                      omega
                    refine ⟨vs, hL6, Nat.lt_of_le_of_lt le (by decide), ?_⟩
                    have ryy : Rp B.K F5 y yy := ry
                    have racc' : RpAll B.K F5 (vs ++ [y]) (acc ++ [yy]) := (racc.up sub5).append (.cons ryy .nil)
                    have ok7 : Ok B F5 ρ2 w2 σ2 (upd H5 L (.lst (vs ++ [y]))) := ok6.grow nw6
                    have nw7 : New B F5 ρ2 w2 σ2 (upd H5 L (.lst (vs ++ [y]))) L (acc ++ [yy]) := ⟨⟨_, upd_same, racc'⟩, nw6.nF, nw6.n0, nw6.nw, nw6.ns⟩
                    have ok8 := ok7.wiped own
                    have nw8 := nw7.wiped own
                    have ew : wipe σ2 own = wipe σ own := by rw [hw2, ww]
                    rw [ew] at ok8 nw8
                    exact ⟨F5, ρ2, w2, acc ++ [yy], rest', vs ++ [y], sF.trans sub5, ok8, nw8, upd_same, racc', hl2, by rw [List.append_assoc]; exact eys⟩
            | false =>
              rw [if_neg
                    Bool.false_ne_true]
              dsimp only at hrest
              have sub4 : Sub F' F4 := s2.trans s4
              obtain ⟨ok6, nw6, hL6⟩ := Ok.minus nw.n0 w0L bFL racc sub4 ok4
              have ok8 := ok6.wiped own
              have nw8 := nw6.wiped own
              have ew : wipe σ2 own = wipe σ own := by rw [hw2, ww]
              rw [ew] at ok8 nw8
              exact ⟨F4, ρ1, w1, acc, rest, vs, sF.trans sub4, ok8, nw8, hL6, racc.up sub4, hrest, eys⟩
    · have ei : i = ds.length := by omega
      subst ei
      refine .inl ?_
      rw [List.drop_length] at hrest
      cases hrest
      rw [List.append_nil] at eys
      subst eys
      obtain ⟨hstop, _⟩ := wk ds.length F' _ _ _ _ sF (B.plus L (.lst vs)) rfl (ok'.plus nw hLs)
      exact ⟨hstop (Nat.le_refl _), fin F' H' vs sF ok' nw hLs racc⟩
def lcLoop2 (own : List Nat) (bind : D → Rho → Option Rho) (mt : M Bool) (mi1 : M (List D)) (own1 : List Nat) (bind1 : D → Rho → Option Rho) (mt1 : M Bool) (me : M D) : List D → Rho → Wo → Option (List D × Rho × Wo)
  | [], ρ, w => some ([], ρ, w)
  | d :: ds, ρ, w =>
    match bind d (wipeR ρ own) with
    | none => none
    | some ρ0 =>
      match mt ρ0 w with
      | some (.ok true ρ1 w1) =>
        match mi1 ρ1 w1 with
        | some (.ok ds1 ρ2 w2) =>
          match lcLoop own1 bind1 mt1 me ds1 ρ2 w2 with
          | some (ys, ρ3, w3) => (lcLoop2 own bind mt mi1 own1 bind1 mt1 me ds (wipeR ρ3 own1) w3).map fun z => (ys ++ z.1, z.2)
          | none => none
        | _ => none
      | some (.ok false ρ1 w1) => lcLoop2 own bind mt mi1 own1 bind1 mt1 me ds ρ1 w1
      | _ => none
def nLc2 (own : List Nat) (mi : M (List D)) (bind : D → Rho → Option Rho) (mt : M Bool) (mi1 : M (List D)) (own1 : List Nat) (bind1 : D → Rho → Option Rho) (mt1 : M Bool) (me : M D) : M (List D) := bnd mi fun ds ρ w =>
  match lcLoop2 own bind mt mi1 own1 bind1 mt1 me ds ρ w with
  | some (ys, ρ', w') => if ys.length ≤ 100000 then some (.ok ys (wipeR ρ' own) w') else none
  | none => none
def mLc2 (own : List Nat) (mi : M (List D)) (bind : D → Rho → Option Rho) (mt : M Bool) (mi1 : M (List D)) (own1 : List Nat) (bind1 : D → Rho → Option Rho) (mt1 : M Bool) (me : M D) : M D := bnd (nLc2 own mi bind mt mi1 own1 bind1 mt1 me) fun ds => ret (.lst ds)
theorem sim_lc2N {own own1 : List Nat} {wi wi1 : TI} {g g1 : TG} {tt tt1 : TT} {mi mi1 : M (List D)} {bind bind1 : D → Rho → Option Rho} {mt mt1 : M Bool} (hi : Sim B W (Walk B) wi mi)
    (hg : ∀ B' : Bs, B'.K = B.K → ∀ d ρ ρ', bind d ρ = some ρ' → ∀ F w σ H v, Ok B' F ρ w σ H → Rp B'.K F v d → ∀ Q : L2.St → Hp → Prop, (∀ σ', wipe σ' own = wipe σ own → Ok B' F ρ' w σ' H → Q σ' H) → g v σ H Q)
    (ht : ∀ B' : Bs, B'.K = B.K → Sim B' W0 RB tt mt) (hi1 : ∀ B' : Bs, B'.K = B.K → Sim B' W0 (Walk B') wi1 mi1)
    (hg1 : ∀ B' : Bs, B'.K = B.K → ∀ d ρ ρ', bind1 d ρ = some ρ' → ∀ F w σ H v, Ok B' F ρ w σ H → Rp B'.K F v d → ∀ Q : L2.St → Hp → Prop, (∀ σ', wipe σ' own1 = wipe σ own1 → Ok B' F ρ' w σ' H → Q σ' H) → g1 v σ H Q)
    (ht1 : ∀ B' : Bs, B'.K = B.K → Sim B' W0 RB tt1 mt1) (he : ∀ B' : Bs, B'.K = B.K → Sim B' W0 (RV B') te me) : SimN B W (tLc2 wi g tt wi1 g1 tt1 te own own1) (nLc2 own mi bind mt mi1 own1 bind1 mt1 me) := by
  unfold tLc2
  refine SimN.of (tk := fun J σ H1 Q => ∀ D, H1 D = none → ∃ W : Nat → Nat → Hp → Prop, (∃ m, W 0 m (upd H1 D (.lst []))) ∧ ∀ i m H, W i m H →
  (J.stop i H ∧ Q (.ref D) H) ∨ (J.go i H ∧ ∃ Nx : Hp → Prop, (∀ H', Nx H' → ∃ m', m' < m ∧ W (i + 1) m' H') ∧ ∀ x H', J.yld i H x H' → g x (wipe σ own) H' fun σ2 H2 => wipe σ2 own = wipe σ own ∧ tt σ2 H2 fun b H3 =>
    if b = true then wi1 σ2 H3
          fun J1 H4 => ∃ W1 : Nat → Nat → Hp → Prop, (∃ m, W1 0 m H4) ∧ ∀ j k H, W1 j k H →
      (J1.stop j H ∧ Nx H) ∨ (J1.go j H ∧ ∃ Nx1 : Hp → Prop, (∀ H', Nx1 H' → ∃ k', k' < k ∧ W1 (j + 1) k' H') ∧ ∀ x H', J1.yld j H x H' → g1 x (wipe σ2 own1) H' fun σ3 H5 => wipe σ3 own1 = wipe σ2 own1 ∧ tt1 σ3 H5 fun b H6 =>
        if b = true then te σ3 H6
              fun y H7 => ∃ acc, H7 D = some (.lst acc) ∧ acc.length < sizeLine ∧ Nx1 (upd H7 D (.lst (acc ++ [y]))) else Nx1 H6)
    else Nx H3)) hi fun ds ρ w r hr J F σ H ok wk Q p => ?_
  cases hlp : lcLoop2 own bind mt mi1 own1 bind1 mt1 me ds ρ w with
  | none => rw [hlp] at hr; cases hr
  | some z =>
    obtain ⟨ys, ρe, we⟩ := z
    rw [hlp] at hr
    dsimp only at hr
    split at hr
    case isFalse => cases hr
    rename_i hlen
    cases hr
    intro L hL
    have ww : ∀ {σ : L2.St} {vs : List Nat}, wipe (wipe σ vs) vs = wipe σ vs := fun {σ vs} => wipe_idem σ vs vs fun _ h => h
    refine ⟨fun i m H' => ∃ F' ρ' w' acc rest vs, m = ds.length - i ∧ i ≤ ds.length ∧ Sub F F' ∧ Ok B F' (wipeR ρ' own) w' (wipe σ own) H' ∧ New B F' (wipeR ρ' own) w' (wipe σ own) H' L acc ∧ H' L = some (.lst vs) ∧ RpAll B.K F' vs acc ∧
      lcLoop2 own bind mt mi1 own1 bind1 mt1 me (ds.drop i) ρ' w' = some (rest, ρe, we) ∧ acc ++ rest = ys, ⟨ds.length, ?_⟩, ?_⟩
    · obtain ⟨ok1, nw⟩ := ok.newL hL (vs := []) (ds := []) .nil
      exact ⟨F, ρ, w, [], ys, [], rfl, Nat.zero_le _, Sub.refl F, ok1.wiped own, nw.wiped own, upd_same, .nil, hlp, rfl⟩
    · rintro i m H' ⟨F', ρ', w', acc, rest, vs, rfl, hi', sF, ok', nw, hLs, racc, hrest, eys⟩
      by_cases hlt : i < ds.length
      · refine .inr ?_
        have hd : ds[i]? = some ds[i] := List.getElem?_eq_getElem hlt
        obtain ⟨_, hgo⟩ := wk i F' _ _ _ _ sF (B.plus L (.lst vs)) rfl (ok'.plus nw hLs)
        obtain ⟨go, hy⟩ := hgo _ hd
        refine ⟨go, fun H'' => ∃ F'' ρ'' w'' acc' rest' vs', Sub F F'' ∧ Ok B F'' (wipeR ρ'' own) w'' (wipe σ own) H'' ∧ New B F'' (wipeR ρ'' own) w'' (wipe σ own) H'' L acc' ∧ H'' L = some (.lst vs') ∧ RpAll B.K F'' vs' acc' ∧
          lcLoop2 own bind mt mi1 own1 bind1 mt1 me (ds.drop (i + 1)) ρ'' w'' = some (rest', ρe, we) ∧ acc' ++ rest' = ys, fun H'' ⟨F'', ρ'', w'', acc', rest', vs', q1, q2, q3, q4, q5, q7, q8⟩ => ⟨ds.length - (i + 1), by omega, F'', ρ'', w'', acc', rest', vs', rfl, hlt, q1, q2, q3, q4, q5, q7, q8⟩, fun x Hy yl => ?_⟩
        obtain ⟨F2, s2, ok2, rx⟩ := hy x Hy yl
        rw [List.drop_eq_getElem_cons hlt] at hrest
        unfold lcLoop2 at hrest
        cases hb : bind ds[i] (wipeR ρ' own) with
        | none => rw [hb] at hrest; cases hrest
        | some ρ0 =>
          rw [hb] at hrest
          dsimp only at hrest
          have w0L : L ∉ adr B.w := fun z => nw.nw (ok'.go.old L z)
          have bFL : B.F L = none := ok'.go.sub.back nw.nF
          refine hg (B.plus L (.lst vs)) rfl ds[i] _ ρ0 hb F2 _ _ _ x ok2 rx _ fun σ2 hw2 ok3 => ⟨by rw [hw2, ww], ?_⟩
          have ew : wipe σ2 own = wipe σ own := by rw [hw2, ww]
          cases ht1' : mt ρ0 w' with
          | none => rw [ht1'] at hrest; cases hrest
          | some r1 =>
            rw [ht1'] at hrest
            cases r1 with
            | exc _ _ _ => cases hrest
            | ok bb ρ1 w1 =>
              refine ht (B.plus L (.lst vs)) rfl ρ0 w' _ ht1' F2 σ2 Hy ok3 _ fun b F4 H4 s4 ok4 eb => ?_
              cases eb
              cases bb with
              | true =>
                rw [if_pos rfl]
                dsimp only at hrest
                cases hm1 : mi1 ρ1 w1 with
                | none => rw [hm1] at hrest; cases hrest
                | some r2 =>
                  rw [hm1] at hrest
                  cases r2 with
                  | exc _ _ _ => cases hrest
                  | ok ds1 ρ2 w2 =>
                    dsimp only at hrest
                    refine hi1 (B.plus L (.lst vs)) rfl ρ1 w1 _ hm1 F4 σ2 H4 ok4 _ fun J1 F5 H5 s5 ok5 wk1 => ?_
                    have sub5 : Sub F' F5 := (s2.trans s4).trans s5
                    obtain ⟨ok6, nw6, hL6⟩ := Ok.minus nw.n0 w0L bFL racc sub5 ok5
                    cases hl1 : lcLoop own1 bind1 mt1 me ds1 ρ2 w2 with
                    | none => rw [hl1] at hrest; cases hrest
                    | some z1 =>
                      obtain ⟨ys1, ρ3, w3⟩ := z1
                      rw [hl1] at hrest
                      dsimp only at hrest
                      cases hl2 : lcLoop2 own bind mt mi1 own1 bind1 mt1 me (ds.drop (i + 1)) (wipeR ρ3 own1) w3 with
                      | none => rw [hl2] at hrest; cases hrest
                      | some z2 =>
                        rw [hl2] at hrest
                        obtain ⟨rest', ρe', we'⟩ := z2
                        cases hrest
                        have wk2 : Walk B F5 J1 ds1 := wk1
                        refine loop_in hg1 ht1 he wk2 hl1 ok6 nw6 hL6 (racc.up sub5) ?_ fun F6 H6 vs6 s6 ok7 nw7 hL7 racc7 => ?_
                        · have e := congrArg List.length eys
                          simp only [List.length_append] at e ⊢
                          omega
                        · have ok8 := ok7.unwipe.wiped own
                          have nw8 := (New.unwiped ok7 nw7).wiped own
                          rw [ew] at ok8 nw8
                          exact ⟨F6, wipeR ρ3 own1, w3, acc ++ ys1, rest', vs6, sF.trans (sub5.trans s6), ok8, nw8, hL7, racc7, hl2, by rw [List.append_assoc]; exact eys⟩
              | false =>
                rw [if_neg
                      Bool.false_ne_true]
                dsimp only at hrest
                have sub4 : Sub F' F4 := s2.trans s4
                obtain ⟨ok6, nw6, hL6⟩ := Ok.minus nw.n0 w0L bFL racc sub4 ok4
                have ok8 := ok6.wiped own
                have nw8 := nw6.wiped own
                rw [ew] at ok8 nw8
                exact ⟨F4, ρ1, w1, acc, rest, vs, sF.trans sub4, ok8, nw8, hL6, racc.up sub4, hrest, eys⟩
      · have ei : i = ds.length := by omega
        subst ei
        refine .inl ?_
        rw [List.drop_length] at hrest
        cases hrest
        rw [List.append_nil] at eys
        subst eys
        obtain ⟨hstop, _⟩ := wk ds.length F' _ _ _ _ sF (B.plus L (.lst vs)) rfl (ok'.plus nw hLs)
        refine ⟨hstop (Nat.le_refl _), ?_⟩
        have nw2 := New.unwiped ok' nw
        exact p _ F' H' sF ok'.unwipe nw2
theorem sn_lc2 {tg elt iter tg1 iter1 : Expr} {ifs ifs1 : List Expr} {scope : Scope} {own : List (Str × Nat)} {wi wi1 : TI} {g g1 : TG} {tt tt1 : TT} {mi mi1 : M (List D)} {bind bind1 : D → Rho → Option Rho} {mt mt1 : M Bool} {vs vs1 own1 : List Nat} (q : Cq Kf X B W n) (hi : SI X B W tg iter wi mi) (ok : BlkOk X.N X.env.scope scope own)
    (hg : ∀ (s : Shared) (H : Hp) (C : Addr) (cl : List (Str × Addr)) (fp : List Addr) (B' : Bs), Kf = B'.K → SG (X.blk s H scope (compEnvC scope cl C X.env) fp) B' vs tg g bind)
    (ht : ∀ (s : Shared) (H : Hp) (C : Addr) (cl : List (Str × Addr)) (fp : List Addr) (B' : Bs), Kf = B'.K → Cq Kf (X.blk s H scope (compEnvC scope cl C X.env) fp) B' W0 n → SF (X.blk s H scope (compEnvC scope cl C X.env) fp) B' W0 ifs tt mt)
    (hi1 : ∀ (s : Shared) (H : Hp) (C : Addr) (cl : List (Str × Addr)) (fp : List Addr) (B' : Bs), Kf = B'.K → Cq Kf (X.blk s H scope (compEnvC scope cl C X.env) fp) B' W0 n → SI (X.blk s H scope (compEnvC scope cl C X.env) fp) B' W0 tg1 iter1 wi1 mi1)
    (hg1 : ∀ (s : Shared) (H : Hp) (C : Addr) (cl : List (Str × Addr)) (fp : List Addr) (B' : Bs), Kf = B'.K → SG (X.blk s H scope (compEnvC scope cl C X.env) fp) B' vs1 tg1 g1 bind1)
    (ht1 : ∀ (s : Shared) (H : Hp) (C : Addr) (cl : List (Str × Addr)) (fp : List Addr) (B' : Bs), Kf = B'.K → Cq Kf (X.blk s H scope (compEnvC scope cl C X.env) fp) B' W0 n → SF (X.blk s H scope (compEnvC scope cl C X.env) fp) B' W0 ifs1 tt1 mt1)
    (he : ∀ (s : Shared) (H : Hp) (C : Addr) (cl : List (Str × Addr)) (fp : List Addr) (B' : Bs), Kf = B'.K → Cq Kf (X.blk s H scope (compEnvC scope cl C X.env) fp) B' W0 n → SE (X.blk s H scope (compEnvC scope cl C X.env) fp) B' W0 elt te me)
    (hv : (vs.all fun i => (own.map (·.2)).contains i) = true := by rfl) (hv1 : (vs1.all fun i => own1.contains i) = true := by rfl) (hv2 : (own1.all fun i => (own.map (·.2)).contains i) = true := by rfl)
    (hs : ∀ x, foldedSetIterable iter X.env x = pure x := by intro _; rfl) (hs1 : ∀ env x, foldedSetIterable iter1 env x = pure x := by intro _ _; rfl) :
    SN X B W (.ListComp elt [⟨tg, iter, ifs, 0⟩, ⟨tg1, iter1, ifs1, 0⟩] scope pos) (tLc2 wi g tt wi1 g1 tt1 te (own.map (·.2)) own1) (nLc2 (own.map (·.2)) mi bind mt mi1 own1 bind1 mt1 me) := by
  cases q.hX
  have cq : ∀ (s : Shared) (H : Hp) (C : Addr) (cl : List (Str × Addr)) (fp : List Addr) (B' : Bs), X.K = B'.K → Cq X.K (X.blk s H scope (compEnvC scope cl C X.env) fp) B' W0 n := fun s H C cl fp B' e => ⟨rfl, e, takes0, q.hr, q.calm, q.nd⟩
  have hv' : ∀ i ∈ vs, i ∈ own.map (·.2) := fun i hi => List.contains_iff_mem.mp (List.all_eq_true.mp hv i hi)
  have hv1' : ∀ i ∈ vs1, i ∈ own1 := fun i hi => List.contains_iff_mem.mp (List.all_eq_true.mp hv1 i hi)
  have hv2' : ∀ i ∈ own1, i ∈ own.map (·.2) := fun i hi => List.contains_iff_mem.mp (List.all_eq_true.mp hv2 i hi)
  let B0 : Bs := ⟨X.K, fun _ => none, fun _ => none, none⟩
  refine ⟨pe_lc2 q.calm q.nd hi.pi ok hv2' (fun s H C cl fp => (hg s H C cl fp B0 rfl).pg) (fun s H C cl fp => (ht s H C cl fp B0 rfl (cq _ _ _ _ _ _ rfl)).pts) (fun s H C cl fp => (hi1 s H C cl fp B0 rfl (cq _ _ _ _ _ _ rfl)).pi) (fun s H C cl fp => (hg1 s H C cl fp B0 rfl).pg)
    (fun s H C cl fp => (ht1 s H C cl fp B0 rfl (cq _ _ _ _ _ _ rfl)).pts) (fun s H C cl fp => (he s H C cl fp B0 rfl (cq _ _ _ _ _ _ rfl)).pe) hs hs1,
    sim_lc2N hi.sim (fun B' e d ρ ρ' hb F w σ H v k rv Q p => ?_) (fun B' e => ?_) (fun B' e => ?_) (fun B' e d ρ ρ' hb F w σ H v k rv Q p => ?_) (fun B' e => ?_) (fun B' e => ?_)⟩
  · exact (hg s0 (fun _ => none) 0 [] [] B' (by rw [q.hK, e])).sim d ρ ρ' hb F w σ H v k rv Q fun σ' t k' => p σ' (t _ hv') k'
  · exact (ht s0 (fun _ => none) 0 [] [] B' (by rw [q.hK, e]) (cq _ _ _ _ _ _ (by rw [q.hK, e]))).sim
  · exact (hi1 s0 (fun _ => none) 0 [] [] B' (by rw [q.hK, e]) (cq _ _ _ _ _ _ (by rw [q.hK, e]))).sim
  · exact (hg1 s0 (fun _ => none) 0 [] [] B' (by rw [q.hK, e])).sim d ρ ρ' hb F w σ H v k rv Q fun σ' t k' => p σ' (t _ hv1') k'
  · exact (ht1 s0 (fun _ => none) 0 [] [] B' (by rw [q.hK, e]) (cq _ _ _ _ _ _ (by rw [q.hK, e]))).sim
  · exact (he s0 (fun _ => none) 0 [] [] B' (by rw [q.hK, e]) (cq _ _ _ _ _ _ (by rw [q.hK, e]))).sim
/-- a new list as a value -/
theorem se_new {e : Expr} {t : TE} {m : M (List D)} (S : SN X B W e t m) : SE X B W e t (bnd m fun ds => ret (.lst ds)) := ⟨S.pe, S.sim.val⟩
end
end DL
set_option Elab.async false
set_option linter.all false
set_option maxRecDepth 100000
set_option
      maxHeartbeats 4000000
/-! DLE12: t.count(x) of data. -/
namespace DL
open PySem PySem.Spec PyProof.Rows L2 RZ StX
variable [Tbs]
def cntD : D → List D → Option D
  | .tup ys, [z] => if dat 60 z && dats 59 ys then some (.int ((ys.countP fun y => deq y z : Nat) : Int)) else none
  | _, _ => none
theorem count_dats {n : Nat} {z : D} (hz : dat n z = true) : ∀ ys : List D, dats n ys = true → ((toPs ys).countP fun y => PyData.eqv y (toP z)) = ys.countP fun y => deq y z
  | [], _ => by simp [toPs]
  | y :: ys, h => by
    simp only [dats, Bool.and_eq_true] at h
    simp only [toPs, List.countP_cons]
    have e := deq_eqv n y z h.1 hz
    rw [count_dats hz ys h.2, e]
theorem dats_up' : ∀ {ys : List D}, dats 59 ys = true → dats 60 ys = true
  | [], _ => by simp [dats]
  | y :: ys, h => by
    simp only [dats, Bool.and_eq_true] at h ⊢
    exact ⟨mem_any.dat_up 59 y h.1, dats_up' h.2⟩
def rCntT (K : PySem.W.Frag) : V → List V → Hp → VK → Prop := fun x xs H Q => ∃ (a : Addr) (y : V) (d : PyData) (ds : List PyData), x = V.ref a ∧ xs = [y] ∧ Dp K H (V.ref a) (.tuple ds) ∧ Dp K H y d ∧ SeqAt.shaped (.tuple ds) = true ∧ SeqAt.shaped d = true ∧ Q (.int ((ds.countP fun y => PyData.eqv y d : Nat) : Int)) H
section
variable {X : Cx} {Kf : PySem.W.Frag} {B : Bs} {W : WX} {n : Nat} {e : Expr} {es : List Expr} {p pos apos : Pos} {ts : TA} {ms : M (List D)} {x : Str}
theorem mt_cntT (hu : X.A.units + 65 < cLine) : MtR X "tuple.count" (rCntT X.K) := by
  intro pins s σ H x
        xs v us Q I rx rxs h
  obtain ⟨a, y, d, ds, rfl, rfl, hl, hy, sl, sd, q⟩ := h
  cases rx
  cases rxs with
  | cons ry rt =>
    rename_i uy ut
    cases rt
    obtain ⟨bs, r1⟩ :=
          Dp.reads I d y uy hy ry
    have hxs : PyData.canLayAll0 ds = true := by
      have z := SeqAt.canLay_of_shaped sl
      exact z
    have hroom : X.A.units + 1 + min (PyData.depthAll
          ds) d.depth < cLine := room_in_shaped sd hu
    cases hl with
    | tup hs ha =>
      obtain ⟨its, rv, ht, hlen⟩ := I.tuple hs
      obtain ⟨as, h4⟩ :=
            Dp.readsAll I ds _ its ha rv
      exact SeqAt.count_tuple_data (vs := its.toArray) ht (by simpa using h4) r1 (PyData.plainAll_of_canLay0 ds hxs) (PyData.plain_of_canLay0 d (SeqAt.canLay_of_shaped sd)) hroom ⟨.int _, H, I.tok _, ⟨_, rfl⟩, q⟩
theorem sim_cntT {to : TE} {mo : M D} (ho : Sim B W (RV B) to mo) (hs : Sim B W (RA B) ts ms) : Sim B W (RV B) (tTM B.K (rCntT B.K) to ts) (mTM cntD mo ms) := by
  intro ρ w res hres F σ H ok Q p
  unfold mTM bnd at hres
  cases hm : mo ρ w with
  | none => rw [hm] at hres; cases hres
  | some r1 =>
    rw [hm] at hres
    refine ho ρ w r1 hm F σ H ok _ ?_
    cases r1 with
    | exc z ρ1 w1 => cases hres; exact p
    | ok d ρ1 w1 =>
      intro v F1 H1 s1 ok1 rv
      dsimp only at hres
      cases d with
      | tup ds =>
        cases rv with
        | tup h1 r1 =>
          refine ⟨_, _, rfl, ok1.sub.sqP h1, ?_⟩
          dsimp only at hres
          cases hm2 : ms ρ1 w1 with
          | none => rw [hm2] at hres; cases hres
          | some r2 =>
            rw [hm2] at hres
            refine hs ρ1 w1 r2 hm2 F1 σ H1 ok1 _ ?_
            cases r2 with
            | exc z ρ2 w2 =>
              cases hres
              exact fun d F2 H2 s2 ok2 hx => p d F2 H2 (s1.trans s2) ok2 hx
            | ok es ρ2 w2 =>
              intro us F2 H2 s2 ok2 rus
              obtain ⟨zd, hz, e3⟩ := lft_some hres
              subst e3
              unfold cntD at hz
              split at hz
              · rename_i ds' z ed
                cases ed
                split at hz
                · rename_i hc
                  rw [Bool.and_eq_true] at hc
                  cases hz
                  obtain ⟨u, eu, ru⟩ := rus.one
                  subst eu
                  obtain ⟨p1, q1⟩ := rp_shaped ok2.sub (d := .tup ds) (by simpa [dat] using hc.2) (.tup (s2.sqP h1) (r1.up s2))
                  obtain ⟨p2, q2⟩ := rp_shaped ok2.sub hc.1 ru
                  refine ⟨_, u, toP z, toPs ds, rfl, rfl, by simpa [toP] using p1, p2, by simpa [toP] using q1, q2, ?_⟩
                  rw [count_dats hc.1 ds (dats_up' hc.2)]
                  exact p _ F2 H2 (s1.trans s2) ok2 (.int _)
                · cases hz
              · cases hz
      | _ => cases hres
theorem se_cntT {o : Expr} {to : TE} {mo : M D} (q : Cq Kf X B W n) (ho : SE X B W o to mo) (ha : SA X B W [e] ts ms) (hbase : attributeBase o "count" X.env (eval o X.env) = eval o X.env := by rfl)
    (hfew : ((backTo pos (starEach [e] X.env)).all (fun x => !x.1) && (backToKw pos (keywordEach [] X.env)).all (fun x => x.1.isSome) && decide ([e].length + ([] : List Keyword).length + (if ([] : List Keyword).isEmpty then 0 else 1) < 30)) = true := by rfl)
    (hline : (apos.endLine == pos.line) = true := by rfl) (hs : starEach [e] X.env = (false, eval e X.env) :: starEach [] X.env := by rfl) (hpl : (backTo pos (starEach [] X.env)).any (·.1) = false := by rfl) : SE X B W (.Call (.Attribute o "count" apos) [e] [] pos) (tTM Kf (rCntT Kf) to ts) (mTM cntD mo ms) := by
  have u := q.u65
  cases q.hX
  exact ⟨pe_tm PySem.F.slot_tuple_count PySem.F.type_tuple_count (mt_cntT u) ho.pe ha.pa hbase hfew hline hs hpl, by rw [q.hK]; exact sim_cntT ho.sim ha.sim⟩
end
end DL
set_option Elab.async false
set_option linter.all false
set_option maxRecDepth 100000
set_option
      maxHeartbeats 4000000
/-! DLE13: xs + ys of lists, a new list that may still change. -/
namespace DL
open PySem PySem.Spec PyProof.Rows L2 RZ
variable [Tbs]
def kAdd (a b : D) : M (List D) := match a, b with
  | .lst xs, .lst ys => if xs.length + ys.length ≤ 100000 then ret (xs ++ ys) else fun _ _ => none
  | _, _ => fun _ _ => none
def nAdd (ma mb : M D) : M (List D) := bnd ma fun a => bnd mb fun b => kAdd a b
section
variable {X : Cx} {Kf : PySem.W.Frag} {B : Bs} {W : WX} {n : Nat} {a b : Expr} {ta tb : TE} {ma mb : M D} {pos : Pos}
theorem sn_add (q : Cq Kf X B W n) (ha : SE X B W a ta ma) (hb : SE X B W b tb mb) : SN X B W (.BinOp a .Add b pos) (tOp (rAddA Kf) ta tb) (nAdd ma mb) := by
  cases q.hX
  refine ⟨pe_op op_addA ha.pe hb.pe, ?_⟩
  intro ρ w r hr F σ H ok Q p
  unfold nAdd bnd at hr
  cases hm : ma ρ w with
  | none => rw [hm] at hr; cases hr
  | some r1 =>
    rw [hm] at hr
    refine ha.sim ρ w r1 hm F σ H ok _ ?_
    cases r1 with
    | exc z ρ1 w1 =>
      cases hr
      exact fun d F1 H1 s1 ok1 hx => p d F1 H1 s1 ok1 hx
    | ok da ρ1 w1 =>
      intro x F1 H1 s1 ok1 rx
      dsimp only at hr
      cases hm2 : mb ρ1 w1 with
      | none => rw [hm2] at hr; cases hr
      | some r2 =>
        rw [hm2] at hr
        refine hb.sim ρ1 w1 r2 hm2 F1 σ H1 ok1 _ ?_
        cases r2 with
        | exc z ρ2 w2 =>
          cases hr
          exact fun d F2 H2 s2 ok2 hx => p d F2 H2 (s1.trans s2) ok2 hx
        | ok db ρ2 w2 =>
          intro y F2 H2 s2 ok2 ry
          dsimp only at hr
          unfold kAdd at hr
          split at hr
          · split at hr
            · rename_i hl
              cases hr
              cases rx with
              | lst h1 r1 =>
                cases ry with
                | lst h2 r2 =>
                  refine .inr (.inr (.inr ⟨_, _, _, _, rfl, rfl, ok2.sub _ _ (s2 _ _ h1), ok2.sub _ _ h2, by rw [r1.length, r2.length]; exact small hl, fun pp hp => ?_⟩))
                  obtain ⟨ok3, nw⟩ := ok2.newL hp ((r1.up s2).append r2)
                  exact p pp F2 _ (s1.trans s2) ok3 nw
            · cases hr
          · cases hr
end
end DL
set_option Elab.async false
set_option linter.all false
set_option maxRecDepth 100000
set_option
      maxHeartbeats 4000000
/-! DLE14: more levels than needed; raise from a level on. -/
namespace DL
open PySem PySem.Spec PyProof.Rows L2 RZ StX NdefX
variable [Tbs]
section
variable {P : Program} {w : World} {K : PySem.W.Frag} {mg : Str → Option Value} {base : Heap} {CX : CXT}
omit [Tbs] in
theorem fnOk_up {k k' : Nat} {f : Addr} {fd : FuncData} {ps : List Str} {sp : Sp} (F : FnOk P w K mg base CX k f fd ps sp) (h : k ≤ k') : FnOk P w K mg base CX k' f fd ps sp :=
  ⟨F.len, fun A outer s H args us vs Q E hr => F.run A outer s H args us vs Q E (hr.mono h)⟩
theorem Fnc.up {n n' : Nat} {x : Str} {k : Nat} {g : Fn1} (F : Fnc P w K mg base n x k g) (h : n ≤ n') : Fnc P w K mg base n' x k g := by
  obtain ⟨f, fd, ps, h1, h2, h3, h4⟩ := F.ex
  exact ⟨f, fd, ps, h1, h2, h3, fnOk_up h4 h⟩
/-- nothing is promised, at any level -/
theorem fnc_none {n : Nat} {x : Str} {st : Stmt} {ps : List Str} (D : Df K mg x st ps) : Fnc P w K mg base n x ps.length (fun _ _ => none) := (z_of D).up (Nat.zero_le _)
theorem ErrM.up {n n' : Nat} {x : Str} {C : Addr} {fld : Str} {g : Fn1} (R : ErrM P w K mg base n x C fld g) (h : n ≤ n') : ErrM P w K mg base n' x C fld g := by
  obtain ⟨k, fI, fd, ps, hk, r⟩ := R.ex
  exact ⟨k, fI, fd, ps, Nat.le_trans hk h, r⟩
end
section
variable {X : Cx} {Kf : PySem.W.Frag} {B : Bs} {W : WX} {n l : Nat} {e : Expr} {ts : TA} {ms : M (List D)} {x fld : Str} {C : Addr} {g : Fn1} {p pos rpos : Pos}
/-- raise, where the level is at least l; below it nothing is said -/
def mRaiseL (l n : Nat) (c : Value) (fld : Str) (g : Fn1) (ms : M (List D)) : M Fl := if l ≤ n then mRaise c fld g ms else fun _ _ => none
theorem ss_raiseL (q : Cq Kf X B W n) (R : l ≤ n → ErrM X.prog X.w X.K X.mg X.base n x C fld g) (hg : Gl X x) (hs : SA X B W [e] ts ms) (hdb : (x == ("__debug__" : Str)) = false := by decide)
    (he : starEach [e] X.env = (false, eval e X.env) :: starEach [] X.env := by rfl) (hpl : (backTo pos (starEach [] X.env)).any (·.1) = false := by rfl) :
    SS X B W (.Raise (some (.Call (.Name x p) [e] [] pos)) none rpos) (fun Dn σ H => l ≤ n ∧ tMkO C (fun vs H Q E => spInit Kf C fld g vs H (fun v H' => UnTbl H H' → Q v H') E) [] ts σ H fun cls d H' => W cls d σ H') (mRaiseL l n (.ref C) fld g ms) := by
  by_cases h : l ≤ n
  · have S := ss_raise (rpos := rpos) (p := p) (pos := pos) q (R h) hg hs hdb he hpl
    refine ⟨⟨fun pins s σ H D I z => S.ps.run pins s σ H D I z.2⟩, fun ρ w r hr F σ H ok Dn post => ⟨h, ?_⟩⟩
    unfold mRaiseL at hr
    rw [if_pos h] at hr
    exact S.sim ρ w r hr F σ H ok Dn post
  · refine ⟨⟨fun pins s σ H D I z => absurd z.1 h⟩, fun ρ w r hr F σ H ok Dn post => ?_⟩
    unfold mRaiseL at hr
    rw [if_neg h] at hr
    cases hr
end
/-- the class x at C: an own error whose __init__(self, prm) says super().__init__(a text) and keeps copied(prm) in fld -/
structure ErrI (P : Program) (K : PySem.W.Frag) (mg : Str → Option Value) (x : Str) (C : Addr) (fld : Str) : Prop where
  hm : mg x = some (.ref C)
  hno : PySem.W.findIn K (.ref C) fld = some none
  ex : ∃ (f cda cc : Addr) (name qual prm : Str) (params : Arguments) (scope : Scope) (dV kV doc pm ct oc : Value) (an od : Option Addr) (osl : Array (Option Value)) (m : Str) (j : Nat) (p0 p1 p2 p3 p4 p5 q1 q2 q3 q4 q5 q6 : Pos) (pl : Sem Bool),
    K.lookup f = some ⟨oc, od, .func (PySem.W.fnX name qual params [.Expr (supE m j p0 p1 p2 p3 p4) p5, initS fld prm q1 q2 q3 q4 q5 q6] scope [("__class__", cc)] dV kV doc pm an (.ref cda) ct), osl⟩ ∧ PySem.W.codeIn K (.ref cda) qual = true ∧
    NScope ["self", prm, "__class__"] ["self", prm] ["__class__"] scope ∧ SupK P K mg C f cda cc scope ∧
    (∀ L : Addr, let env := PySem.W.ksEnv qual scope L f (.ref cda) cc
      interactive env = false ∧ swapsWith (supE m j p0 p1 p2 p3 p4) none p5.line env = pure false ∧ eval (supE m j p0 p1 p2 p3 p4) env = (do
        let ov ← attributeBase (.Call (.Name "super" p0) [] [] p1) "__init__" env (eval (.Call (.Name "super" p0) [] [] p1) env)
        standAt p2.atName
        let (f, first) ← holding [ov]
              (getMethod ov "__init__" pl)
        callWith p4 f first (backTo p4 (starEach [.Constant (.str m) j p3] env)) [])) ∧
    (∀ L : Addr, swapsWith (.Call (.Name "copied" q3) [.Name prm q4] [] q5) (some (.Attribute (.Name "self" q1) fld q2)) q6.line (PySem.W.ksEnv qual scope L f (.ref cda) cc) = pure false) ∧
    scope.names.lookup ("copied" : Str) = some .globalImplicit ∧ (prm == ("__debug__" : Str)) = false ∧ (prm == ("__classdict__" : Str)) = false ∧
    PySem.W.findIn K (.ref C) "__init__" = some (some (.ref f)) ∧ PySem.W.typeIn K (.ref f) = some (.type "function") ∧
    Binds K (PySem.W.fnX name qual params [.Expr (supE m j p0 p1 p2 p3 p4) p5, initS fld prm q1 q2 q3 q4 q5 q6] scope [("__class__", cc)] dV kV doc pm an (.ref cda) ct) ["self", prm] []
section
variable {P : Program} {w : World} {K : PySem.W.Frag} {mg : Str → Option Value} {base : Heap} {n : Nat} {x fld : Str} {C : Addr} {g : Fn1}
theorem errM_of (I : ErrI P K mg x C fld) (Fc : Fnc P w K mg base n "copied" 1 g) : ErrM P w K mg base (n + 2) x C fld g := by
  obtain ⟨f, cda, cc, name, qual, prm, params, scope, dV, kV, doc, pm, ct, oc, an, od, osl, m, j, p0, p1, p2, p3, p4, p5, q1, q2, q3, q4, q5, q6, pl, lk, hcd, S, T, henv, hsw, nmc, hd1, hd2, hi, ht, hb⟩ := I.ex
  exact ⟨n + 1, f, _, _, Nat.le_refl _, T.oex, hi, ht, I.hm, hb, fn_init lk hcd S T henv hsw nmc hd1 hd2 I.hno Fc⟩
end
theorem sim_pathK {Kf : PySem.W.Frag} {B : Bs} {W : WX} {CS : Addr} {fld : Str} {t : XK → TE} {mb : M D} (hK : Kf = B.K) (hex : PySem.W.exmOne Kf (.ref CS) (.ref CS) = some true) (hb : ∀ E : XK, Sim B (fun cls d _ H => E cls d H) (RV B) (t E) mb) :
    Sim B W (RV B) (LamX.tLam Tbs.T (TPk Kf CS fld) t) (mPath (.ref CS) fld mb) := by
  subst hK
  exact sim_path hex hb
end DL
set_option Elab.async false
set_option linter.all false
set_option maxRecDepth 100000
set_option
      maxHeartbeats 4000000
/-! DLE15: a dict with nothing in it; a def whose code object is known. -/
namespace DL
open PySem PySem.Spec PyProof.Rows L2 RZ StX
section
variable [Tbs]
variable {X : Cx} {Kf : PySem.W.Frag} {B : Bs} {W : WX} {n : Nat} {pos : Pos}
theorem se_dct0 : SE X B W (.Dict [] [] pos) tDNewK (ret (.dct [] [])) := ⟨pe_dnewK, fun ρ w r hr F σ H ok Q p => by
  cases hr
  intro q hq
  obtain ⟨s, ok'⟩ := ok.laid hq (.dK [])
  exact p _ _ _ s ok' (.dct (ks := []) (vs := []) upd_same rfl .nil)⟩
/-- the length of a list that may still change -/
def mLenO (i : Nat) : M D := fun ρ w => match ρ[i]? with
  | some (.own l) => some (.ok (.int l.length) ρ w)
  | some (.val d) => (lenD [d]).map fun z => .ok z ρ w
  | _ => none
theorem se_leno {i : Nat} {x : Str} {p p2 : Pos} (q : Cq Kf X B W n) (hg : Gl X "len") (hm : X.mg "len" = none) (hN : X.N[i]? = some x := by rfl) (hv : Vis X.env.scope x := by first | exact Or.inl rfl | exact Or.inr (Or.inl rfl) | exact Or.inr (Or.inr rfl)) (hd : (x == ("__debug__" : Str)) = false := by decide) (hcd : (x == ("__classdict__" : Str)) = false := by decide)
    (he : starEach [.Name x p2] X.env = (false, eval (.Name x p2) X.env) :: starEach [] X.env := by rfl) (hpl : (backTo pos (starEach [] X.env)).any (·.1) = false := by rfl) : SE X B W (.Call (.Name "len" p) [.Name x p2] [] pos) (tCB (rLenA Kf) (tCons (tVar i) tNil)) (mLenO i) := by
  cases q.hX
  refine ⟨pe_callB call_lenA hg hm PySem.boot_len (pa_cons (pe_var hN hv hd hcd) pa_nil he) (by decide) (by decide) he hpl, fun ρ w r hr F σ H ok Q p => ?_⟩
  rw [q.hK]
  unfold mLenO at hr
  split at hr
  · rename_i l h
    cases hr
    obtain ⟨a, vs, h1, h2, h3, h4, h5, h6⟩ := ok.own i l h
    exact ⟨.ref a, h1, _, l.length, rfl, .inl ⟨_, SqL.of h2, h6.length.symm⟩, p _ F H (Sub.refl F) ok (.int _)⟩
  · rename_i d h
    obtain ⟨v, h1, rv⟩ := ok.val i d h
    cases hl : lenD [d] with
    | none => rw [hl] at hr; cases hr
    | some z =>
      rw [hl] at hr
      cases hr
      refine ⟨v, h1, ?_⟩
      exact (cas_len (B := B) (W := W)) [d] ρ w (.ok z ρ w) (by show (lenD [d]).map _ = _; rw [hl]; rfl) F σ H [v] ok (.cons rv .nil) Q p
  · cases hr
end
/-- a def, its code object at c -/
structure DfC (K : PySem.W.Frag) (mg : Str → Option Value) (x : Str) (st : Stmt) (ps : List Str) (c : Addr) : Prop where
  ex : ∃ (f : Addr) (fd : FuncData), Fun K x x st f fd ∧ mg x = some (.ref f) ∧ Binds K fd ps [] ∧ fd.code = .ref c
theorem dfc_mk {K : PySem.W.Frag} {h : Heap} {mg : Str → Option Value} {x : Str} {st : Stmt} {ps : List Str} {f : Addr} {oc : Value} {od an : Option Addr} {osl : Array (Option Value)} {kV dc pm ct : Value} {c : Addr} (X : K.In h) (G : h.Ns mainGlobals mg)
    (a : PySem.W.nsIn K mainGlobals x = some (some (.ref f))) (l : K.lookup f = some ⟨oc, od, .func (PySem.W.fnOf x x (defArgs st) (defBody st) (defScope st) .none kV dc pm an (.ref c) ct), osl⟩) (cd : PySem.W.codeIn K (.ref c) x = true) (k : PySem.W.keepIn K (.ref f) = true)
    (hb : ∀ F : Fun K x x st f (PySem.W.fnOf x x (defArgs st) (defBody st) (defScope st) .none kV dc pm an (.ref c) ct), Binds K (PySem.W.fnOf x x (defArgs st) (defBody st) (defScope st) .none kV dc pm an (.ref c) ct) ps []) : DfC K mg x st ps c :=
  ⟨f, _, fun_mk l cd k, PySem.W.mg_of X G a, hb (fun_mk l cd k), rfl⟩
theorem DfC.df {K : PySem.W.Frag} {mg : Str → Option Value} {x : Str} {st : Stmt} {ps : List Str} {c : Addr} (D : DfC K mg x st ps c) : Df K mg x st ps := by
  obtain ⟨f, fd, h1, h2, h3, _⟩ := D.ex
  exact ⟨f, fd, h1, h2, h3⟩
/-- a code object's table -/
theorem codeHd_by {K : PySem.W.Frag} {c P : Addr} {od : Option Addr} {vs : Array Value} {sl : Array (Option Value)} (l : K.lookup c = some ⟨.type "code", od, .fields vs, sl⟩) (p : vs[11]? = some (.ref P)) (h : PySem.W.codeHdIn K c P = true) : PySem.W.codeHdIn K c P = true := h
end DL
set_option Elab.async false
set_option linter.all false
set_option maxRecDepth 100000
set_option
      maxHeartbeats 4000000
/-! DLE16: an own error's facts from what the written part says. -/
namespace DL
open PySem PySem.Spec PyProof.Rows L2 RZ StX NdefX
theorem errI_mk {P : Program} {K : PySem.W.Frag} {h : Heap} {mg : Str → Option Value} {x fld nm q qual name prm m : Str} {C N f cda cc : Addr} {bs bm sub : List Value} {sn : List Str} {ab : Bool} {col : Option Bool} {dd od an od2 od3 : Option Addr} {m0 m1 m2 m3 m5 : Option Value}
    {osl sl2 sl3 : Array (Option Value)} {oc dV kV doc pm ct oc2 oc3 : Value} {vs : Array Value} {file : Str} {tf : Tok} {params : Arguments} {scope : Scope} {j : Nat} {p0 p1 p2 p3 p4 p5 q1 q2 q3 q4 q5 q6 : Pos} {pl : Sem Bool} (X : K.In h) (G : h.Ns mainGlobals mg)
    (aC : PySem.W.nsIn K mainGlobals x = some (some (.ref C)))
    (xL : K.lookup C = some (excClassObj nm q C N bs bm true sn sub ab col dd m0 m1 m2 m3 m5 "ValueError.__new__"))
    (rb : PySem.HandSPX.refsVE bm = true)
    (sa : PySem.W.findIn K (.ref C) "__setattr__" = some (some (.builtin "object.__setattr__")))
    (eC : PySem.W.subIn K (.ref C) (.type "BaseException") = some true)
    (tC : PySem.W.typeIn K (.ref C) = some (.type "type"))
    (kC : PySem.W.keepIn K (.ref C) = true)
    (nb : PySem.W.findIn K (.ref C) fld = some none)
    (a1 : PySem.W.findIn K (.ref C) "__init__" = some (some (.ref f)))
    (t1 : PySem.W.typeIn K (.ref f) = some (.type "function"))
    (l1 : K.lookup f = some ⟨oc, od, .func (PySem.W.fnX name qual params [.Expr (supE m j p0 p1 p2 p3 p4) p5, initS fld prm q1 q2 q3 q4 q5 q6] scope [("__class__", cc)] dV kV doc pm an (.ref cda) ct), osl⟩)
    (c1 : PySem.W.codeIn K (.ref cda) qual = true)
    (sf : ∃ ar, (params.posonlyargs ++ params.args).head? = some ar ∧ ar.arg = "self")
    (l2 : K.lookup cda = some ⟨oc2, od2, .fields vs, sl2⟩)
    (f2 : vs[2]? = some (.str file tf))
    (hfile : ((P.main.file : Str) == file) = true)
    (l3 : K.lookup cc = some ⟨oc3, od3, .cell (some (.ref C)), sl3⟩)
    (up : PySem.W.ks_superIn K C C "__init__" = some (some (.builtin "ValueError.__init__")))
    (sV : PySem.W.subIn K (.ref C) (.type "ValueError") = some true)
    (mr : PySem.W.mroIn K C (.ref C) = some true)
    (op : PySem.W.nsIn K cStatics "thirdparty.any" = some none)
    (ns : PySem.W.nsIn K mainGlobals "super" = some none)
    (tp : (P.main.scope.names.lookup ("super" : Str)).isSome = false)
    (n1 : scope.names.lookup ("super" : Str) = some .globalImplicit) (n2 : scope.names.lookup ("__class__" : Str) = some .free) (n3 : scope.names.lookup ("self" : Str) = some .local) (n4 : scope.names.lookup ("copied" : Str) = some .globalImplicit)
    (S : nscB ["self", prm, "__class__"] ["self", prm] ["__class__"] scope = true)
    (d1 : (prm == ("__debug__" : Str)) = false) (d2 : (prm == ("__classdict__" : Str)) = false)
    (e1 : ∀ L : Addr, let env := PySem.W.ksEnv qual scope L f (.ref cda) cc
      interactive env = false ∧ swapsWith (supE m j p0 p1 p2 p3 p4) none p5.line env = pure false ∧ eval (supE m j p0 p1 p2 p3 p4) env = (do
        let ov ← attributeBase (.Call (.Name "super" p0) [] [] p1) "__init__" env (eval (.Call (.Name "super" p0) [] [] p1) env)
        standAt p2.atName
        let (f, first) ← holding [ov]
              (getMethod ov "__init__" pl)
        callWith p4 f first (backTo p4 (starEach [.Constant (.str m) j p3] env)) []))
    (e2 : ∀ L : Addr, swapsWith (.Call (.Name "copied" q3) [.Name prm q4] [] q5) (some (.Attribute (.Name "self" q1) fld q2)) q6.line (PySem.W.ksEnv qual scope L f (.ref cda) cc) = pure false)
    (hb : ∀ us : List Value, us.length = 2 → bindArgs (PySem.W.fnX name qual params [.Expr (supE m j p0 p1 p2 p3 p4) p5, initS fld prm q1 q2 q3 q4 q5 q6] scope [("__class__", cc)] dV kV doc pm an (.ref cda) ct) ⟨us, []⟩ = pure ((["self", prm] : List Str).zip us)) :
    ErrI P K mg x C fld := by
  refine ⟨PySem.W.mg_of X G aC, nb, f, cda, cc, name, qual, prm, params, scope, dV, kV, doc, pm, ct, oc, an, od, osl, m, j, p0, p1, p2, p3, p4, p5, q1, q2, q3, q4, q5, q6, pl, l1, c1, nscope_by S, ?_, e1, e2, n4, d1, d2, a1, t1, .all hb⟩
  obtain ⟨ar, s1, s2⟩ := sf
  exact ⟨⟨⟨nm, q, N, bs, bm, sn, sub, ab, col, dd, m0, m1, m2, m3, m5, xL, rb⟩, sa, eC, tC, kC⟩, ⟨oc, od, _, osl, ar, l1, s1, s2⟩, ⟨oc2, od2, vs, sl2, file, tf, l2, f2, hfile⟩, ⟨oc3, od3, sl3, l3⟩, up, sV, mr, op, PySem.W.mg_none_of X G ns, tp, n1, n2, n3⟩
end DL
set_option Elab.async false
set_option linter.all false
set_option maxRecDepth 100000
set_option
      maxHeartbeats 4000000
/-! DLE17: texts: f-strings, join, str(int); a def that tells (fine, value) or (kind, field). -/
namespace DL
open PySem PySem.Spec PyProof.Rows L2 RZ StX LamX
variable [Tbs]
section
variable {X : Cx} {Kf : PySem.W.Frag} {B : Bs} {W : WX} {n : Nat} {e o : Expr} {te to : TE} {me mo : M D} {pos apos p : Pos} {es : List Expr} {ts : TA} {ms : M (List D)}
/-! ### an int as a text -/
def txtI (i : Int) : Option D := if i.natAbs.log2 < 1920 ∧ PyData.strOk (toString i : String) = true then some (.str (toString i : String)) else none
def fmtD : D → Option D
  | .str y => if y.length ≤ 100000 then some (.str y) else none
  | .int i => txtI i
  | _ => none
def mFmt (m : M D) : M D := bnd m fun d => lft (fmtD d)
theorem se_fmt (h : SE X B W e te me) : SE X B W (.FormattedValue e (-1) none pos) (tFmt te) (mFmt me) :=
  ⟨pe_fmt h.pe, Sim.bnd (R' := RV B) (k := fun d => lft (fmtD d)) (tk := fun (x : V) σ H (Q : VK) => (∃ y : Str, x = V.str y ∧ y.length ≤ sizeLine ∧ Q (V.str y) H) ∨ ∃ i : Int, x = V.int i ∧ i.natAbs.log2 < 1920 ∧ Q (V.str (toString i : String)) H) h.sim fun d ρ w r hr v F σ H ok rv Q p => by
    obtain ⟨z, hz, e1⟩ := lft_some hr
    subst e1
    unfold fmtD at hz
    split at hz
    · split at hz
      · rename_i y hl
        cases hz
        cases rv with
        | str _ g => exact .inl ⟨_, rfl, small hl, p _ F H (Sub.refl F) ok (.str _ g)⟩
      · cases hz
    · rename_i i
      unfold txtI at hz
      split at hz
      · rename_i hc
        cases hz
        cases rv
        exact .inr ⟨i, rfl, hc.1, p _ F H (Sub.refl F) ok (.str _ hc.2)⟩
      · cases hz
    · cases hz⟩
/-! ### f-strings -/
def kStr {α : Type} (k : Str → M α) : D → M α
  | .str x => k x
  | _ => fun _ _ => none
def mJs : List (M D) → Str → M D
  | [], acc => ret (.str acc)
  | m :: ms, acc => bnd m (kStr fun y => if acc.length + y.length ≤ 100000 then mJs ms (acc ++ y) else fun _ _ => none)
inductive SJ (X : Cx) (B : Bs) (W : WX) : List Expr → List TE → List (M D) → Prop where
  | nil : SJ X B W [] [] []
  | cons {e : Expr} {t : TE} {m : M D} {es : List Expr} {ts : List TE} {ms : List (M D)} (h : SE X B W e t m) (r : SJ X B W es ts ms) : SJ X B W (e :: es) (t :: ts) (m :: ms)
theorem SJ.pj {es : List Expr} {ts : List TE} {ms : List (M D)} (h : SJ X B W es ts ms) : PJ X es ts := by
  induction h with
  | nil => exact .nil
  | cons h _ ih => exact .cons h.pe ih
theorem sim_js {es : List Expr} {ts : List TE} {ms : List (M D)} (h : SJ X B W es ts ms) : ∀ acc : Str, PyData.strOk acc = true → Sim B W (RV B) (fun σ H Q => tJs ts acc σ H fun out H1 => Q (.str out) H1) (mJs ms acc) := by
  induction h with
  | nil =>
    intro acc ha ρ w r hr F σ H ok Q p
    cases hr
    exact p _ F H (Sub.refl F) ok (.str _ ha)
  | @cons e t m es ts ms h _ ih =>
    intro acc ha
    refine Sim.bnd (R' := RV B) (tk := fun x σ H Q => ∃ y : Str, x = .str y ∧ (acc ++ y).length ≤ sizeLine ∧ tJs ts (acc ++ y) σ H fun out H1 => Q (.str out) H1) h.sim fun d ρ w r hr v F σ H ok rv Q p => ?_
    cases d with
    | str y =>
      have hr : (if acc.length + y.length ≤ 100000 then mJs ms (acc ++ y) else fun _ _ => none) ρ w = some r := hr
      split at hr
      · rename_i hl
        cases rv with
        | str _ g => exact ⟨y, rfl, by rw [strLen_append]; exact small hl, ih (acc ++ y) (strOk_app ha g) ρ w r hr F σ H ok Q p⟩
      · cases hr
    | _ => cases hr
theorem se_joined {v1 v2 : Expr} {rest : List Expr} {ts : List TE} {ms : List (M D)} (h : SJ X B W (v1 :: v2 :: rest) ts ms) : SE X B W (.JoinedStr (v1 :: v2 :: rest) pos) (fun σ H Q => tJs ts Str.empty σ H fun out H1 => Q (.str out) H1) (mJs ms Str.empty) :=
  ⟨pe_joined h.pj, sim_js h Str.empty (by decide +kernel)⟩
theorem se_joined1 (h : SE X B W e te me) : SE X B W (.JoinedStr [e] pos) te me := ⟨pe_joined1 h.pe, h.sim⟩
/-! ### methods of texts -/
theorem sim_m1 {r : V → List V → Hp → VK → Prop} {f : Str → D → Option D} (ho : Sim B W (RV B) to mo) (he : Sim B W (RV B) te me)
    (hr : ∀ (x : Str) dy d, f x dy = some d → ∀ (F H : Hp) y, Sub F H → Rp B.K F y dy → PyData.strOk x = true → ∀ Q : VK, (∀ v, Rp B.K F v d → Q v H) → r (.str x) [y] H Q) : Sim B W (RV B) (tM1 r to te) (bnd mo (kStr fun x => bnd me fun b => lft (f x b))) := by
  refine Sim.bnd (R' := RV B) (tk := fun x σ H Q => (∃ a, x = V.str a) ∧ te σ H fun y H2 => r x [y] H2 Q) ho fun a ρ1 w1 r1 hr1 x F1 σ1 H1 ok1 rx Q1 p1 => ?_
  cases a with
  | str x0 =>
    cases rx with
    | str _ g =>
      refine ⟨⟨_, rfl⟩, ?_⟩
      have hr1 : bnd me (fun b => lft (f x0 b)) ρ1 w1 = some r1 := hr1
      unfold bnd at hr1
      cases h : me ρ1 w1 with
      | none => rw [h] at hr1; cases hr1
      | some r2 =>
        rw [h] at hr1
        cases r2 with
        | ok b ρ2 w2 =>
          dsimp only at hr1
          obtain ⟨d, hd, e1⟩ := lft_some hr1
          subst e1
          exact he ρ1 w1 _ h F1 σ1 H1 ok1 _ fun y F2 H2 s2 ok2 ry => hr x0 b d hd F2 H2 y ok2.sub ry g Q1 fun v rv => p1 v F2 H2 s2 ok2 rv
        | exc z ρ2 w2 =>
          cases hr1
          exact he ρ1 w1 _ h F1 σ1 H1 ok1 _ fun d F2 H2 s2 ok2 q => p1 d F2 H2 s2 ok2 q
  | _ => cases hr1
def strL : List D → Option (List Str)
  | [] => some []
  | .str x :: r => (strL r).map (x :: ·)
  | _ => none
theorem strL_map : ∀ {ds : List D} {ys : List Str} {K : PySem.W.Frag} {F : Hp} {vs : List V}, strL ds = some ys → RpAll K F vs ds → vs = ys.map V.str
  | [], ys, K, F, vs, h, r => by
    cases h
    cases r
    rfl
  | d :: ds, ys, K, F, vs, h, r => by
    cases d with
    | str x =>
      have h : (strL ds).map (x :: ·) = some ys := h
      cases e : strL ds with
      | none => rw [e]
            at h; cases h
      | some zs =>
        rw [e] at h
        cases h
        cases r with
        | cons r1 r2 =>
          cases r1
          rw [strL_map e r2]
          rfl
    | _ => cases h
def joinS (a : Str) (ys : List Str) : Option D := if (ys.map (·.length)).sum + ys.length * a.length ≤ 100000 ∧ PyData.strOk (Txt.join a ys) = true then some (.str (Txt.join a ys)) else none
def joinD (a : Str) : D → Option D
  | .lst ds => (strL ds).bind (joinS a)
  | .tup ds => (strL ds).bind (joinS a)
  | _ => none
def mJoin (mo me : M D) : M D := bnd mo (kStr fun x => bnd me fun b => lft (joinD x b))
theorem se_join (q : Cq Kf X B W n) (ho : SE X B W o to mo) (he : SE X B W e te me) (hs : starEach [e] X.env = [(false, eval e X.env)] := by rfl) (hbase : attributeBase o "join" X.env (eval o X.env) = eval o X.env := by rfl) (hline : (apos.endLine == pos.line) = true := by rfl) :
    SE X B W (.Call (.Attribute o "join" apos) [e] [] pos) (tM1 (fun x xs H Q => ∃ a p, ∃ ys : List Str, x = .str a ∧ xs = [.ref p] ∧ (SqL Kf H p (ys.map V.str) ∨ SqT Kf H p (ys.map V.str)) ∧
      (ys.map (·.length)).sum + ys.length * a.length ≤ 16777216 ∧ Q (.str (Txt.join a ys)) H) to te) (mJoin mo me) := by
  cases q.hX
  refine ⟨pe_join ho.pe he.pe hs hbase hline, ?_⟩
  rw [q.hK]
  refine sim_m1 ho.sim he.sim fun x dy d h F H y sub ry g Q q => ?_
  have key : ∀ ys : List Str, joinS x ys = some d → ∀ p, (SqL B.K H p (ys.map V.str) ∨ SqT B.K H p (ys.map V.str)) → y = .ref p → ∃ a p, ∃ ys : List Str, V.str x = .str a ∧ [y] = [.ref p] ∧ (SqL B.K H p (ys.map V.str) ∨ SqT B.K H p (ys.map V.str)) ∧
      (ys.map (·.length)).sum + ys.length * a.length ≤ 16777216 ∧ Q (.str (Txt.join a ys)) H := fun ys h p hp ey => by
    unfold joinS at h
    split at h
    · rename_i hc
      cases h
      exact ⟨x, p, ys, rfl, by rw [ey], hp, by omega, q _ (.str _ hc.2)⟩
    · cases h
  cases dy with
  | lst ds =>
    have h : (strL ds).bind (joinS x) = some d := h
    cases e : strL ds with
    | none => rw [e]
          at h; cases h
    | some ys =>
      rw [e] at h
      cases ry with
      | lst h1 r1 =>
        have ev := strL_map e r1
        exact key ys h _ (.inl (by rw [← ev]; exact SqL.of (sub _ _ h1))) rfl
  | tup ds =>
    have h : (strL ds).bind (joinS x) = some d := h
    cases e : strL ds with
    | none => rw [e]
          at h; cases h
    | some ys =>
      rw [e] at h
      cases ry with
      | tup h1 r1 =>
        have ev := strL_map e r1
        exact key ys h _ (.inr (by rw [← ev]; exact (sub.sqP h1).sqT)) rfl
  | _ => cases h
/-! ### str(x) -/
def strD : List D → Option D
  | [.int i] => txtI i
  | _ => none
theorem cas_strI : CaS B W (fun xs H Q => ∃ i : Int, xs = [.int i] ∧ i.natAbs.log2 < 1920 ∧ Q (.str (toString i : String)) H) fun ds => lft (strD ds) := by
  refine .pure fun ds d h F H vs sub rs Q q _ _ => ?_
  unfold strD at h
  split at h
  · rename_i i
    unfold txtI at h
    split at h
    · rename_i hc
      cases h
      obtain ⟨v, e, rv⟩ := rs.one
      subst e
      cases rv
      exact ⟨i, rfl, hc.1, q _ (.str _ hc.2)⟩
    · cases h
  · cases h
theorem se_strI (hg : Gl X "str") (hm : X.mg "str" = none) (ha : SA X B W (e :: es) ts ms) (he : starEach (e :: es) X.env = (false, eval e X.env) :: starEach es X.env := by rfl) (hpl : (backTo pos (starEach es X.env)).any (·.1) = false := by rfl) :
    SE X B W (.Call (.Name "str" p) (e :: es) [] pos) (tCB (fun xs H Q => ∃ i : Int, xs = [.int i] ∧ i.natAbs.log2 < 1920 ∧ Q (.str (toString i : String)) H) ts) (bnd ms fun ds => lft (strD ds)) :=
  se_ct call_str_int cas_strI hg hm (by decide +kernel) ha (by decide) (by decide) he hpl
end
/-! ### told -/
theorem sim_toldK {Kf : PySem.W.Frag} {B : Bs} {W : WX} {CS : Addr} {fine kind fld : Str} {t : XK → TE} {mb : M D} (hs1 : PyData.strOk fine = true) (hs2 : PyData.strOk kind = true) (hK : Kf = B.K) (hex : PySem.W.exmOne Kf (.ref CS) (.ref CS) = some true) (hb : ∀ E : XK, Sim B (fun cls d _ H => E cls d H) (RV B) (t E) mb) :
    Sim B W (RV B) (LamX.tLam Tbs.T (TTk Kf CS fine kind fld) t) (mTold (.ref CS) fine kind fld mb) := by
  subst hK
  exact sim_told hs1 hs2 hex hb
end DL
set_option Elab.async false
set_option linter.all false
set_option maxRecDepth 100000
set_option maxHeartbeats 4000001
/-! DLE18: except clauses that all name the exception, one behind the other. -/
namespace DL
open PySem PySem.Spec PyProof.Rows L2 RZ StX LamX
/-- a clause: its class, the slot of its name, what its suite reads -/
abbrev Cl := Value × Nat × (Addr → Value → Option Addr → TS)
/-- what is wished of an error: the first clause that fits, else what lies further out -/
def wAsN (K : PySem.W.Frag) (Wout : WX) (D : Ends) : List Cl → WX
  | [] => Wout
  | (c, i, ts) :: more => fun cls d σ H => ∃ fits : Bool, PySem.W.exmOne K cls c = some fits ∧
      (fits = true → ∀ a, H a = none → ts a cls d ⟨fun τ G => D.nx (τ.set i none) G, D.rt, fun τ G => D.bk (τ.set i none) G, fun τ G => D.ct (τ.set i none) G⟩ (σ.set i (some (.ref a))) H) ∧
      (fits = false → wAsN K Wout D more cls d σ H)
inductive HdA (X : Cx) : List ExceptHandler → List Cl → Prop
  | nil : HdA X [] []
  | cons {x n : Str} {i : Nat} {c : Value} {ts : Addr → Value → Option Addr → TS} {s0 : Stmt} {body : List Stmt} {np hp : Pos} {hds : List ExceptHandler} {l : List Cl}
      (slot : X.N[i]? = some n) (loc : X.env.kindOf n = some .local) (nm : Names X x c)
      (run : ∀ (a : Addr) (o : Obj) (cls : Value) (d : Option Addr) (pn : List (Addr × Obj)), Zc cls d o → (∃ vs, o.data = .fields vs) → PSs (X.suite a ((a, o) :: pn)) (s0 :: body) (ts a cls d)) (more : HdA X hds l) :
      HdA X (.ExceptHandler (some (.Name x np)) (some n) (s0 :: body) hp :: hds) ((c, i, ts) :: l)
/-- an error fell into X's frame: sI stood ahead of it, s stands -/
structure Fell (X : Cx) (pins : List (Addr × Obj)) (σ : L2.St) (H : Hp) (a : Addr) (cls : Value) (d : Option Addr) (B : Heap) (sI s : Shared) : Prop where
  was : Inv X pins σ H sI
  ground : ∀ b o, sI.heap.get? b = some o → b ∉ frs X.stack → B.get? b = some o
  grew : sI.heap.UpToSlots s.heap
  air : HandSPX.FlyingZ B (X.env :: X.outer) a (Zc cls d) s.heap
  own : H a = none
  os : s.os = sI.os
  bare : AllBare s.gens
section
variable {X : Cx} {pins : List (Addr × Obj)} {σ : L2.St} {H : Hp} {a : Addr} {cls : Value} {d : Option Addr} {B : Heap} {sI s : Shared}
theorem Fell.inv (f : Fell X pins σ H a cls d B sI s) : Inv X pins σ H s := f.was.landed f.ground f.air.1 f.grew f.os f.bare
/-- the error's object, and the frame that its suite runs in -/
theorem Fell.suite (f : Fell X pins σ H a cls d B sI s) (top : X.env.frame = some X.env.locals) : ∃ o, s.heap.get? a = some o ∧ Zc cls d o ∧ (∃ vs, o.data = .fields vs) ∧ Inv (X.suite a ((a, o) :: (X.pn ++ pins))) [] σ H s := by
  obtain ⟨o, vs, at_, zc, fl⟩ := f.air.there
  -- no frame has fields
  have off : a ∉ frs (X.env :: X.outer) := fun m => by
    obtain ⟨_, o', at', no⟩ := f.air.2.2.1.mem m
    obtain rfl := Option.some.inj (at_.symm.trans at')
    exact no _ fl
  have inFrs : ∀ e ∈ X.env :: X.outer, e.frame = some a → False := fun e he q => off (List.mem_filterMap.mpr ⟨e, he, q⟩)
  refine ⟨o, at_, zc, ⟨vs, fl⟩, f.inv.suite at_ fl f.own ?_ ?_⟩
  · rintro rfl
    exact inFrs _ List.mem_cons_self top
  · intro m
    obtain ⟨e, he, q⟩ := List.mem_filterMap.mp m
    exact inFrs e (List.mem_cons_of_mem _ he) q
theorem Fell.to (f : Fell X pins σ H a cls d B sI s) {h : Heap} (air : HandSPX.FlyingZ B (X.env :: X.outer) a (Zc cls d) h) (up : s.heap.UpToSlots h) : Fell X pins σ H a cls d B sI { s with heap := h } :=
  ⟨f.was, f.ground, f.grew.trans up, air, f.own, f.os, f.bare⟩
/-- no clause is left: it goes on its way -/
theorem Fell.leaves {Wout : WX} {D : Ends} (f : Fell X pins σ H a cls d B sI s) (frames : X.stack = X.env :: X.outer) (top : X.env.frame = some X.env.locals) (tk : Takes X Wout) (w : Wout cls d σ H) :
    wpAny (model X.prog X.w) X.A (handleBy (.ref a) X.env []) (SP X pins D) X.xe s := by
  refine wpAny_handleBy_nil ?_
  obtain ⟨_, _, _, o, vs, T, oT, _, at_, _, fl, first, _⟩ := id f.air
  have out : wpAny (model X.prog X.w) X.A (setFlight (.ref a) X.env.frame) (fun _ s2 => wpAny (model X.prog X.w) X.A (throw (.ref a) : Sem Flow) (SP X pins D) X.xe s2) X.xe s := by
    rw [top]
    refine HandSPX.setFlight_upZ f.air fun h held up => wpAny_throw (tk _ _ ⟨a, B, sI, pins, σ, H, cls, d, rfl, f.was, f.ground, f.grew.trans up, .inr (.inr ?_), f.own, f.os, f.bare, w⟩)
    rw [frames]
    exact held
  unfold PySem.passOn
  refine wpAny_bind (wpAny_field at_ fl first ?_)
  have tr : ¬ ((Value.ref T == Value.none) = true) := by simp
  rw [if_neg tr]
  first
    | exact wpAny_bind (wpAny_pure (wpAny_bind out))
    | exact wpAny_bind out
/-- the clauses, one behind the other -/
theorem Fell.caught {Wout : WX} {D : Ends} {hds : List ExceptHandler} {l : List Cl} (frames : X.stack = X.env :: X.outer) (top : X.env.frame = some X.env.locals) (nd : X.N.Nodup) (tk : Takes X Wout) (hh : HdA X hds l) (f : Fell X pins σ H a cls d B sI s) (w : wAsN X.K Wout D l cls d σ H) :
    wpAny (model X.prog X.w) X.A (handleBy (.ref a) X.env hds) (SP X pins D) X.xe s := by
  induction hh generalizing s with
  | nil => exact f.leaves frames top tk w
  | @cons x n i c ts s0 body np hp hds l slot loc nm run more ih =>
    obtain ⟨fits, known, yes, no⟩ := w
    obtain ⟨o, at_, zc, _, S⟩ := f.suite top
    refine wpAny_handleBy_cons (codeAny_handlers_test ?_) nofun
    have isOf : PySem.W.Looks (model X.prog X.w) s.heap (typeOf (.ref a)) cls := fun _ _ _ _ k q => wpAny_typeOf_ref (k _ _ at_) (by rw [zc.1]; exact q)
    have judge := PySem.W.exm_one (M := model X.prog X.w) f.inv.kIn isOf known
    have named : ∀ {Q E : Value → Shared → Prop}, Q c s → wpAny (model X.prog X.w) (X.A.mark (some (.ref a))) (eval (.Name x np) X.env) Q E s := fun {Q E} q => by
      rcases nm with ⟨gl, dbg, own | ⟨none_, boot, nn⟩⟩
      · exact ld_glob (X := X.suite a ((a, o) :: (X.pn ++ pins))) S gl own q dbg
      · exact ld_blt (X := X.suite a ((a, o) :: (X.pn ++ pins))) S gl none_ boot q nn dbg
    refine named (judge.here ?_)
    cases fits
    · exact ih f (no rfl)
    refine codeAny_handlers_suite_as (HandSPX.lands_againZ f.air fun h air up => ?_)
    have f2 := f.to air up
    obtain ⟨o2, _, zc2, fl2, S2⟩ := f2.suite top
    refine store_ok (X := X.suite a ((a, o2) :: (X.pn ++ pins))) (v := .ref a) S2 nd slot (.inl loc) rfl (fun s3 S3 => ?_) (.inr loc)
    -- behind the suite the name goes
    have gone : ∀ {τ : L2.St} {G : Hp} {s4 : Shared} {Q : Shared → Prop}, Inv (X.suite a ((a, o2) :: (X.pn ++ pins))) [] τ G s4 → (∀ s5, Inv X pins (τ.set i none) G s5 → Q s5) → wpAny (model X.prog X.w) X.A (do bindName X.env n .none; unbindBehindTheSuite X.env n hp) (fun _ s5 => Q s5) X.xe s4 :=
      fun S4 q => gone_ok (S4.unsuite f.was.ok) nd slot loc q
    refine wpAny_mono ((run a o2 cls d (X.pn ++ pins) zc2 fl2).run [] s3 _ H _ S3 (yes rfl a f.own)) (fun fl s4 end_ => ?_) (fun _ _ z => z.elim)
    match fl, end_ with
    | .next, ⟨_, _, S4, q⟩ => exact gone S4 fun _ J => ⟨_, _, J, q⟩
    | .brk, ⟨_, _, S4, q⟩ => exact gone S4 fun _ J => ⟨_, _, J, q⟩
    | .cont, ⟨_, _, S4, q⟩ => exact gone S4 fun _ J => ⟨_, _, J, q⟩
    | .ret _, ⟨_, _, _, S4, r, q⟩ => exact gone S4 fun _ J => ⟨_, _, _, J, r, q⟩
end
section
variable {X : Cx} {body : List Stmt} {h0 : ExceptHandler} {hds : List ExceptHandler} {l : List Cl} {pos : Pos} {tb : WX → TS} {Wout : WX}
theorem ps_try_asN (frames : X.stack = X.env :: X.outer) (top : X.env.frame = some X.env.locals) (nd : X.N.Nodup) (tk : Takes X Wout)
    (hb : ∀ (W : WX) (pn : List (Addr × Obj)) (xe : Value → Shared → Prop), Takes (X.tr pn xe) W → PassesOwn (model X.prog X.w) X.A X.env xe → PSs (X.tr pn xe) body (tb W)) (hh : HdA X (h0 :: hds) l) :
    PS X (.Try body (h0 :: hds) [] [] pos) fun D σ H => tb (wAsN X.K Wout D l) D σ H where
  run := by
    intro pins s σ H D I want
    have ok := I.ok
    have known : X.A.frames = some (X.env :: X.outer) := by rw [ok.frames, frames]
    refine wpAny_Try_except ?_
    refine wpAny_mono ((hb (wAsN X.K Wout D l) (X.pn ++ pins) _ (fun u s1 fell => ?_) PassesOwn.looking).run [] s σ H D (I.toTry _) want) (fun fl s1 end_ => ?_) fun _ _ z => z
    · obtain ⟨a, B, sI, pins1, σ1, H1, cls, d, rfl, J, ground, grew, sky, own, os, bare, w⟩ := fell
      have sky' : Sky B (X.env :: X.outer) a (Zc cls d) X.env.locals s1.heap := by
        rw [← frames]
        exact sky
      exact Sky.land Zc.steady known top sky' fun h air up => Fell.caught frames top nd tk hh ⟨J.ofTry ok, ground, grew.trans up, air, own, os, bare⟩ w
    · match fl, end_ with
      | .next, ⟨_, _, J, q⟩ => exact wpAny_execs_nil ⟨_, _, J.ofTry ok, q⟩
      | .brk, ⟨_, _, J, q⟩ => exact ⟨_, _, J.ofTry ok, q⟩
      | .cont, ⟨_, _, J, q⟩ => exact ⟨_, _, J.ofTry ok, q⟩
      | .ret _, ⟨_, _, _, J, r, q⟩ => exact ⟨_, _, _, J.ofTry ok, r, q⟩
end
end DL
set_option Elab.async false
set_option linter.all false
set_option maxRecDepth 100000
set_option
      maxHeartbeats 4000000
/-! DLE19: a def that calls what it got and tells ('fine', ..) or, by two clauses, ('value', e.path), ('kind', e.path). -/
namespace DL
open PySem PySem.Spec PyProof.Rows L2 RZ StX LamX
/-- what a clause tells -/
def kTell (C : Addr) (kind fld : Str) (cls : Value) (d : Option Addr) (H' : Hp) (Q : VK) : Prop := ∃ dd fs v, cls = .ref C ∧ d = some dd ∧ H' dd = some (.xd fs) ∧ fs.lookup fld = some v ∧ [V.str kind, v].length ≤ sizeLine ∧ NewT [.str kind, v] H' Q
/-- try: return (fine, a()) / except E1 as e: return (k1, e.f1) / except E2 as e: return (k2, e.f2) -/
def TT2k (K : PySem.W.Frag) (C1 C2 : Addr) (fine k1 f1 k2 f2 : Str) : (XK → Hp → VK → Prop) → Hp → VK → Prop := fun tl H Q =>
  tl (fun cls d H' => ∃ b, PySem.W.exmOne K cls (.ref C1) = some b ∧ (b = true → kTell C1 k1 f1 cls d H' Q) ∧ (b = false → ∃ b2, PySem.W.exmOne K cls (.ref C2) = some b2 ∧ (b2 = true → kTell C2 k2 f2 cls d H' Q) ∧ (b2 = false → False))) H
    (fun v H' => [V.str fine, v].length ≤ sizeLine ∧ NewT [.str fine, v] H' Q)
section
variable {X : Cx}
theorem told2_k {Ng : List Str} {x a e1 e2 n q fine kd1 fl1 kd2 fl2 : Str} {sg : Scope} {g C1 C2 : Addr} {cdg : Value} {j1 j2 j3 i k1 k2 k3 : Nat} {p1 p2 p3 p4 p5 p6 p7 p8 p9 p10 p11 p12 p13 p14 p15 p16 p17 p18 p19 p20 : Pos}
    (hge1 : sg.names.lookup e1 = some .globalImplicit) (hge2 : sg.names.lookup e2 = some .globalImplicit) (hme1 : X.mg e1 = some (.ref C1)) (hme2 : X.mg e2 = some (.ref C2)) (hde1 : (e1 == ("__debug__" : Str)) = false) (hde2 : (e2 == ("__debug__" : Str)) = false)
    (h0 : ∀ f : Addr, (L2.start Ng [V.ref f])[0]? = some (some (V.ref f))) (hi : Ng[i]? = some n) (hN : Ng.Nodup) (hln : sg.names.lookup n = some .local) (T1 : XfC X.K C1) (T2 : XfC X.K C2) (hno1 : PySem.W.findIn X.K (.ref C1) fl1 = some none) (hno2 : PySem.W.findIn X.K (.ref C2) fl2 = some none) (hd1 : (n == ("__debug__" : Str)) = false) (hd2 : (n == ("__classdict__" : Str)) = false) :
    GivesTo X Ng x sg g cdg [.Try [.Return (some (.Tuple [.Constant (.str fine) j1 p1, .Call (.Name a p2) [] [] p3] k1 p4)) p5]
      [.ExceptHandler (some (.Name e1 p6)) (some n) [.Return (some (.Tuple [.Constant (.str kd1) j2 p7, .Attribute (.Name n p8) fl1 p9] k2 p10)) p11] p12,
       .ExceptHandler (some (.Name e2 p14)) (some n) [.Return (some (.Tuple [.Constant (.str kd2) j3 p15, .Attribute (.Name n p16) fl2 p17] k3 p18)) p19] p20] [] [] p13] a q (TT2k X.K C1 C2 fine kd1 fl1 kd2 fl2) := by
  intro f c' s H Q tl act hc h
  let Z := (cxOf C8.CX0 X.prog X.w X.K X.mg X.base Ng x sg g cdg X.A X.stack s H C8.E0).nox
  have hgl1 : Gl Z e1 := hge1
  have hgl2 : Gl Z e2 := hge2
  refine ⟨_, pss_one (ps_try_asN (X := Z)
    (tb := fun W D σ H => ∃ Ech : XK, (∀ cls d σ' H', Ech cls d H' → σ'.length = Ng.length → W cls d σ' H') ∧ σ[0]? = some (some (.ref f)) ∧ H c' = some (CodeO c' q) ∧ tl Ech H (fun v H' => [V.str fine, v].length ≤ sizeLine ∧ NewT [.str fine, v] H' D.rt))
    (l := [(.ref C1, i, fun a cls d => tRet (tTupP (tCons (tC (.str kd1)) (tCons (tXf a cls d C1 fl1 (tVar i)) tNil)))), (.ref C2, i, fun a cls d => tRet (tTupP (tCons (tC (.str kd2)) (tCons (tXf a cls d C2 fl2 (tVar i)) tNil))))])
    rfl rfl hN L2.takes0 (fun W pn xe tk _ => ?_) (.cons hi hln ⟨hgl1, hde1, .inl hme1⟩ (fun a oe cls d pn hz hf => ?_) (.cons hi hln ⟨hgl2, hde2, .inl hme2⟩ (fun a oe cls d pn hz hf => ?_) .nil))), ?_⟩
  · constructor
    rintro pn2 s2 τ G Dn I2 ⟨Er, far, slot0, code, tells⟩
    have called := act (fun cls d τ G => τ.length = Ng.length → W cls d τ G) pn xe Er p2 p3 (takes_len (X := Z.tr pn xe) tk) far
    exact (pss_one (ps_ret (pos := p5) (pe_tupP (k := k1) (pos := p4) (pa_cons (pe_str (x := fine) (j := j1) (pos := p1)) (pa_cons called pa_nil (by rfl)) (by rfl))))).run pn2 s2 τ G Dn I2 ⟨slot0, code, tells⟩
  · exact pss_one (ps_ret (pe_tupP (pa_cons pe_str (pa_cons (pe_xf T1 hno1 hz hf (pe_var (i := i) hi (.inl hln) hd1 hd2) (by rfl)) pa_nil (by rfl)) (by rfl))))
  · exact pss_one (ps_ret (pe_tupP (pa_cons pe_str (pa_cons (pe_xf T2 hno2 hz hf (pe_var (i := i) hi (.inl hln) hd1 hd2) (by rfl)) pa_nil (by rfl)) (by rfl))))
  · refine ⟨_, fun cls d σ' H' hE hl => ?_, h0 f, hc, h⟩
    have il : i < σ'.length := by rw [hl]; exact (List.getElem?_eq_some_iff.mp hi).1
    obtain ⟨b, e1, e2, e3⟩ := hE
    refine ⟨b, e1, fun hb a ha => ?_, fun hb => ?_⟩
    · obtain ⟨dd, fs, v, c1, c2, c3, c4, c5, c6⟩ := e2 hb
      exact ⟨.ref a, List.getElem?_set_self il, rfl, c1, dd, fs, v, c2, c3, c4, c5, c6⟩
    · obtain ⟨b2, g1, g2, g3⟩ := e3 hb
      refine ⟨b2, g1, fun hb2 a ha => ?_, fun hb2 => g3 hb2⟩
      obtain ⟨dd, fs, v, c1, c2, c3, c4, c5, c6⟩ := g2 hb2
      exact ⟨.ref a, List.getElem?_set_self il, rfl, c1, dd, fs, v, c2, c3, c4, c5, c6⟩
end
variable [Tbs]
open Classical in
noncomputable def mTold2 (c1 c2 : Value) (fine k1 f1 k2 f2 : Str) (mb : M D) : M D := fun ρ w => match mb ρ w with
  | some (.ok d ρ' w') => some (.ok (.tup [.str fine, d]) ρ' w')
  | some (.exc x ρ' w') => if x.cls = c1 ∧ x.ns = [f1] then (match x.ds with
    | [y] => some (.ok (.tup [.str k1, y]) ρ' w')
    | _ => none) else if x.cls = c2 ∧ x.ns = [f2] then (match x.ds with
    | [y] => some (.ok (.tup [.str k2, y]) ρ' w')
    | _ => none) else none
  | none => none
theorem mTold2_some {c1 c2 : Value} {fine k1 f1 k2 f2 : Str} {mb : M D} {ρ : Rho} {w : Wo} {r : Rs D} (h : mTold2 c1 c2 fine k1 f1 k2 f2 mb ρ w = some r) : (∃ d ρ' w', mb ρ w = some (.ok d ρ' w') ∧ r = .ok (.tup [.str fine, d]) ρ' w') ∨
    (∃ y ρ' w', mb ρ w = some (.exc ⟨c1, [f1], [y]⟩ ρ' w') ∧ r = .ok (.tup [.str k1, y]) ρ' w') ∨ ∃ y ρ' w', mb ρ w = some (.exc ⟨c2, [f2], [y]⟩ ρ' w') ∧ r = .ok (.tup [.str k2, y]) ρ' w' := by
  unfold mTold2 at h
  split at h
  · rename_i d ρ' w' e
    cases h
    exact .inl ⟨d, ρ', w', e, rfl⟩
  · rename_i x ρ' w' e
    obtain ⟨cls, ns, ds⟩ := x
    dsimp only at h
    split at h
    · rename_i q
      obtain ⟨q1, q2⟩ := q
      subst q1 q2
      split at h
      · rename_i y
        cases h
        exact .inr (.inl ⟨y, ρ', w', e, rfl⟩)
      · cases h
    · split at h
      · rename_i q
        obtain ⟨q1, q2⟩ := q
        subst q1 q2
        split at h
        · rename_i y
          cases h
          exact .inr (.inr ⟨y, ρ', w', e, rfl⟩)
        · cases h
      · cases h
  · cases h
theorem sim_told2K {Kf : PySem.W.Frag} {B : Bs} {W : WX} {C1 C2 : Addr} {fine k1 f1 k2 f2 : Str} {t : XK → TE} {mb : M D} (hs0 : PyData.strOk fine = true) (hs1 : PyData.strOk k1 = true) (hs2 : PyData.strOk k2 = true) (hK : Kf = B.K)
    (hex1 : PySem.W.exmOne Kf (.ref C1) (.ref C1) = some true) (hex2 : PySem.W.exmOne Kf (.ref C2) (.ref C2) = some true) (hne : PySem.W.exmOne Kf (.ref C2) (.ref C1) = some false) (hb : ∀ E : XK, Sim B (fun cls d _ H => E cls d H) (RV B) (t E) mb) :
    Sim B W (RV B) (LamX.tLam Tbs.T (TT2k Kf C1 C2 fine k1 f1 k2 f2) t) (mTold2 (.ref C1) (.ref C2) fine k1 f1 k2 f2 mb) := by
  subst hK
  intro ρ w r hr F σ H ok Q post
  refine ⟨ok.tab, fun H1 ext t1 => ?_⟩
  have ok1 := ok.extN ext t1
  have two : ∀ (x : Str) (v : V), [V.str x, v].length ≤ sizeLine := fun _ _ => by show 2 ≤ sizeLine; decide
  rcases mTold2_some hr with ⟨d, ρ', w', e, er⟩ | ⟨y, ρ', w', e, er⟩ | ⟨y, ρ', w', e, er⟩
  · subst er
    refine hb _ ρ w _ e F σ H1 ok1 _ fun v F' H' s ok' rv => ⟨two _ _, fun p o hp po => ?_⟩
    obtain ⟨s2, ok2⟩ := ok'.laid hp (.frz o (.tup [.str fine, v]))
    exact post (.ref p) _ _ (s.trans s2) ok2 (.tup (.inl ⟨o, upd_same, po⟩) (.cons (.str fine hs0) (.cons (rv.up s2) .nil)))
  · subst er
    refine hb _ ρ w _ e F σ H1 ok1 _ fun d F' H' s ok' hd => ⟨true, hex1, fun _ => ?_, fun z => by cases z⟩
    rcases hd with ⟨z, _⟩ | ⟨p, vs, ed, hp, hl, rv⟩
    · cases z
    · cases rv with
      | cons rv rn =>
        cases rn
        rename_i v
        refine ⟨p, _, v, rfl, ed, hp, by simp [List.lookup], two _ _, fun q o hq po => ?_⟩
        obtain ⟨s2, ok2⟩ := ok'.laid hq (.frz o (.tup [.str k1, v]))
        exact post (.ref q) _ _ (s.trans s2) ok2 (.tup (.inl ⟨o, upd_same, po⟩) (.cons (.str k1 hs1) (.cons (rv.up s2) .nil)))
  · subst er
    refine hb _ ρ w _ e F σ H1 ok1 _ fun d F' H' s ok' hd => ⟨false, hne, (fun z => by cases z), fun _ => ⟨true, hex2, fun _ => ?_, fun z => by cases z⟩⟩
    rcases hd with ⟨z, _⟩ | ⟨p, vs, ed, hp, hl, rv⟩
    · cases z
    · cases rv with
      | cons rv rn =>
        cases rn
        rename_i v
        refine ⟨p, _, v, rfl, ed, hp, by simp [List.lookup], two _ _, fun q o hq po => ?_⟩
        obtain ⟨s2, ok2⟩ := ok'.laid hq (.frz o (.tup [.str k2, v]))
        exact post (.ref q) _ _ (s.trans s2) ok2 (.tup (.inl ⟨o, upd_same, po⟩) (.cons (.str k2 hs2) (.cons (rv.up s2) .nil)))
end DL
set_option Elab.async false
set_option linter.all false
set_option maxRecDepth 100000
set_option maxHeartbeats 4000001
/-! DLE20: defs that give out a list of their own making: nobody else holds it. -/
namespace DL
open PySem PySem.Spec PyProof.Rows L2 RZ StX
variable [Tbs]
/-- the list at a: new since H, frozen by nobody, not the source's -/
structure Nu (K : PySem.W.Frag) (H F' H' : Hp) (w' : Wo) (a : Addr) (ds : List D) : Prop where
  at' : ∃ vs, H' a = some (.lst vs) ∧ RpAll K F' vs ds
  nF : F' a = none
  n0 : noTb (H a) = none
  nw : a ∉ adr w'
theorem New.nu {B : Bs} {F : Hp} {ρ : Rho} {w : Wo} {σ : L2.St} {H : Hp} {a : Addr} {ds : List D} (n : New B F ρ w σ H a ds) : Nu B.K B.H F H w a ds := ⟨n.at', n.nF, n.n0, n.nw⟩
/-- behind a call it is new in the caller's frame, too -/
theorem Nu.new {B : Bs} {F F' : Hp} {ρ : Rho} {w w' : Wo} {σ : L2.St} {H H' : Hp} {a : Addr} {ds : List D} (ok : Ok B F ρ w σ H) (n : Nu B.K H F' H' w' a ds) : New B F' ρ w' σ H' a ds := by
  refine ⟨n.at', n.nF, ok.go.back ok.wd n.n0, n.nw, fun i xs e z => ?_⟩
  obtain ⟨b, vs, h1, h2, _⟩ := ok.own i xs e
  rw [z] at h1
  cases h1
  exact noTb_no n.n0 h2 (fun _ q => by cases q)
/-- what a call wishes of such a def -/
def spGN (K : PySem.W.Frag) (k : Nat) (g : Fn1) : Sp := fun vs H Q E => ∃ F ds w r, vs.length = k ∧ Sub F H ∧ WdOk F H w ∧ LamX.Tabs Tbs.T H ∧ (∀ b ps, F b ≠ some (.tbl ps)) ∧ RpAll K F vs ds ∧ g ds w = some r ∧
  match r with
  | .ok (.lst xs) w' => ∀ a F' H', Sub F' H' → WdOk F' H' w' → Goes H F w H' F' w' → Nu K H F' H' w' a xs → Q (.ref a) H'
  | .ok _ _ => False
  | .exc x w' => ∀ d F' H', Sub F' H' → WdOk F' H' w' → Goes H F w H' F' w' → excAt K F' H' d x → E x.cls d H'
structure FncN (P : Program) (w : World) (K : PySem.W.Frag) (mg : Str → Option Value) (base : Heap) (n : Nat) (x : Str) (k : Nat) (g : Fn1) : Prop where
  ex : ∃ (f : Addr) (fd : FuncData) (ps : List Str), mg x = some (.ref f) ∧ PySem.W.keepIn K (.ref f) = true ∧ Binds K fd ps [] ∧ FnOk P w K mg base (L2.CX P w) n f fd ps (spGN K k g)
/-! ### statements whose `return` gives out a new list -/
def PostSN (B : Bs) (W : WX) (r : Rs Fl) (F : Hp) (Dn : Ends) : Prop :=
  match r with
  | .ok .nx ρ w => ∀ F' σ' H', Sub F F' → Ok B F' ρ w σ' H' → Dn.nx σ' H'
  | .ok .br ρ w => ∀ F' σ' H', Sub F F' → Ok B F' ρ w σ' H' → Dn.bk σ' H'
  | .ok .ct ρ w => ∀ F' σ' H', Sub F F' → Ok B F' ρ w σ' H' → Dn.ct σ' H'
  | .ok (.rt d) ρ w => ∃ xs, d = .lst xs ∧ ∀ a F' σ' H', Sub F F' → Ok B F' ρ w σ' H' → New B F' ρ w σ' H' a xs → Dn.rt (.ref a) H'
  | .exc x ρ w => ∀ d F' σ' H', Sub F F' → Ok B F' ρ w σ' H' → excAt B.K F' H' d x → W x.cls d σ' H'
theorem PostSN.imp {B : Bs} {W : WX} {r : Rs Fl} {F F1 : Hp} {Dn : Ends} (s : Sub F F1) (p : PostSN B W r F Dn) : PostSN B W r F1 Dn := by
  match r, p with
  | .ok .nx _ _, p => exact fun F' σ' H' s' => p F' σ' H' (s.trans s')
  | .ok .br _ _, p => exact fun F' σ' H' s' => p F' σ' H' (s.trans s')
  | .ok .ct _ _, p => exact fun F' σ' H' s' => p F' σ' H' (s.trans s')
  | .ok (.rt _) _ _, ⟨xs, e, p⟩ => exact ⟨xs, e, fun a F' σ' H' s' => p a F' σ' H' (s.trans s')⟩
  | .exc _ _ _, p => exact fun d F' σ' H' s' => p d F' σ' H' (s.trans s')
def SimSN (B : Bs) (W : WX) (t : TS) (m : M Fl) : Prop := ∀ ρ w r, m ρ w = some r → ∀ F σ H, Ok B F ρ w σ H → ∀ Dn, PostSN B W r F Dn → t Dn σ H
structure SSN (X : Cx) (B : Bs) (W : WX) (st : Stmt) (t : TS) (m : M Fl) : Prop where
  ps : PS X st t
  sim : SimSN B W t m
structure SBN (X : Cx) (B : Bs) (W : WX) (sts : List Stmt) (t : TS) (m : M Fl) : Prop where
  pss : PSs X sts t
  sim : SimSN B W t m
section
variable {X : Cx} {Kf : PySem.W.Frag} {B : Bs} {W : WX} {n : Nat} {st : Stmt} {sts as bs : List Stmt} {t u : TS} {m k : M Fl} {e c : Expr} {es : List Expr} {te : TE} {tc : TT} {mc : M Bool} {ts : TA} {ms : M (List D)} {pos p : Pos}
/-- it never returns -/
def NoRt (m : M Fl) : Prop := ∀ ρ w d ρ' w', m ρ w ≠ some (.ok (.rt d) ρ' w')
theorem ssn_of (h : SS X B W st t m) (no : NoRt m) : SSN X B W st t m := ⟨h.ps, fun ρ w r hr F σ H ok Dn post => h.sim ρ w r hr F σ H ok Dn (by
  match r, post with
  | .ok .nx _ _, q => exact q
  | .ok .br _ _, q => exact q
  | .ok .ct _ _, q => exact q
  | .ok (.rt d) ρ' w', _ => exact (no ρ w d ρ' w' hr).elim
  | .exc _ _ _, q => exact q)⟩
theorem noRt_set {i : Nat} {me : M D} : NoRt (mSet i me) := fun ρ w d ρ' w' z => by
  unfold mSet bnd at z
  cases q : me ρ w with
  | none => rw [q] at z; cases z
  | some r => rw [q] at z; cases r <;> cases z
theorem noRt_drop {me : M D} : NoRt (mDrop me) := fun ρ w d ρ' w' z => by
  unfold mDrop bnd at z
  cases q : me ρ w with
  | none => rw [q] at z; cases z
  | some r => rw [q] at z; cases r <;> cases z
theorem sbn_one (h : SSN X B W st t m) : SBN X B W [st] t m := ⟨pss_one h.ps, h.sim⟩
theorem sbn_cons (h : SSN X B W st t m) (g : SBN X B W sts u k) : SBN X B W (st :: sts) (tSeq t u) (mSeq m k) := ⟨pss_cons h.ps g.pss, fun ρ w r hr F σ H ok Dn post => by
  unfold mSeq bnd at hr
  cases hm : m ρ w with
  | none => rw [hm] at hr; cases hr
  | some r1 =>
    rw [hm] at hr
    refine h.sim ρ w r1 hm F σ H ok _ ?_
    match r1, hr with
    | .exc _ _ _, hr => cases hr; exact post
    | .ok .nx ρ1 w1, hr => exact fun F' σ' H' s ok' => g.sim ρ1 w1 r hr F' σ' H' ok' Dn (post.imp s)
    | .ok .br _ _, hr => cases hr; exact post
    | .ok .ct _ _, hr => cases hr; exact post
    | .ok (.rt _) _ _, hr => cases hr; exact post⟩
theorem sbn_nil : SBN X B W [] tNext (ret .nx) := ⟨pss_nil, fun ρ w r hr F σ H ok Dn post => by
  cases hr
  exact post F σ H (Sub.refl F) ok⟩
theorem ssn_if (hc : ST X B W c tc mc) (ha : SBN X B W as t m) (hb : SBN X B W bs u k) : SSN X B W (.If c as bs pos) (tIfS tc t u) (mIte mc m k) := ⟨ps_if hc.pt ha.pss hb.pss, fun ρ w r hr F σ H ok Dn post => by
  unfold mIte bnd at hr
  cases hm : mc ρ w with
  | none => rw [hm] at hr; cases hr
  | some r1 =>
    rw [hm] at hr
    refine hc.sim ρ w r1 hm F σ H ok _ ?_
    match r1, hr with
    | .exc _ _ _, hr => cases hr; exact fun d F' H' s ok' hx => post d F' σ H' s ok' hx
    | .ok true ρ1 w1, hr =>
      intro b F' H' s ok' e
      cases e
      exact ha.sim ρ1 w1 r hr F' σ H' ok' Dn (post.imp s)
    | .ok false ρ1 w1, hr =>
      intro b F' H' s ok' e
      cases e
      exact hb.sim ρ1 w1 r hr F' σ H' ok' Dn (post.imp s)⟩
/-- return e, e a new list -/
theorem ssn_ret {mn : M (List D)} (h : SN X B W e te mn) (same : ∀ ρ w r, m ρ w = some r → bnd mn (fun ds => ret (.rt (.lst ds))) ρ w = some r) : SSN X B W (.Return (some e) pos) (tRet te) m := ⟨ps_ret h.pe, fun ρ w r hr F σ H ok Dn post => by
  have hr := same ρ w r hr
  unfold bnd at hr
  cases hm : mn ρ w with
  | none => rw [hm] at hr; cases hr
  | some r1 =>
    rw [hm] at hr
    refine h.sim ρ w r1 hm F σ H ok _ ?_
    match r1, hr with
    | .exc _ _ _, hr => cases hr; exact fun d F' H' s ok' hx => post d F' σ H' s ok' hx
    | .ok ds ρ1 w1, hr =>
      cases hr
      obtain ⟨xs, e1, q⟩ := post
      cases e1
      exact fun a F' H' s ok' nw => q a F' σ H' s ok' nw⟩
/-- [.. for ..] as it stands: a value made of a new list -/
theorem same_lst {mn : M (List D)} : ∀ ρ w r, mRet (bnd mn fun ds => ret (.lst ds)) ρ w = some r → bnd mn (fun ds => ret (.rt (.lst ds))) ρ w = some r := fun ρ w r h => by
  unfold mRet bnd at h
  unfold bnd
  cases hm : mn ρ w with
  | none => rw [hm] at h; exact h
  | some r1 => rw [hm] at h; cases r1 <;> exact h
/-- list(e) -/
theorem same_list {me : M D} : ∀ ρ w r, mRet (bnd (mCons me mNil) fun ds => lft (listD ds)) ρ w = some r → bnd (nList me) (fun ds => ret (.rt (.lst ds))) ρ w = some r := fun ρ w r h => by
  unfold mRet mCons bnd at h
  unfold nList bnd
  cases hm : me ρ w with
  | none => rw [hm] at h; exact h
  | some r1 =>
    rw [hm] at h
    cases r1 with
    | exc => exact h
    | ok d ρ1 w1 => cases d <;> exact h
/-- x(..), x a def that gives out a new list -/
def nCall (k : Nat) (g : Fn1) (ms : M (List D)) : M (List D) := bnd ms fun ds ρ w =>
  if ds.length = k then
    match g ds w with
    | some (.ok (.lst xs) w') => some (.ok xs ρ w')
    | some (.exc x w') => some (.exc x ρ w')
    | _ => none
  else none
theorem simN_call {k : Nat} {g : Fn1} (hs : Sim B W (RA B) ts ms) : SimN B W (tCallS (spGN B.K k g) (WE W) ts) (nCall k g ms) :=
  SimN.of (R := RA B) (k := fun ds ρ w => if ds.length = k then (match g ds w with
    | some (.ok (.lst xs) w') => some (.ok xs ρ w')
    | some (.exc x w') => some (.exc x ρ w')
    | _ => none) else none) (tk := fun vs σ H Q => spGN B.K k g vs H Q (WE W σ)) hs fun ds ρ w r hr vs F σ H ok rs Q post => by
    split at hr
    · rename_i hk
      cases hg : g ds w with
      | none => rw [hg] at hr; cases hr
      | some r1 =>
        rw [hg] at hr
        refine ⟨F, ds, w, r1, by rw [rs.length]; exact hk, ok.sub, ok.wd, ok.tab, ok.nt, rs, hg, ?_⟩
        match r1, hr with
        | .exc x w', hr =>
          cases hr
          exact fun d F' H' s kw go hx => post d F' H' go.sub (ok.called s kw go) hx
        | .ok (.lst xs) w', hr =>
          cases hr
          exact fun a F' H' s kw go nu => post a F' H' go.sub (ok.called s kw go) (nu.new ok)
    · cases hr
theorem sn_call {x : Str} {k : Nat} {g : Fn1} (q : Cq Kf X B W n) (F : FncN X.prog X.w X.K X.mg X.base n x k g) (hg : Gl X x) (hs : SA X B W (e :: es) ts ms) (hdb : (x == ("__debug__" : Str)) = false := by decide)
    (he : starEach (e :: es) X.env = (false, eval e X.env) :: starEach es X.env := by rfl) (hpl : (backTo pos (starEach es X.env)).any (·.1) = false := by rfl) : SN X B W (.Call (.Name x p) (e :: es) [] pos) (tCallS (spGN Kf k g) (WE W) ts) (nCall k g ms) := by
  cases q.hX
  obtain ⟨f, fd, ps, h1, h2, h3, h4⟩ := F.ex
  exact ⟨pe_callS h4 q.hr hg h1 h2 h3 (fun σ => passAt q.tk σ) hs.pa hdb he hpl, by rw [q.hK]; exact simN_call hs.sim⟩
/-- return x(..) -/
theorem ssn_retCall {x : Str} {k : Nat} {g : Fn1} (q : Cq Kf X B W n) (F : FncN X.prog X.w X.K X.mg X.base n x k g) (hg : Gl X x) (hs : SA X B W (e :: es) ts ms) (hdb : (x == ("__debug__" : Str)) = false := by decide)
    (he : starEach (e :: es) X.env = (false, eval e X.env) :: starEach es X.env := by rfl) (hpl : (backTo pos (starEach es X.env)).any (·.1) = false := by rfl) {rpos : Pos} : SSN X B W (.Return (some (.Call (.Name x p) (e :: es) [] pos)) rpos) (tRet (tCallS (spGN Kf k g) (WE W) ts)) (mRet (mCall k g ms)) := by
  have S := sn_call (p := p) (pos := pos) q F hg hs hdb he hpl
  refine ⟨ps_ret S.pe, fun ρ w r hr F σ H ok Dn post => ?_⟩
  -- the same by the term that wants a list
  have key : bnd (nCall k g ms) (fun ds => ret (.rt (.lst ds))) ρ w = some r := by
    unfold mRet mCall bnd at hr
    unfold nCall bnd
    cases hm : ms ρ w with
    | none => rw [hm] at hr; cases hr
    | some r1 =>
      rw [hm] at hr
      match r1, hr with
      | .exc _ _ _, hr => exact hr
      | .ok ds ρ1 w1, hr =>
        dsimp only at hr ⊢
        by_cases hk : ds.length = k
        · rw [if_pos hk] at hr ⊢
          cases hg2 : g ds w1 with
          | none => rw [hg2] at hr; cases hr
          | some r2 =>
            rw [hg2] at hr
            match r2, hr with
            | .exc _ _, hr => exact hr
            | .ok d w2, hr =>
              cases hr
              obtain ⟨xs, e1, _⟩ := post
              cases e1
              rfl
        · rw [if_neg hk] at hr
          cases hr
  exact (ssn_ret (pos := rpos) (m := bnd (nCall k g ms) fun ds => ret (.rt (.lst ds))) S fun _ _ _ h => h).sim ρ w r key F σ H ok Dn post
end
section
variable {P : Program} {wd : World} {K : PySem.W.Frag} {mg : Str → Option Value} {base : Heap}
/-- a def whose body gives out a new list -/
theorem fnc_ofN {x qual : Str} {st : Stmt} {f : Addr} {fd : FuncData} {N ps : List Str} {n : Nat} {m : M Fl} (F : Fun K x qual st f fd) (S : FnScope N ps (defScope st)) (hm : mg x = some (.ref f)) (hb : Binds K fd ps [])
    (body : ∀ (cdv : Value) (A : Around) (outer : List Env) (s : Shared) (H : Hp) (E : XK), ∃ t, ∀ B : Bs, Body K (cxOf (L2.CX P wd) P wd K mg base N qual (defScope st) f cdv A outer s H E) B (fun cls d _ H => E cls d H) n →
      SBN (cxOf (L2.CX P wd) P wd K mg base N qual (defScope st) f cdv A outer s H E) B (fun cls d _ H => E cls d H) (defBody st) t m) : FncN P wd K mg base (n + 1) x ps.length (gOf ps.length N.length m) := by
  have room : ps.length ≤ N.length := by
    have z := congrArg List.length S.pre
    rw [List.length_take] at z
    omega
  refine ⟨f, fd, ps, hm, F.kp, hb, okC F S (fun vs H Q E h => h.choose_spec.choose_spec.choose_spec.choose_spec.1) (fun cdv _ A outer s H vs Q E hr h => ?_)⟩
  obtain ⟨Fz, ds, w, r, count, sub, wok, tabs, noT, vals, told, post⟩ := h
  have same : ds.length = ps.length := vals.length ▸ count
  obtain ⟨t, all⟩ := body cdv A outer s H E
  have run := all ⟨K, H, Fz, w⟩ ⟨⟨rfl, rfl, takes_of rfl rfl rfl rfl, hr, rfl, S.nd⟩, passes_of rfl⟩
  have ok0 := ok_start (N := N) sub wok tabs noT vals (by omega)
  rw [same] at ok0
  refine ⟨t, run.pss, ?_⟩
  unfold gOf at told
  rw [if_pos same] at told
  cases at_ : m (ds.map .val ++ List.replicate (N.length - ps.length) .free) w with
  | none => rw [at_] at told; cases told
  | some r0 =>
    rw [at_] at told
    refine run.sim _ w r0 at_ Fz _ H ok0 _ ?_
    match r0, told with
    | .exc _ _ _, told =>
      cases told
      exact fun d F' σ' H' _ k q => post d F' H' k.sub k.wd k.go q
    | .ok .nx _ _, told =>
      cases told
      exact post.elim
    | .ok (.rt (.lst xs)) _ _, told =>
      cases told
      exact ⟨xs, rfl, fun a F' σ' H' _ k nw => post a F' H' k.sub k.wd k.go nw.nu⟩
    | .ok (.rt d) _ _, told =>
      cases told
      cases d with
      | lst xs => exact ⟨xs, rfl, fun a F' σ' H' _ k nw => post a F' H' k.sub k.wd k.go nw.nu⟩
      | _ => exact post.elim
/-- from nothing -/
theorem fncN_zero {x qual : Str} {st : Stmt} {f : Addr} {fd : FuncData} {ps : List Str} (F : Fun K x qual st f fd) (hm : mg x = some (.ref f)) (hb : Binds K fd ps []) : FncN P wd K mg base 0 x ps.length (fun _ _ => none) := by
  refine ⟨f, fd, ps, hm, F.kp, hb, ⟨fun vs H Q E h => h.choose_spec.choose_spec.choose_spec.choose_spec.1, fun A outer s H args us vs Q E hr he hbt hv h => ?_⟩⟩
  obtain ⟨_, _, _, _, _, _, _, _, _, _, none_, _⟩ := h
  cases none_
end
end DL
set_option Elab.async false
set_option linter.all false
set_option maxRecDepth 100000
set_option maxHeartbeats 4000001
/-! DLE21: a list that may still change: its repr, clear. -/
namespace DL
open PySem PySem.Spec PyProof.Rows L2 RZ StX
variable [Tbs]
section
variable {X : Cx} {Kf : PySem.W.Frag} {B : Bs} {W : WX} {n : Nat} {x : Str} {p p2 pos apos : Pos}
/-- what repr tells of data, in any heap in which they stand -/
theorem repr_pure {K : PySem.W.Frag} {ds : List D} {d : D} (h : reprD ds = some d) {F H : Hp} {vs : List V} (sub : Sub F H) (rs : RpAll K F vs ds) {Q : VK} (q : ∀ v, Rp K F v d → Q v H) : rRepr K vs H Q := by
  unfold reprD at h
  split at h
  · split at h
    · rename_i hc
      rw [Bool.and_eq_true, Bool.and_eq_true, Bool.and_eq_true] at hc
      obtain ⟨⟨⟨h1, h2⟩, h3⟩, h4⟩ := hc
      cases h
      obtain ⟨v, ev, rv⟩ := rs.one
      subst ev
      obtain ⟨g1, g2⟩ := rp_shaped sub h1 rv
      exact .inl ⟨v, _, rfl, g1, g2, h2, small (of_decide_eq_true h3), q _ (.str _ h4)⟩
    · unfold reprE at h
      split at h
      · rename_i d0 _ hc
        rw [Bool.and_eq_true, Bool.and_eq_true, Bool.and_eq_true, Bool.and_eq_true] at hc
        obtain ⟨⟨⟨⟨h0, h1⟩, h2⟩, h3⟩, h4⟩ := hc
        cases h
        obtain ⟨v, ev, rv⟩ := rs.one
        subst ev
        obtain ⟨a, rfl⟩ : ∃ a, v = .ref a := by
          cases rv with
          | tup _ _ => exact ⟨_, rfl⟩
          | dct _ _ _ => exact ⟨_, rfl⟩
          | _ => simp [refE] at h0
        exact .inr ⟨a, d0, F, rfl, sub, h1, rv, h2, small (of_decide_eq_true h3), q _ (.str _ h4)⟩
      · cases h
  · cases h
/-- repr of a list that may still change: it is looked at as if it were frozen -/
def mReprO (i : Nat) : M D := fun ρ w => match ρ[i]? with
  | some (.own l) => (reprD [.lst l]).map fun z => .ok z ρ w
  | some (.val d) => (reprD [d]).map fun z => .ok z ρ w
  | _ => none
theorem repr_str {ds : List D} {d : D} (h : reprD ds = some d) : ∃ y : Str, d = .str y ∧ PyData.strOk y = true := by
  unfold reprD at h
  split at h
  · split at h
    · rename_i c
      cases h
      simp only [Bool.and_eq_true] at c
      exact ⟨_, rfl, c.2⟩
    · unfold reprE at h
      split at h
      · rename_i c
        cases h
        simp only [Bool.and_eq_true] at c
        exact ⟨_, rfl, c.2⟩
      · cases h
  · cases h
theorem se_repro {i : Nat} (qg : X.A.guards = some []) (q : Cq Kf X B W n) (hg : Gl X "repr") (hm : X.mg "repr" = none) (hN : X.N[i]? = some x := by rfl) (hv : Vis X.env.scope x := by first | exact Or.inl rfl | exact Or.inr (Or.inl rfl) | exact Or.inr (Or.inr rfl)) (hd : (x == ("__debug__" : Str)) = false := by decide) (hcd : (x == ("__classdict__" : Str)) = false := by decide)
    (he : starEach [.Name x p2] X.env = (false, eval (.Name x p2) X.env) :: starEach [] X.env := by rfl) (hpl : (backTo pos (starEach [] X.env)).any (·.1) = false := by rfl) : SE X B W (.Call (.Name "repr" p) [.Name x p2] [] pos) (tCB (rRepr Kf) (tCons (tVar i) tNil)) (mReprO i) := by
  have u := q.u70
  cases q.hX
  refine ⟨pe_callB (call_reprA qg u) hg hm (by decide +kernel) (pa_cons (pe_var hN hv hd hcd) pa_nil he) (by decide) (by decide) he hpl, fun ρ w r hr F σ H ok Q post => ?_⟩
  rw [q.hK]
  unfold mReprO at hr
  split at hr
  · rename_i l h
    cases e : reprD [.lst l] with
    | none => rw [e] at hr; cases hr
    | some z =>
      rw [e] at hr
      cases hr
      obtain ⟨a, vs, h1, h2, h3, h4, h5, h6⟩ := ok.own i l h
      obtain ⟨y, ez, oky⟩ := repr_str e
      subst ez
      have sub1 : Sub (upd F a (.lst vs)) H := fun b o z => by
        by_cases hb : b = a
        · subst hb
          rw [upd_same] at z
          cases z
          exact h2
        · rw [upd_ne hb] at z
          exact ok.sub b o z
      have up1 : Sub F (upd F a (.lst vs)) := fun b o z => by
        by_cases hb : b = a
        · subst hb
          rw [h3] at z
          cases z
        · rw [upd_ne hb]
          exact z
      refine ⟨.ref a, h1, repr_pure e sub1 (.cons (.lst upd_same (h6.up up1)) .nil) fun v rv => ?_⟩
      cases rv
      exact post _ F H (Sub.refl F) ok (.str y oky)
  · rename_i d h
    obtain ⟨v, h1, rv⟩ := ok.val i d h
    cases e : reprD [d] with
    | none => rw [e] at hr; cases hr
    | some z =>
      rw [e] at hr
      cases hr
      exact ⟨v, h1, repr_pure e ok.sub (.cons rv .nil) fun v' rv' => post v' F H (Sub.refl F) ok rv'⟩
  · cases hr
def clearD (l : List D) : List D → Option (D × List D)
  | [] => some (.non, [])
  | _ => none
theorem mes_clear {K : PySem.W.Frag} : MeS K rClear clearD := fun l ds z h F H a vs us sub hH r ru Q q => by
  unfold clearD at h
  split at h
  · cases h
    cases ru
    exact ⟨a, vs, rfl, rfl, hH, q _ _ .non .nil⟩
  · cases h
theorem se_clear {i : Nat} (q : Cq Kf X B W n) (hN : X.N[i]? = some x := by rfl) (hv : Vis X.env.scope x := by first | exact Or.inl rfl | exact Or.inr (Or.inl rfl) | exact Or.inr (Or.inr rfl)) (hd : (x == ("__debug__" : Str)) = false := by decide) (hcd : (x == ("__classdict__" : Str)) = false := by decide)
    (hbase : attributeBase (.Name x p) "clear" X.env (eval (.Name x p) X.env) = eval (.Name x p) X.env := by rfl) (hline : (apos.endLine == pos.line) = true := by rfl) :
    SE X B W (.Call (.Attribute (.Name x p) "clear" apos) [] [] pos) (tBM0 Kf "list" rClear (tVar i)) (mMeth i mNil clearD) := by
  cases q.hX
  exact ⟨pe_bm0 PySem.F.plainAttrs_list PySem.F.slot_list_clear PySem.F.type_list_clear mt_clear (pe_var hN hv hd hcd) hbase hline, by rw [q.hK]; exact sim_meth0 mes_clear⟩
end
section
variable {P : Program} {w : World} {K : PySem.W.Frag}
      {mg : Str → Option Value} {base : Heap}
theorem FncN.up {n n' : Nat} {x : Str} {k : Nat} {g : Fn1} (F : FncN P w K mg base n x k g) (h : n ≤ n') : FncN P w K mg base n' x k g := by
  obtain ⟨f, fd, ps, h1, h2, h3, h4⟩ := F.ex
  exact ⟨f, fd, ps, h1, h2, h3, fnOk_up h4 h⟩
theorem zN_of {x : Str} {st : Stmt} {ps : List Str} (D : Df K mg x st ps) : FncN P w K mg base 0 x ps.length (fun _ _ => none) := by
  obtain ⟨f, fd, F, hm, hb⟩ := D.ex
  exact fncN_zero F hm hb
end
end DL
set_option Elab.async false
set_option linter.all false
set_option maxRecDepth 100000
set_option maxHeartbeats 4000001
/-! DLE22: x is True, x is not True, of truths. -/
namespace DL
open PySem PySem.Spec PyProof.Rows L2 RZ StX
variable [Tbs]
variable {X : Cx} {Kf : PySem.W.Frag} {B : Bs} {W : WX} {n : Nat} {a b : Expr} {ta tb : TE} {ma mb : M D} {pos : Pos}
def isB (neg : Bool) : D → D → Option D
  | .bl i, .bl j => some (.bl (if neg then !(i == j) else i == j))
  | _, _ => none
def rIsB (neg : Bool) : R2 := fun x y H Q => ∃ i j, x = .bl i ∧ y = .bl j ∧ Q (.bl (if neg then !(i == j) else i == j)) H
theorem op_isB : OpR X (compareOp .Is) (rIsB false) := by
  rintro pins s σ H _ _ v u Q I rx ry ⟨i, j, rfl, rfl, q⟩
  cases rx
  cases ry
  refine wpAny_pure (fin_bl I q ?_)
  cases i <;> cases j <;> rfl
theorem op_notB : OpR X (compareOp .IsNot) (rIsB true) := by
  rintro pins s σ H _ _ v u Q I rx ry ⟨i, j, rfl, rfl, q⟩
  cases rx
  cases ry
  refine wpAny_pure (fin_bl I q ?_)
  cases i <;> cases j <;> rfl
theorem ops_isB {neg : Bool} : OpS B W (rIsB neg) fun a b => lft (isB neg a b) := by
  refine .pure fun dx dy d h F H x y sub rx ry Q q => ?_
  cases dx <;> first | (cases h; done) | skip
  cases dy <;> first | (cases h; done) | skip
  cases h
  cases rx
  cases ry
  exact ⟨_, _, rfl, rfl, q _ (.bl _)⟩
theorem se_isB (ha : SE X B W a ta ma) (hb : SE X B W b tb mb) : SE X B W (.Compare a [.Is] [b] pos) (tOp (rIsB false) ta tb) (mBin (isB false) ma mb) := se_cmp1 op_isB ops_isB ha hb (nomark _)
theorem se_isnotB (ha : SE X B W a ta ma) (hb : SE X B W b tb mb) : SE X B W (.Compare a [.IsNot] [b] pos) (tOp (rIsB true) ta tb) (mBin (isB true) ma mb) := se_cmp1 op_notB ops_isB ha hb (nomark _)
theorem st_isB (ha : SE X B W a ta ma) (hb : SE X B W b tb mb) : ST X B W (.Compare a [.Is] [b] pos) (tTest (tOp (rIsB false) ta tb)) (mBinT (isB false) ma mb) := st_cmp1 op_isB ops_isB ha hb (nomark _)
theorem st_isnotB (ha : SE X B W a ta ma) (hb : SE X B W b tb mb) : ST X B W (.Compare a [.IsNot] [b] pos) (tTest (tOp (rIsB true) ta tb)) (mBinT (isB true) ma mb) := st_cmp1 op_notB ops_isB ha hb (nomark _)
end DL
set_option Elab.async false
set_option linter.all false
set_option maxRecDepth 100000
set_option
      maxHeartbeats 4000000
namespace KX
open PySem PySem.Spec PyProof.Rows L2 RZ StX DL
variable [Tbs]
def topS (i : Nat) : Stmt := PySem.Challenge.pw_tickworks_k02_values_and_places.main.body.getD i (.Pass ⟨0, 0, 0, 0⟩)
abbrev s_copied : Stmt := topS 1
abbrev s_is_letter : Stmt := topS 8
abbrev s_is_word : Stmt := topS 9
abbrev s_is_number : Stmt := topS 13
abbrev s_is_tuple : Stmt := topS 14
abbrev s_are_different : Stmt := topS 15
abbrev s_is_lot : Stmt := topS 16
abbrev s_has_form : Stmt := topS 17
abbrev s_form_path : Stmt := topS 18
abbrev s_tuples_in : Stmt := topS 19
abbrev s_count_of : Stmt := topS 20
abbrev s_type_fault : Stmt := topS 21
abbrev s_check_type : Stmt := topS 22
abbrev s_listed : Stmt := topS 23
abbrev s_part_fault : Stmt := topS 24
abbrev s_value_fault : Stmt := topS 25
abbrev s_place_in : Stmt := topS 26
abbrev s_values_of : Stmt := topS 27
abbrev s_many : Stmt := topS 28
abbrev s_value_at : Stmt := topS 29
abbrev s_is_value : Stmt := topS 30
abbrev s_place_of : Stmt := topS 31
abbrev s__law_open_cells : Stmt := topS 33
abbrev s__law_pick : Stmt := topS 34
abbrev s__law_any_order : Stmt := topS 35
abbrev s__law_values : Stmt := topS 36
abbrev s__law_wide_type : Stmt := topS 37
abbrev s__law_tuples : Stmt := topS 38
abbrev s__law_small_type : Stmt := topS 39
abbrev s__law_wrong_value : Stmt := topS 40
abbrev s__law_odd_value : Stmt := topS 41
abbrev s__law_told : Stmt := topS 42
abbrev s_law : Stmt := topS 43
/-! ### the defs -/
inductive Fn where
  | f_copied | f_is_letter | f_is_word | f_is_number | f_is_tuple | f_are_different | f_is_lot | f_has_form | f_form_path | f_tuples_in | f_count_of | f_type_fault | f_check_type | f_listed | f_part_fault | f_value_fault | f_place_in | f_values_of | f_many | f_value_at | f_is_value | f_place_of | f__law_pick | f__law_any_order | f__law_values | f__law_wide_type | f__law_tuples | f__law_small_type | f__law_wrong_value | f__law_odd_value | f__law_told
def N_copied : List Str := ["value", "part", "key"]
def N_is_letter : List Str := ["sign"]
def N_is_word : List Str := ["value", "sign"]
def N_is_number : List Str := ["value"]
def N_is_tuple : List Str := ["value", "least", "most"]
def N_are_different : List Str := ["values", "place", "value"]
def N_is_lot : List Str := ["value", "words", "word"]
def N_has_form : List Str := ["value"]
def N_form_path : List Str := ["value", "path", "found"]
def N_tuples_in : List Str := ["kind"]
def N_count_of : List Str := ["kind"]
def N_type_fault : List Str := ["value", "path"]
def N_check_type : List Str := ["value", "path"]
def N_listed : List Str := ["kind", "seconds", "first", "second"]
def N_part_fault : List Str := ["kind", "value", "path", "found", "fits"]
def N_value_fault : List Str := ["kind", "value"]
def N_place_in : List Str := ["kind", "value"]
def N_values_of : List Str := ["kind"]
def N_many : List Str := ["kind"]
def N_value_at : List Str := ["kind", "place"]
def N_is_value : List Str := ["kind", "value"]
def N_place_of : List Str := ["kind", "value", "path"]
def N__law_pick : List Str := ["_law_source", "_law_most", "_law_cells", "_law_left", "_law_turn", "_law_mixed"]
def N__law_any_order : List Str := ["_law_source", "_law_things", "_law_rest", "_law_lap"]
def N__law_values : List Str := ["_law_type_here", "_law_found", "_law_others", "_law_v", "_law_u"]
def N__law_wide_type : List Str := ["_law_source", "_law_deep", "_law_road", "_law_words"]
def N__law_tuples : List Str := ["_law_type_here"]
def N__law_small_type : List Str := ["_law_source", "_law_type_here"]
def N__law_wrong_value : List Str := ["_law_type_here", "_law_value", "_law_first", "_law_second", "_law_is_whole"]
def N__law_odd_value : List Str := ["_law_source", "_law_type_here", "_law_value", "_law_odd", "_law_k", "_law_bent"]
def N__law_told : List Str := ["_law_act"]
def N_law : List Str := ["_law_script", "_law_source", "_law_lap", "_law_type_here", "_law_some", "_law_again", "_law_place", "_law_value", "_law_turn", "_law_odd", "_law_path", "_law_told_here", "_law_found", "_law_thing", "_law_held", "_law_due"]
def N__law_open_cells : List Str := ["_law_script", "_law_mixed", "_law_cell", "_law_cells"]
/-! ### constants -/
def c_LONGEST : D := .int 8
def c_MOST_TUPLES : D := .int 5
def c_MOST_VALUES : D := .int 24
/-! ### terms -/
/-- where the error classes stand -/
class Ca where
  a_BadType : Addr
  a_BadValue : Addr
variable [Ca]
abbrev tb_ (G : Fn → Fn1) : Tb := []
def m_copied (G : Fn → Fn1) : M Fl := (mSeq (mIte (mVal (bnd (mCons (getS 0) (mCons (ret (.raw (.ty "list"))) mNil)) fun ds => lft (isiD ds))) (mRet (mLc [1] (bnd (getS 0) fun d => lft (itemsD d)) (bName 1) (ret true) (mCall 1 (G .f_copied) (mCons (getS 1) mNil)))) (ret .nx)) (mSeq (mIte (mVal (bnd (mCons (getS 0) (mCons (ret (.raw (.ty "tuple"))) mNil)) fun ds => lft (isiD ds))) (mRet (bnd (mCons (mLc [1] (bnd (getS 0) fun d => lft (itemsD d)) (bName 1) (ret true) (mCall 1 (G .f_copied) (mCons (getS 1) mNil))) mNil) fun ds => lft (tupleD ds))) (ret .nx)) (mSeq (mIte (mVal (bnd (mCons (getS 0) (mCons (ret (.raw (.ty "dict"))) mNil)) fun ds => lft (isiD ds))) (fun _ _ => none) (ret .nx)) (mRet (getS 0)))))
/-- copied, with n levels of its own -/
def gcop : Nat → Fn1
  | 0 => fun _ _ => none
  | n + 1 => gOf 1 3 (m_copied fun | .f_copied => gcop n | _ => fun _ _ => none)
def m_is_letter (G : Fn → Fn1) : M Fl := (mRet (mChain leT leT (ret (.str "a")) (getS 0) (ret (.str "z"))))
def m_is_word (G : Fn → Fn1) : M Fl := (mSeq (mIte (mOr (mNot (mVal (bnd (mCons (getS 0) (mCons (ret (.raw (.ty "str"))) mNil)) fun ds => lft (isiD ds)))) (mNot (mVal (mChain leD leD (ret (.int 1)) (bnd (mCons (getS 0) mNil) fun ds => lft (lenD ds)) (ret (c_LONGEST)))))) (mRet (ret (.bl false))) (ret .nx)) (mRet (bnd (mCons (mLc [1] (bnd (getS 0) fun d => lft (itemsD d)) (bName 1) (ret true) (mCall 1 (G .f_is_letter) (mCons (getS 1) mNil))) mNil) fun ds => lft (allD ds))))
def m_is_number (G : Fn → Fn1) : M Fl := (mRet (mAndV (bnd (mCons (getS 0) (mCons (ret (.raw (.ty "int"))) mNil)) fun ds => lft (isiD ds)) (mNotV ((bnd (mCons (getS 0) (mCons (ret (.raw (.ty "bool"))) mNil)) fun ds => lft (isiD ds))))))
def m_is_tuple (G : Fn → Fn1) : M Fl := (mRet (mAndV (bnd (mCons (getS 0) (mCons (ret (.raw (.ty "tuple"))) mNil)) fun ds => lft (isiD ds)) (mChain leD leD (getS 1) (bnd (mCons (getS 0) mNil) fun ds => lft (lenD ds)) (getS 2))))
def m_are_different (G : Fn → Fn1) : M Fl := (mRet (bnd (mCons (mLc [1, 2] (bnd (mCons (getS 0) mNil) fun ds => lft (enumD ds)) (bTup 2 (bCons (bName 1) (bCons (bName 2) bNil))) (ret true) (mBin niD (getS 2) (mSl (getS 0) (ret none) (bnd (getS 1) (kInt fun i => ret (some i)))))) mNil) fun ds => lft (allD ds)))
def m_is_lot (G : Fn → Fn1) : M Fl := (mSeq (mSet 1 (mBin ixD (getS 0) (ret (.int 1)))) (mRet (mAndV (mCall 3 (G .f_is_tuple) (mCons (getS 1) (mCons (ret (.int 2)) (mCons (ret (.int 4)) mNil)))) (mAndV (bnd (mCons (mLc [2] (bnd (getS 1) fun d => lft (itemsD d)) (bName 2) (ret true) (mCall 1 (G .f_is_word) (mCons (getS 2) mNil))) mNil) fun ds => lft (allD ds)) (mCall 1 (G .f_are_different) (mCons (getS 1) mNil))))))
def m_has_form (G : Fn → Fn1) : M Fl := (mSeq (mIte (mNot (mVal (mCall 3 (G .f_is_tuple) (mCons (getS 0) (mCons (ret (.int 2)) (mCons (ret (.int 3)) mNil)))))) (mRet (ret (.bl false))) (ret .nx)) (mSeq (mIte (mBinT eqD (bnd (mCons (getS 0) mNil) fun ds => lft (lenD ds)) (ret (.int 3))) (mRet (mBin eqD (mBin ixD (getS 0) (ret (.int 0))) (ret (.str "pair")))) (ret .nx)) (mSeq (mIte (mBinT eqD (mBin ixD (getS 0) (ret (.int 0))) (ret (.str "lot"))) (mRet (mCall 1 (G .f_is_lot) (mCons (getS 0) mNil))) (ret .nx)) (mRet (mAndV (mBin eqD (mBin ixD (getS 0) (ret (.int 0))) (ret (.str "count"))) (mAndV (mCall 1 (G .f_is_number) (mCons (mBin ixD (getS 0) (ret (.int 1))) mNil)) (mChain leD leD (ret (.int 2)) (mBin ixD (getS 0) (ret (.int 1))) (ret (.int 6)))))))))
def m_form_path (G : Fn → Fn1) : M Fl := (mSeq (mIte (mNot (mVal (mCall 1 (G .f_has_form) (mCons (getS 0) mNil)))) (mRet (getS 1)) (ret .nx)) (mSeq (mIte (mBinT neD (mBin ixD (getS 0) (ret (.int 0))) (ret (.str "pair"))) (mRet (ret .non)) (ret .nx)) (mSeq (mSet 2 (mCall 2 (G .f_form_path) (mCons (mBin ixD (getS 0) (ret (.int 1))) (mCons (mBin addD (getS 1) (mTup (mCons (ret (.int 1)) mNil))) mNil)))) (mSeq (mIte (mBinT (isN false) (getS 2) (ret .non)) (mSet 2 (mCall 2 (G .f_form_path) (mCons (mBin ixD (getS 0) (ret (.int 2))) (mCons (mBin addD (getS 1) (mTup (mCons (ret (.int 2)) mNil))) mNil)))) (ret .nx)) (mRet (getS 2))))))
def m_tuples_in (G : Fn → Fn1) : M Fl := (mSeq (mIte (mBinT eqD (mBin ixD (getS 0) (ret (.int 0))) (ret (.str "pair"))) (mRet (mBin addD (mBin addD (ret (.int 1)) (mCall 1 (G .f_tuples_in) (mCons (mBin ixD (getS 0) (ret (.int 1))) mNil))) (mCall 1 (G .f_tuples_in) (mCons (mBin ixD (getS 0) (ret (.int 2))) mNil)))) (ret .nx)) (mRet (ret (.int 1))))
def m_count_of (G : Fn → Fn1) : M Fl := (mSeq (mIte (mBinT eqD (mBin ixD (getS 0) (ret (.int 0))) (ret (.str "pair"))) (mRet (mBin mulD (mCall 1 (G .f_count_of) (mCons (mBin ixD (getS 0) (ret (.int 1))) mNil)) (mCall 1 (G .f_count_of) (mCons (mBin ixD (getS 0) (ret (.int 2))) mNil)))) (ret .nx)) (mSeq (mIte (mBinT eqD (mBin ixD (getS 0) (ret (.int 0))) (ret (.str "lot"))) (mRet (bnd (mCons (mBin ixD (getS 0) (ret (.int 1))) mNil) fun ds => lft (lenD ds))) (ret .nx)) (mRet (mBin ixD (getS 0) (ret (.int 1))))))
def m_type_fault (G : Fn → Fn1) : M Fl := (mSeq (mSet 1 (mCall 2 (G .f_form_path) (mCons (getS 0) (mCons (mTup mNil) mNil)))) (mSeq (mIte (mBinT (isN true) (getS 1) (ret .non)) (mRet (getS 1)) (ret .nx)) (mSeq (mIte (mOr (mBinT gtD (mCall 1 (G .f_tuples_in) (mCons (getS 0) mNil)) (ret (c_MOST_TUPLES))) (mBinT gtD (mCall 1 (G .f_count_of) (mCons (getS 0) mNil)) (ret (c_MOST_VALUES)))) (mRet (mTup mNil)) (ret .nx)) (mRet (ret .non)))))
def m_check_type (lv : Nat) (G : Fn → Fn1) : M Fl := (mSeq (mSet 1 (mCall 1 (G .f_type_fault) (mCons (getS 0) mNil))) (mIte (mBinT (isN true) (getS 1) (ret .non)) (mRaiseL 5 lv (.ref Ca.a_BadType) "path" (gcop 3) (mCons (getS 1) mNil)) (ret .nx)))
def m_listed (G : Fn → Fn1) : M Fl := (mSeq (mIte (mBinT eqD (mBin ixD (getS 0) (ret (.int 0))) (ret (.str "pair"))) (mSeq (mSet 1 (mCall 1 (G .f_listed) (mCons (mBin ixD (getS 0) (ret (.int 2))) mNil))) (mRet (mLc2 [2, 3] (bnd (mCall 1 (G .f_listed) (mCons (mBin ixD (getS 0) (ret (.int 1))) mNil)) fun d => lft (itemsD d)) (bName 2) (ret true) (bnd (getS 1) fun d => lft (itemsD d)) [3] (bName 3) (ret true) (mTup (mCons (getS 2) (mCons (getS 3) mNil)))))) (ret .nx)) (mSeq (mIte (mBinT eqD (mBin ixD (getS 0) (ret (.int 0))) (ret (.str "lot"))) (mRet (bnd (mCons (mBin ixD (getS 0) (ret (.int 1))) mNil) fun ds => lft (listD ds))) (ret .nx)) (mRet (mLRange1 (mBin ixD (getS 0) (ret (.int 1)))))))
def m_part_fault (G : Fn → Fn1) : M Fl := (mSeq (mIte (mBinT eqD (mBin ixD (getS 0) (ret (.int 0))) (ret (.str "lot"))) (mSeq (mSet 4 (mAndV (bnd (mCons (getS 1) (mCons (ret (.raw (.ty "str"))) mNil)) fun ds => lft (isiD ds)) (mBin inD (getS 1) (mBin ixD (getS 0) (ret (.int 1)))))) (mRet (mIte (mVal (getS 4)) (ret .non) (getS 2)))) (ret .nx)) (mSeq (mIte (mBinT eqD (mBin ixD (getS 0) (ret (.int 0))) (ret (.str "count"))) (mSeq (mSet 4 (mAndV (mCall 1 (G .f_is_number) (mCons (getS 1) mNil)) (mChain leD ltD (ret (.int 0)) (getS 1) (mBin ixD (getS 0) (ret (.int 1)))))) (mRet (mIte (mVal (getS 4)) (ret .non) (getS 2)))) (ret .nx)) (mSeq (mIte (mNot (mVal (mCall 3 (G .f_is_tuple) (mCons (getS 1) (mCons (ret (.int 2)) (mCons (ret (.int 2)) mNil)))))) (mRet (getS 2)) (ret .nx)) (mSeq (mSet 3 (mCall 3 (G .f_part_fault) (mCons (mBin ixD (getS 0) (ret (.int 1))) (mCons (mBin ixD (getS 1) (ret (.int 0))) (mCons (mBin addD (getS 2) (mTup (mCons (ret (.int 0)) mNil))) mNil))))) (mSeq (mIte (mBinT (isN false) (getS 3) (ret .non)) (mSet 3 (mCall 3 (G .f_part_fault) (mCons (mBin ixD (getS 0) (ret (.int 2))) (mCons (mBin ixD (getS 1) (ret (.int 1))) (mCons (mBin addD (getS 2) (mTup (mCons (ret (.int 1)) mNil))) mNil))))) (ret .nx)) (mRet (getS 3)))))))
def m_value_fault (G : Fn → Fn1) : M Fl := (mRet (mCall 3 (G .f_part_fault) (mCons (getS 0) (mCons (getS 1) (mCons (mTup mNil) mNil)))))
def m_place_in (G : Fn → Fn1) : M Fl := (mSeq (mIte (mBinT eqD (mBin ixD (getS 0) (ret (.int 0))) (ret (.str "pair"))) (mRet (mBin addD (mBin mulD (mCall 2 (G .f_place_in) (mCons (mBin ixD (getS 0) (ret (.int 1))) (mCons (mBin ixD (getS 1) (ret (.int 0))) mNil))) (mCall 1 (G .f_count_of) (mCons (mBin ixD (getS 0) (ret (.int 2))) mNil))) (mCall 2 (G .f_place_in) (mCons (mBin ixD (getS 0) (ret (.int 2))) (mCons (mBin ixD (getS 1) (ret (.int 1))) mNil))))) (ret .nx)) (mSeq (mIte (mBinT eqD (mBin ixD (getS 0) (ret (.int 0))) (ret (.str "lot"))) (mRet (mIx (mBin ixD (getS 0) (ret (.int 1))) (mCons (getS 1) mNil))) (ret .nx)) (mRet (getS 1))))
def m_values_of (G : Fn → Fn1) : M Fl := (mSeq (mDrop (mCall 1 (G .f_check_type) (mCons (getS 0) mNil))) (mRet (mCall 1 (G .f_listed) (mCons (getS 0) mNil))))
def m_many (G : Fn → Fn1) : M Fl := (mSeq (mDrop (mCall 1 (G .f_check_type) (mCons (getS 0) mNil))) (mRet (mCall 1 (G .f_count_of) (mCons (getS 0) mNil))))
def m_value_at (G : Fn → Fn1) : M Fl := (mSeq (mDrop (mCall 1 (G .f_check_type) (mCons (getS 0) mNil))) (mRet (mBin ixD (mCall 1 (G .f_listed) (mCons (getS 0) mNil)) (getS 1))))
def m_is_value (G : Fn → Fn1) : M Fl := (mSeq (mDrop (mCall 1 (G .f_check_type) (mCons (getS 0) mNil))) (mRet (mBin (isN false) (mCall 2 (G .f_value_fault) (mCons (getS 0) (mCons (getS 1) mNil))) (ret .non))))
def m_place_of (lv : Nat) (G : Fn → Fn1) : M Fl := (mSeq (mDrop (mCall 1 (G .f_check_type) (mCons (getS 0) mNil))) (mSeq (mSet 2 (mCall 2 (G .f_value_fault) (mCons (getS 0) (mCons (getS 1) mNil)))) (mSeq (mIte (mBinT (isN true) (getS 2) (ret .non)) (mRaiseL 5 lv (.ref Ca.a_BadValue) "path" (gcop 3) (mCons (getS 2) mNil)) (ret .nx)) (mRet (mCall 2 (G .f_place_in) (mCons (getS 0) (mCons (getS 1) mNil)))))))
def m__law_pick (G : Fn → Fn1) : M Fl := (mSeq (mIte (mBinT ltD (getS 1) (ret (.int 2))) (mRet (ret (.int 0))) (ret .nx)) (mSeq (mSet 2 (mSrc 0 .cells)) (mSeq (whileL (mAnd (mBinT ltD (mSrc 0 .left) (ret (.int 2))) (mBinT gtD (mClen 2) (ret (.int 0)))) (mPut 0 .left (mCpop 2)) 100) (mSeq (mSet 3 (mSrc 0 .left)) (mSeq (mIte (mBinT gtD (getS 3) (ret (.int 1))) (mSeq (mPut 0 .left (mBin fdivD (getS 3) (getS 1))) (mRet (mBin modD (bnd (mCons (getS 3) mNil) fun ds => lft (int1D ds)) (getS 1)))) (ret .nx)) (mSeq (mPut 0 .turn (mBin addD (mSrc 0 .turn) (ret (.int 1)))) (mSeq (mSet 4 (mSrc 0 .turn)) (mSeq (mSet 5 (mBin modD (bnd (mCons (mBin addD (mSrc 0 .mixed) (mBin mulD (getS 4) (ret (.int 104729)))) mNil) fun ds => lft (int1D ds)) (ret (.int 998244353)))) (mSeq (mSet 5 (mBin modD (bnd (mCons (mBin addD (mBin mulD (getS 5) (getS 5)) (mBin mulD (getS 4) (ret (.int 17)))) mNil) fun ds => lft (int1D ds)) (ret (.int 2147483647)))) (mRet (mBin modD (bnd (mCons (mBin fdivD (getS 5) (ret (.int 16))) mNil) fun ds => lft (int1D ds)) (getS 1))))))))))))
def m__law_any_order (G : Fn → Fn1) : M Fl := (mSeq (bnd (nList (getS 1)) fun ds => setN 2 ds) (mRet (mLc [3] (bnd (mCons (mLenO 2) mNil) fun ds => lft (rng1 ds)) (bName 3) (ret true) (mMeth 2 (mCons (mCall 2 (G .f__law_pick) (mCons (getS 0) (mCons (mLenO 2) mNil))) mNil) popAtD))))
def m__law_values (G : Fn → Fn1) : M Fl := (mSeq (mIte (mBinT eqD (mBin ixD (getS 0) (ret (.int 0))) (ret (.str "lot"))) (mRet (bnd (mCons (mBin ixD (getS 0) (ret (.int 1))) mNil) fun ds => lft (listD ds))) (ret .nx)) (mSeq (mIte (mBinT eqD (mBin ixD (getS 0) (ret (.int 0))) (ret (.str "count"))) (mRet (mLRange1 (mBin ixD (getS 0) (ret (.int 1))))) (ret .nx)) (mSeq (mPar 1 2 (mCons (mLst mNil) (mCons (mCall 1 (G .f__law_values) (mCons (mBin ixD (getS 0) (ret (.int 2))) mNil)) mNil))) (mSeq (mFor (bnd (mCall 1 (G .f__law_values) (mCons (mBin ixD (getS 0) (ret (.int 1))) mNil)) fun d => lft (itemsD d)) (bName 3) (mSet 1 (mBin addD (getS 1) (mLc [4] (bnd (getS 2) fun d => lft (itemsD d)) (bName 4) (ret true) (mTup (mCons (getS 3) (mCons (getS 4) mNil))))))) (mRet (getS 1))))))
def m__law_wide_type (G : Fn → Fn1) : M Fl := (mSeq (mSet 2 (mIte (mBinT gtD (getS 1) (ret (.int 0))) (mCall 2 (G .f__law_pick) (mCons (getS 0) (mCons (ret (.int 5)) mNil))) (mCall 2 (G .f__law_pick) (mCons (getS 0) (mCons (ret (.int 2)) mNil))))) (mSeq (mIte (mBinT gtD (getS 2) (ret (.int 1))) (mRet (mTup (mCons (ret (.str "pair")) (mCons (mCall 2 (G .f__law_wide_type) (mCons (getS 0) (mCons (mBin subD (getS 1) (ret (.int 1))) mNil))) (mCons (mCall 2 (G .f__law_wide_type) (mCons (getS 0) (mCons (mBin subD (mBin subD (getS 1) (ret (.int 1))) (mCall 2 (G .f__law_pick) (mCons (getS 0) (mCons (ret (.int 2)) mNil)))) mNil))) mNil))))) (ret .nx)) (mSeq (mIte (mBinT eqD (getS 2) (ret (.int 0))) (mRet (mTup (mCons (ret (.str "count")) (mCons (mBin addD (ret (.int 2)) (mCall 2 (G .f__law_pick) (mCons (getS 0) (mCons (ret (.int 5)) mNil)))) mNil)))) (ret .nx)) (mSeq (mSet 3 (mCall 2 (G .f__law_any_order) (mCons (getS 0) (mCons (mLst (mCons (ret (.str "a")) (mCons (ret (.str "ab")) (mCons (ret (.str "abc")) (mCons (ret (.str "no")) (mCons (ret (.str "yes")) (mCons (ret (.str "abcdefgh")) (mCons (ret (.str "lot")) (mCons (ret (.str "z")) mNil))))))))) mNil)))) (mRet (mTup (mCons (ret (.str "lot")) (mCons (bnd (mCons (mSl (getS 3) (ret none) (bnd (mBin addD (ret (.int 2)) (mCall 2 (G .f__law_pick) (mCons (getS 0) (mCons (ret (.int 3)) mNil)))) (kInt fun i => ret (some i)))) mNil) fun ds => lft (tupleD ds)) mNil))))))))
def m__law_tuples (G : Fn → Fn1) : M Fl := (mRet (mBin addD (ret (.int 1)) (mIte (mBinT eqD (mBin ixD (getS 0) (ret (.int 0))) (ret (.str "pair"))) (mBin addD (mCall 1 (G .f__law_tuples) (mCons (mBin ixD (getS 0) (ret (.int 1))) mNil)) (mCall 1 (G .f__law_tuples) (mCons (mBin ixD (getS 0) (ret (.int 2))) mNil))) (ret (.int 0)))))
def m__law_small_type (G : Fn → Fn1) : M Fl := (mSeq (mSet 1 (mCall 2 (G .f__law_wide_type) (mCons (getS 0) (mCons (mCall 2 (G .f__law_pick) (mCons (getS 0) (mCons (ret (.int 3)) mNil))) mNil)))) (mSeq (mIte (mAnd (mBinT ltD (mCall 1 (G .f__law_tuples) (mCons (getS 1) mNil)) (ret (.int 6))) (mBinT ltD (bnd (mCons (mCall 1 (G .f__law_values) (mCons (getS 1) mNil)) mNil) fun ds => lft (lenD ds)) (ret (.int 25)))) (mRet (getS 1)) (ret .nx)) (mRet (mTup (mCons (ret (.str "pair")) (mCons (mTup (mCons (ret (.str "lot")) (mCons (mTup (mCons (ret (.str "ab")) (mCons (ret (.str "a")) mNil))) mNil))) (mCons (mTup (mCons (ret (.str "pair")) (mCons (mTup (mCons (ret (.str "count")) (mCons (ret (.int 3)) mNil))) (mCons (mTup (mCons (ret (.str "count")) (mCons (mBin addD (ret (.int 2)) (mCall 2 (G .f__law_pick) (mCons (getS 0) (mCons (ret (.int 3)) mNil)))) mNil))) mNil)))) mNil)))))))
def m__law_wrong_value (G : Fn → Fn1) : M Fl := (mSeq (mIte (mBinT eqD (mBin ixD (getS 0) (ret (.int 0))) (ret (.str "lot"))) (mRet (mIte (mAnd (mVal (bnd (mCons (getS 1) (mCons (ret (.raw (.ty "str"))) mNil)) fun ds => lft (isiD ds))) (mBinT inD (getS 1) (mBin ixD (getS 0) (ret (.int 1))))) (ret .non) (mTup mNil))) (ret .nx)) (mSeq (mIte (mBinT eqD (mBin ixD (getS 0) (ret (.int 0))) (ret (.str "count"))) (mSeq (mSet 4 (mAndV (bnd (mCons (getS 1) (mCons (ret (.raw (.ty "int"))) mNil)) fun ds => lft (isiD ds)) (mNotV ((bnd (mCons (getS 1) (mCons (ret (.raw (.ty "bool"))) mNil)) fun ds => lft (isiD ds)))))) (mRet (mIte (mAnd (mVal (getS 4)) (mVal (mChain leD ltD (ret (.int 0)) (getS 1) (mBin ixD (getS 0) (ret (.int 1)))))) (ret .non) (mTup mNil)))) (ret .nx)) (mSeq (mIte (mOr (mNot (mVal (bnd (mCons (getS 1) (mCons (ret (.raw (.ty "tuple"))) mNil)) fun ds => lft (isiD ds)))) (mBinT neD (bnd (mCons (getS 1) mNil) fun ds => lft (lenD ds)) (ret (.int 2)))) (mRet (mTup mNil)) (ret .nx)) (mSeq (mPar 2 3 (mCons (mCall 2 (G .f__law_wrong_value) (mCons (mBin ixD (getS 0) (ret (.int 1))) (mCons (mBin ixD (getS 1) (ret (.int 0))) mNil))) (mCons (mCall 2 (G .f__law_wrong_value) (mCons (mBin ixD (getS 0) (ret (.int 2))) (mCons (mBin ixD (getS 1) (ret (.int 1))) mNil))) mNil))) (mSeq (mIte (mBinT (isN true) (getS 2) (ret .non)) (mRet (mBin addD (mTup (mCons (ret (.int 0)) mNil)) (getS 2))) (ret .nx)) (mRet (mIte (mBinT (isN false) (getS 3) (ret .non)) (ret .non) (mBin addD (mTup (mCons (ret (.int 1)) mNil)) (getS 3)))))))))
def m__law_odd_value (G : Fn → Fn1) : M Fl := (mSeq (mIte (mAnd (mBinT eqD (mBin ixD (getS 1) (ret (.int 0))) (ret (.str "pair"))) (mBinT gtD (mCall 2 (G .f__law_pick) (mCons (getS 0) (mCons (ret (.int 3)) mNil))) (ret (.int 0)))) (mSeq (mSet 4 (mCall 2 (G .f__law_pick) (mCons (getS 0) (mCons (ret (.int 2)) mNil)))) (mSeq (mSet 5 (mCall 3 (G .f__law_odd_value) (mCons (getS 0) (mCons (mBin ixD (getS 1) (mBin addD (ret (.int 1)) (getS 4))) (mCons (mBin ixD (getS 2) (getS 4)) mNil))))) (mRet (mIte (mBinT eqD (getS 4) (ret (.int 0))) (mTup (mCons (getS 5) (mCons (mBin ixD (getS 2) (ret (.int 1))) mNil))) (mTup (mCons (mBin ixD (getS 2) (ret (.int 0))) (mCons (getS 5) mNil))))))) (ret .nx)) (mSeq (mSet 3 (mLst (mCons (ret .non) (mCons (ret (.bl true)) (mCons (ret (.bl false)) (mCons (mNeg (ret (.int 1))) (mCons (ret (.int 6)) (mCons (ret (.str "A")) (mCons (ret (.str "")) (mCons (mTup mNil) (mCons (mLst mNil) (mCons (ret (.dct [] [])) (mCons (mTup (mCons (ret (.str "a")) mNil)) (mCons (mLst (mCons (ret (.str "a")) (mCons (ret (.int 0)) mNil))) (mCons (mTup (mCons (ret (.int 0)) (mCons (ret (.int 0)) (mCons (ret (.int 0)) mNil)))) (mCons (ret (.str "0")) (mCons (ret (.int 1)) (mCons (ret (.str "yes")) (mCons (mTup (mCons (getS 2) (mCons (getS 2) mNil))) mNil))))))))))))))))))) (mRet (mBin ixD (getS 3) (mCall 2 (G .f__law_pick) (mCons (getS 0) (mCons (ret (.int 17)) mNil)))))))
def m__law_told (G : Fn → Fn1) : M Fl := (fun _ _ => none)
noncomputable def m_law (Gl G : Fn → Fn1) : M Fl := (mSeq (mFor (bnd (mCons (ret (.int 8)) mNil) fun ds => lft (rng1 ds)) (bName 2) (mSeq (mSet 3 (mCall 1 (G .f__law_small_type) (mCons (getS 1) mNil))) (mSeq (mSet 4 (mCall 1 (G .f__law_values) (mCons (getS 3) mNil))) (mSeq (mFor (bnd (mCons (ret (.int 2)) mNil) fun ds => lft (rng1 ds)) (bName 5) (mSeq (bnd (nCall 1 (G .f_values_of) (mCons (getS 3) mNil)) fun ds => setN 12 ds) (mSeq (mIte (mOr (mBinT neD (mReprO 12) (bnd (mCons (getS 4) mNil) fun ds => lft (reprD ds))) (mBinT neD (mCall 1 (G .f_many) (mCons (getS 3) mNil)) (bnd (mCons (getS 4) mNil) fun ds => lft (lenD ds)))) (mRet (ret (.bl false))) (ret .nx)) (mDrop (mMeth 12 mNil clearD))))) (mSeq (mFor (bnd (mCons (getS 4) mNil) fun ds => lft (enumD ds)) (bTup 2 (bCons (bName 6) (bCons (bName 7) bNil))) (mSeq (mIte (mOr (mBinT neD (mCall 2 (G .f_place_of) (mCons (getS 3) (mCons (getS 7) mNil))) (getS 6)) (mBinT neD (bnd (mCons (mCall 2 (G .f_value_at) (mCons (getS 3) (mCons (getS 6) mNil))) mNil) fun ds => lft (reprD ds)) (bnd (mCons (getS 7) mNil) fun ds => lft (reprD ds)))) (mRet (ret (.bl false))) (ret .nx)) (mIte (mBinT (isB true) (mCall 2 (G .f_is_value) (mCons (getS 3) (mCons (getS 7) mNil))) (ret (.bl true))) (mRet (ret (.bl false))) (ret .nx)))) (mSeq (mFor (bnd (mCons (ret (.int 4)) mNil) fun ds => lft (rng1 ds)) (bName 8) (mSeq (mSet 13 (mCall 3 (G .f__law_odd_value) (mCons (getS 1) (mCons (getS 3) (mCons (mBin ixD (getS 4) (mCall 2 (G .f__law_pick) (mCons (getS 1) (mCons (bnd (mCons (getS 4) mNil) fun ds => lft (lenD ds)) mNil)))) mNil))))) (mSeq (mPar 10 14 (mCons (mCall 2 (G .f__law_wrong_value) (mCons (getS 3) (mCons (getS 13) mNil))) (mCons (bnd (mCons (getS 13) mNil) fun ds => lft (reprD ds)) mNil))) (mSeq (mSet 15 (mIte (mBinT (isN true) (getS 10) (ret .non)) (mTup (mCons (ret (.str "value")) (mCons (getS 10) mNil))) (mTup (mCons (ret (.str "fine")) (mCons (mIx (getS 4) (mCons (getS 13) mNil)) mNil))))) (mSeq (mIte (mBinT neD (bnd (mCons (mTold2 (.ref Ca.a_BadValue) (.ref Ca.a_BadType) "fine" "value" "path" "kind" "path" (mCall 2 (Gl .f_place_of) (mCons (getS 3) (mCons (getS 13) mNil)))) mNil) fun ds => lft (reprD ds)) (bnd (mCons (getS 15) mNil) fun ds => lft (reprD ds))) (mRet (ret (.bl false))) (ret .nx)) (mIte (mOr (mBinT neD (bnd (mCons (mCall 2 (G .f_is_value) (mCons (getS 3) (mCons (getS 13) mNil))) mNil) fun ds => lft (reprD ds)) (bnd (mCons (mBin (isN false) (getS 10) (ret .non)) mNil) fun ds => lft (reprD ds))) (mBinT neD (bnd (mCons (getS 13) mNil) fun ds => lft (reprD ds)) (getS 14))) (mRet (ret (.bl false))) (ret .nx))))))) (mSeq (mSet 9 (mLst (mCons (ret .non) (mCons (mTup (mCons (ret (.str "count")) (mCons (ret (.int 1)) mNil))) (mCons (mTup (mCons (ret (.str "pair")) (mCons (mTup (mCons (ret (.str "count")) (mCons (ret (.int 2)) mNil))) (mCons (mTup (mCons (ret (.str "lot")) (mCons (mTup (mCons (ret (.str "a")) mNil)) mNil))) mNil)))) (mCons (mLst (mCons (ret (.str "count")) (mCons (ret (.int 2)) mNil))) mNil)))))) (mSeq (mSet 9 (mBin ixD (mBin addD (getS 9) (mLst (mCons (mTup (mCons (ret (.str "pair")) (mCons (mTup (mCons (ret (.str "count")) (mCons (ret (.int 5)) mNil))) (mCons (mTup (mCons (ret (.str "count")) (mCons (ret (.int 5)) mNil))) mNil)))) mNil))) (mCall 2 (G .f__law_pick) (mCons (getS 1) (mCons (ret (.int 5)) mNil))))) (mSeq (mSet 10 (mIte (mAnd (mBinT (isN true) (getS 9) (ret .non)) (mAnd (mBinT eqD (mBin ixD (getS 9) (ret (.int 0))) (ret (.str "pair"))) (mBinT eqD (mBin ixD (mBin ixD (getS 9) (ret (.int 2))) (ret (.int 0))) (ret (.str "lot"))))) (mTup (mCons (ret (.int 2)) mNil)) (mTup mNil))) (mSeq (bnd (nLst (mCons (mTold2 (.ref Ca.a_BadValue) (.ref Ca.a_BadType) "fine" "value" "path" "kind" "path" (mCall 2 (Gl .f_place_of) (mCons (getS 9) (mCons (ret .non) mNil)))) mNil)) fun ds => setN 11 ds) (mSeq (mDrop (mMeth 11 (mCons (mTold2 (.ref Ca.a_BadValue) (.ref Ca.a_BadType) "fine" "value" "path" "kind" "path" (mCall 2 (Gl .f_value_at) (mCons (getS 9) (mCons (ret (.int 0)) mNil)))) mNil) appendD)) (mSeq (mDrop (mMeth 11 (mCons (mTold2 (.ref Ca.a_BadValue) (.ref Ca.a_BadType) "fine" "value" "path" "kind" "path" (mCall 2 (Gl .f_is_value) (mCons (getS 9) (mCons (ret (.int 0)) mNil)))) mNil) appendD)) (mSeq (mDrop (mMeth 11 (mCons (mTold2 (.ref Ca.a_BadValue) (.ref Ca.a_BadType) "fine" "value" "path" "kind" "path" (mCall 1 (Gl .f_values_of) (mCons (getS 9) mNil))) mNil) appendD)) (mIte (mBinT neD (getS 11) (mBin mulD (mLst (mCons (mTup (mCons (ret (.str "kind")) (mCons (getS 10) mNil))) mNil)) (ret (.int 4)))) (mRet (ret (.bl false))) (ret .nx))))))))))))))) (mRet (ret (.bl true))))
def G : Nat → Fn → Fn1
  | 0, _ => fun _ _ => none
  | n + 1, .f_copied => gOf 1 3 (m_copied (G n))
  | n + 1, .f_is_letter => gOf 1 1 (m_is_letter (G n))
  | n + 1, .f_is_word => gOf 1 2 (m_is_word (G n))
  | n + 1, .f_is_number => gOf 1 1 (m_is_number (G n))
  | n + 1, .f_is_tuple => gOf 3 3 (m_is_tuple (G n))
  | n + 1, .f_are_different => gOf 1 3 (m_are_different (G n))
  | n + 1, .f_is_lot => gOf 1 3 (m_is_lot (G n))
  | n + 1, .f_has_form => gOf 1 1 (m_has_form (G n))
  | n + 1, .f_form_path => gOf 2 3 (m_form_path (G n))
  | n + 1, .f_tuples_in => gOf 1 1 (m_tuples_in (G n))
  | n + 1, .f_count_of => gOf 1 1 (m_count_of (G n))
  | n + 1, .f_type_fault => gOf 1 2 (m_type_fault (G n))
  | n + 1, .f_check_type => gOf 1 2 (m_check_type n (G n))
  | n + 1, .f_listed => gOf 1 4 (m_listed (G n))
  | n + 1, .f_part_fault => gOf 3 5 (m_part_fault (G n))
  | n + 1, .f_value_fault => gOf 2 2 (m_value_fault (G n))
  | n + 1, .f_place_in => gOf 2 2 (m_place_in (G n))
  | n + 1, .f_values_of => gOf 1 1 (m_values_of (G n))
  | n + 1, .f_many => gOf 1 1 (m_many (G n))
  | n + 1, .f_value_at => gOf 2 2 (m_value_at (G n))
  | n + 1, .f_is_value => gOf 2 2 (m_is_value (G n))
  | n + 1, .f_place_of => gOf 2 3 (m_place_of n (G n))
  | n + 1, .f__law_pick => gOf 2 6 (m__law_pick (G n))
  | n + 1, .f__law_any_order => gOf 2 4 (m__law_any_order (G n))
  | n + 1, .f__law_values => gOf 1 5 (m__law_values (G n))
  | n + 1, .f__law_wide_type => gOf 2 4 (m__law_wide_type (G n))
  | n + 1, .f__law_tuples => gOf 1 1 (m__law_tuples (G n))
  | n + 1, .f__law_small_type => gOf 1 2 (m__law_small_type (G n))
  | n + 1, .f__law_wrong_value => gOf 2 5 (m__law_wrong_value (G n))
  | n + 1, .f__law_odd_value => gOf 3 6 (m__law_odd_value (G n))
  | n + 1, .f__law_told => gOf 1 1 (m__law_told (G n))
/-- what the law calls -/
noncomputable def GL (n : Nat) : Fn → Fn1
  | f => G (n + 2) f
def nm : Fn → Str
  | .f_copied => "copied"
  | .f_is_letter => "is_letter"
  | .f_is_word => "is_word"
  | .f_is_number => "is_number"
  | .f_is_tuple => "is_tuple"
  | .f_are_different => "are_different"
  | .f_is_lot => "is_lot"
  | .f_has_form => "has_form"
  | .f_form_path => "form_path"
  | .f_tuples_in => "tuples_in"
  | .f_count_of => "count_of"
  | .f_type_fault => "type_fault"
  | .f_check_type => "check_type"
  | .f_listed => "listed"
  | .f_part_fault => "part_fault"
  | .f_value_fault => "value_fault"
  | .f_place_in => "place_in"
  | .f_values_of => "values_of"
  | .f_many => "many"
  | .f_value_at => "value_at"
  | .f_is_value => "is_value"
  | .f_place_of => "place_of"
  | .f__law_pick => "_law_pick"
  | .f__law_any_order => "_law_any_order"
  | .f__law_values => "_law_values"
  | .f__law_wide_type => "_law_wide_type"
  | .f__law_tuples => "_law_tuples"
  | .f__law_small_type => "_law_small_type"
  | .f__law_wrong_value => "_law_wrong_value"
  | .f__law_odd_value => "_law_odd_value"
  | .f__law_told => "_law_told"
def ar : Fn → Nat
  | .f_copied => 1
  | .f_is_letter => 1
  | .f_is_word => 1
  | .f_is_number => 1
  | .f_is_tuple => 3
  | .f_are_different => 1
  | .f_is_lot => 1
  | .f_has_form => 1
  | .f_form_path => 2
  | .f_tuples_in => 1
  | .f_count_of => 1
  | .f_type_fault => 1
  | .f_check_type => 1
  | .f_listed => 1
  | .f_part_fault => 3
  | .f_value_fault => 2
  | .f_place_in => 2
  | .f_values_of => 1
  | .f_many => 1
  | .f_value_at => 2
  | .f_is_value => 2
  | .f_place_of => 2
  | .f__law_pick => 2
  | .f__law_any_order => 2
  | .f__law_values => 1
  | .f__law_wide_type => 2
  | .f__law_tuples => 1
  | .f__law_small_type => 1
  | .f__law_wrong_value => 2
  | .f__law_odd_value => 3
  | .f__law_told => 1
/-! ### what the top has left -/
structure Cn (wd : World) (K : PySem.W.Frag) (mg : Str → Option Value) : Prop where
  z_abs : mg "abs" = none
  z_all : mg "all" = none
  z_bool : mg "bool" = none
  z_dict : mg "dict" = none
  z_enumerate : mg "enumerate" = none
  z_int : mg "int" = none
  z_isinstance : mg "isinstance" = none
  z_len : mg "len" = none
  z_list : mg "list" = none
  z_range : mg "range" = none
  z_repr : mg "repr" = none
  z_str : mg "str" = none
  z_tuple : mg "tuple" = none
  g_LONGEST : ∃ v u, mg "LONGEST" = some u ∧ RelV v u ∧ ∀ F, Rp K F v c_LONGEST
  g_MOST_TUPLES : ∃ v u, mg "MOST_TUPLES" = some u ∧ RelV v u ∧ ∀ F, Rp K F v c_MOST_TUPLES
  g_MOST_VALUES : ∃ v u, mg "MOST_VALUES" = some u ∧ RelV v u ∧ ∀ F, Rp K F v c_MOST_VALUES
  d_copied : Df K mg "copied" s_copied ["value"]
  d_is_letter : Df K mg "is_letter" s_is_letter ["sign"]
  d_is_word : Df K mg "is_word" s_is_word ["value"]
  d_is_number : Df K mg "is_number" s_is_number ["value"]
  d_is_tuple : Df K mg "is_tuple" s_is_tuple ["value", "least", "most"]
  d_are_different : Df K mg "are_different" s_are_different ["values"]
  d_is_lot : Df K mg "is_lot" s_is_lot ["value"]
  d_has_form : Df K mg "has_form" s_has_form ["value"]
  d_form_path : Df K mg "form_path" s_form_path ["value", "path"]
  d_tuples_in : Df K mg "tuples_in" s_tuples_in ["kind"]
  d_count_of : Df K mg "count_of" s_count_of ["kind"]
  d_type_fault : Df K mg "type_fault" s_type_fault ["value"]
  d_check_type : Df K mg "check_type" s_check_type ["value"]
  d_listed : Df K mg "listed" s_listed ["kind"]
  d_part_fault : Df K mg "part_fault" s_part_fault ["kind", "value", "path"]
  d_value_fault : Df K mg "value_fault" s_value_fault ["kind", "value"]
  d_place_in : Df K mg "place_in" s_place_in ["kind", "value"]
  d_values_of : Df K mg "values_of" s_values_of ["kind"]
  d_many : Df K mg "many" s_many ["kind"]
  d_value_at : Df K mg "value_at" s_value_at ["kind", "place"]
  d_is_value : Df K mg "is_value" s_is_value ["kind", "value"]
  d_place_of : Df K mg "place_of" s_place_of ["kind", "value"]
  d__law_pick : Df K mg "_law_pick" s__law_pick ["_law_source", "_law_most"]
  d__law_any_order : Df K mg "_law_any_order" s__law_any_order ["_law_source", "_law_things"]
  d__law_values : Df K mg "_law_values" s__law_values ["_law_type_here"]
  d__law_wide_type : Df K mg "_law_wide_type" s__law_wide_type ["_law_source", "_law_deep"]
  d__law_tuples : Df K mg "_law_tuples" s__law_tuples ["_law_type_here"]
  d__law_small_type : Df K mg "_law_small_type" s__law_small_type ["_law_source"]
  d__law_wrong_value : Df K mg "_law_wrong_value" s__law_wrong_value ["_law_type_here", "_law_value"]
  d__law_odd_value : Df K mg "_law_odd_value" s__law_odd_value ["_law_source", "_law_type_here", "_law_value"]
  d__law_told : Df K mg "_law_told" s__law_told ["_law_act"]
  d_law : Df K mg "law" s_law ["_law_script"]
  d__law_open_cells : Df K mg "_law_open_cells" s__law_open_cells ["_law_script"]
  hmg : ∀ y f, PySem.W.nsIn K mainGlobals y = some (some (.ref f)) → mg y = some (.ref f)
structure Ce (P : Program) (K : PySem.W.Frag) (mg : Str → Option Value) : Prop where
  x_BadType : ErrI P K mg "BadType" Ca.a_BadType "path"
  x_BadValue : ErrI P K mg "BadValue" Ca.a_BadValue "path"
/-! ### the bodies -/
section
variable {P : Program} {wd : World} {K : PySem.W.Frag} {mg : Str → Option Value} {base : Heap} {n : Nat}
theorem S_copied : FnScope N_copied ["value"] (defScope s_copied) := ⟨rfl, rfl, rfl, by decide +kernel, rfl, by decide +kernel, by decide +kernel⟩
theorem b_copied (C : Cn wd K mg) {Gx : Fn → Fn1} (IH : ∀ f, Fnc P wd K mg base n (nm f) (ar f) (Gx f)) : Fnc P wd K mg base (n + 1) "copied" 1 (gOf 1 3 (m_copied Gx)) := by
  obtain ⟨fa, fd, F, hm, hb⟩ := C.d_copied.ex
  exact fnc_of (N := N_copied) (m := m_copied Gx) F S_copied hm hb fun cdv A outer s H E => ⟨_, fun B q0 => have q := q0.q
    (sb_cons (ss_if (st_val (se_isi q (by rfl) C.z_isinstance (sa_cons (se_var 0) (sa_cons (se_ty (by rfl) C.z_list (by decide +kernel)) sa_nil)))) (sb_one (ss_ret (se_lc (own := [("part", 1)]) q (si_seq q (se_var 0)) (blkOk_by (N := N_copied) (sc := defScope s_copied) (by decide +kernel)) (fun _ _ _ _ _ B2 HK => (sg_name 1 q.nd)) (fun _ _ _ _ _ B2 HK q => sf_nil) (fun _ _ _ _ _ B2 HK q => (se_call q (IH .f_copied) (by rfl) (sa_cons (se_var 1) sa_nil)))))) sb_nil)
    (sb_cons (ss_if (st_val (se_isi q (by rfl) C.z_isinstance (sa_cons (se_var 0) (sa_cons (se_ty (by rfl) C.z_tuple (by decide +kernel)) sa_nil)))) (sb_one (ss_ret (se_tuple q (by rfl) C.z_tuple (sa_cons (se_lc (own := [("part", 1)]) q (si_seq q (se_var 0)) (blkOk_by (N := N_copied) (sc := defScope s_copied) (by decide +kernel)) (fun _ _ _ _ _ B2 HK => (sg_name 1 q.nd)) (fun _ _ _ _ _ B2 HK q => sf_nil) (fun _ _ _ _ _ B2 HK q => (se_call q (IH .f_copied) (by rfl) (sa_cons (se_var 1) sa_nil)))) sa_nil)))) sb_nil)
    (sb_cons (ss_if (st_val (se_isi q (by rfl) C.z_isinstance (sa_cons (se_var 0) (sa_cons (se_ty (by rfl) C.z_dict (by decide +kernel)) sa_nil)))) (sb_one ss_dead) sb_nil)
    (sb_one (ss_ret (se_var 0))))))⟩
theorem cop_fnc (C : Cn wd K mg) : ∀ n : Nat, Fnc P wd K mg base n "copied" 1 (gcop n)
  | 0 => z_of C.d_copied
  | n + 1 => b_copied C fun f => match f with
    | .f_copied => cop_fnc C n
    | .f_is_letter => fnc_none C.d_is_letter
    | .f_is_word => fnc_none C.d_is_word
    | .f_is_number => fnc_none C.d_is_number
    | .f_is_tuple => fnc_none C.d_is_tuple
    | .f_are_different => fnc_none C.d_are_different
    | .f_is_lot => fnc_none C.d_is_lot
    | .f_has_form => fnc_none C.d_has_form
    | .f_form_path => fnc_none C.d_form_path
    | .f_tuples_in => fnc_none C.d_tuples_in
    | .f_count_of => fnc_none C.d_count_of
    | .f_type_fault => fnc_none C.d_type_fault
    | .f_check_type => fnc_none C.d_check_type
    | .f_listed => fnc_none C.d_listed
    | .f_part_fault => fnc_none C.d_part_fault
    | .f_value_fault => fnc_none C.d_value_fault
    | .f_place_in => fnc_none C.d_place_in
    | .f_values_of => fnc_none C.d_values_of
    | .f_many => fnc_none C.d_many
    | .f_value_at => fnc_none C.d_value_at
    | .f_is_value => fnc_none C.d_is_value
    | .f_place_of => fnc_none C.d_place_of
    | .f__law_pick => fnc_none C.d__law_pick
    | .f__law_any_order => fnc_none C.d__law_any_order
    | .f__law_values => fnc_none C.d__law_values
    | .f__law_wide_type => fnc_none C.d__law_wide_type
    | .f__law_tuples => fnc_none C.d__law_tuples
    | .f__law_small_type => fnc_none C.d__law_small_type
    | .f__law_wrong_value => fnc_none C.d__law_wrong_value
    | .f__law_odd_value => fnc_none C.d__law_odd_value
    | .f__law_told => fnc_none C.d__law_told
theorem S_is_letter : FnScope N_is_letter ["sign"] (defScope s_is_letter) := ⟨rfl, rfl, rfl, by decide +kernel, rfl, by decide +kernel, by decide +kernel⟩
theorem b_is_letter (C : Cn wd K mg) {Gx : Fn → Fn1} (IH : ∀ f, Fnc P wd K mg base n (nm f) (ar f) (Gx f)) : Fnc P wd K mg base (n + 1) "is_letter" 1 (gOf 1 1 (m_is_letter Gx)) := by
  obtain ⟨fa, fd, F, hm, hb⟩ := C.d_is_letter.ex
  exact fnc_of (N := N_is_letter) (m := m_is_letter Gx) F S_is_letter hm hb fun cdv A outer s H E => ⟨_, fun B q0 => have q := q0.q
    (sb_one (ss_ret (se_chain op_le_str op_le_str ops_leT ops_leT se_str (se_var 0) se_str)))⟩
theorem S_is_word : FnScope N_is_word ["value"] (defScope s_is_word) := ⟨rfl, rfl, rfl, by decide +kernel, rfl, by decide +kernel, by decide +kernel⟩
theorem b_is_word (C : Cn wd K mg) {Gx : Fn → Fn1} (IH : ∀ f, Fnc P wd K mg base n (nm f) (ar f) (Gx f)) : Fnc P wd K mg base (n + 1) "is_word" 1 (gOf 1 2 (m_is_word Gx)) := by
  obtain ⟨v_LONGEST, u_LONGEST, e_LONGEST, w_LONGEST, r_LONGEST⟩ := C.g_LONGEST
  obtain ⟨fa, fd, F, hm, hb⟩ := C.d_is_word.ex
  exact fnc_of (N := N_is_word) (m := m_is_word Gx) F S_is_word hm hb fun cdv A outer s H E => ⟨_, fun B q0 => have q := q0.q
    (sb_cons (ss_if (st_w (sw_or (st_not (st_val (se_isi q (by rfl) C.z_isinstance (sa_cons (se_var 0) (sa_cons (se_ty (by rfl) C.z_str (by decide +kernel)) sa_nil))))) (sw_or1 (st_not (st_chain op_le op_le ops_cmp ops_cmp se_int (se_len q (by rfl) C.z_len (sa_cons (se_var 0) sa_nil)) (se_globQ q (by rfl) e_LONGEST w_LONGEST r_LONGEST)))))) (sb_one (ss_ret se_bl)) sb_nil)
    (sb_one (ss_ret (se_all q (by rfl) C.z_all (sa_cons (se_lc (own := [("sign", 1)]) q (si_seq q (se_var 0)) (blkOk_by (N := N_is_word) (sc := defScope s_is_word) (by decide +kernel)) (fun _ _ _ _ _ B2 HK => (sg_name 1 q.nd)) (fun _ _ _ _ _ B2 HK q => sf_nil) (fun _ _ _ _ _ B2 HK q => (se_call q (IH .f_is_letter) (by rfl) (sa_cons (se_var 1) sa_nil)))) sa_nil)))))⟩
theorem S_is_number : FnScope N_is_number ["value"] (defScope s_is_number) := ⟨rfl, rfl, rfl, by decide +kernel, rfl, by decide +kernel, by decide +kernel⟩
theorem b_is_number (C : Cn wd K mg) {Gx : Fn → Fn1} (IH : ∀ f, Fnc P wd K mg base n (nm f) (ar f) (Gx f)) : Fnc P wd K mg base (n + 1) "is_number" 1 (gOf 1 1 (m_is_number Gx)) := by
  obtain ⟨fa, fd, F, hm, hb⟩ := C.d_is_number.ex
  exact fnc_of (N := N_is_number) (m := m_is_number Gx) F S_is_number hm hb fun cdv A outer s H E => ⟨_, fun B q0 => have q := q0.q
    (sb_one (ss_ret (se_and (se_isi q (by rfl) C.z_isinstance (sa_cons (se_var 0) (sa_cons (se_ty (by rfl) C.z_int (by decide +kernel)) sa_nil))) (se_one (se_not ((se_isi q (by rfl) C.z_isinstance (sa_cons (se_var 0) (sa_cons (se_ty (by rfl) C.z_bool (by decide +kernel)) sa_nil)))))))))⟩
theorem S_is_tuple : FnScope N_is_tuple ["value", "least", "most"] (defScope s_is_tuple) := ⟨rfl, rfl, rfl, by decide +kernel, rfl, by decide +kernel, by decide +kernel⟩
theorem b_is_tuple (C : Cn wd K mg) {Gx : Fn → Fn1} (IH : ∀ f, Fnc P wd K mg base n (nm f) (ar f) (Gx f)) : Fnc P wd K mg base (n + 1) "is_tuple" 3 (gOf 3 3 (m_is_tuple Gx)) := by
  obtain ⟨fa, fd, F, hm, hb⟩ := C.d_is_tuple.ex
  exact fnc_of (N := N_is_tuple) (m := m_is_tuple Gx) F S_is_tuple hm hb fun cdv A outer s H E => ⟨_, fun B q0 => have q := q0.q
    (sb_one (ss_ret (se_and (se_isi q (by rfl) C.z_isinstance (sa_cons (se_var 0) (sa_cons (se_ty (by rfl) C.z_tuple (by decide +kernel)) sa_nil))) (se_one (se_chain op_le op_le ops_cmp ops_cmp (se_var 1) (se_len q (by rfl) C.z_len (sa_cons (se_var 0) sa_nil)) (se_var 2))))))⟩
theorem S_are_different : FnScope N_are_different ["values"] (defScope s_are_different) := ⟨rfl, rfl, rfl, by decide +kernel, rfl, by decide +kernel, by decide +kernel⟩
theorem b_are_different (C : Cn wd K mg) {Gx : Fn → Fn1} (IH : ∀ f, Fnc P wd K mg base n (nm f) (ar f) (Gx f)) : Fnc P wd K mg base (n + 1) "are_different" 1 (gOf 1 3 (m_are_different Gx)) := by
  obtain ⟨fa, fd, F, hm, hb⟩ := C.d_are_different.ex
  exact fnc_of (N := N_are_different) (m := m_are_different Gx) F S_are_different hm hb fun cdv A outer s H E => ⟨_, fun B q0 => have q := q0.q
    (sb_one (ss_ret (se_all q (by rfl) C.z_all (sa_cons (se_lc (own := [("place", 1), ("value", 2)]) q (si_enum q (by rfl) C.z_enumerate (sa_cons (se_var 0) sa_nil)) (blkOk_by (N := N_are_different) (sc := defScope s_are_different) (by decide +kernel)) (fun _ _ _ _ _ B2 HK => (sg_tup q.hX HK q.calm (sgs_cons (sg_name 1 q.nd) (sgs_cons (sg_name 2 q.nd) sgs_nil)))) (fun _ _ _ _ _ B2 HK q => sf_nil) (fun _ _ _ _ _ B2 HK q => (se_ni q (se_var 2) (se_sl q (se_var 0) so_none (so_some (se_var 1)))))) sa_nil))))⟩
theorem S_is_lot : FnScope N_is_lot ["value"] (defScope s_is_lot) := ⟨rfl, rfl, rfl, by decide +kernel, rfl, by decide +kernel, by decide +kernel⟩
theorem b_is_lot (C : Cn wd K mg) {Gx : Fn → Fn1} (IH : ∀ f, Fnc P wd K mg base n (nm f) (ar f) (Gx f)) : Fnc P wd K mg base (n + 1) "is_lot" 1 (gOf 1 3 (m_is_lot Gx)) := by
  obtain ⟨fa, fd, F, hm, hb⟩ := C.d_is_lot.ex
  exact fnc_of (N := N_is_lot) (m := m_is_lot Gx) F S_is_lot hm hb fun cdv A outer s H E => ⟨_, fun B q0 => have q := q0.q
    (sb_cons (ss_set q (se_ix q (se_var 0) se_int))
    (sb_one (ss_ret (se_and (se_call q (IH .f_is_tuple) (by rfl) (sa_cons (se_var 1) (sa_cons se_int (sa_cons se_int sa_nil)))) (se_and (se_all q (by rfl) C.z_all (sa_cons (se_lc (own := [("word", 2)]) q (si_seq q (se_var 1)) (blkOk_by (N := N_is_lot) (sc := defScope s_is_lot) (by decide +kernel)) (fun _ _ _ _ _ B2 HK => (sg_name 2 q.nd)) (fun _ _ _ _ _ B2 HK q => sf_nil) (fun _ _ _ _ _ B2 HK q => (se_call q (IH .f_is_word) (by rfl) (sa_cons (se_var 2) sa_nil)))) sa_nil)) (se_one (se_call q (IH .f_are_different) (by rfl) (sa_cons (se_var 1) sa_nil))))))))⟩
theorem S_has_form : FnScope N_has_form ["value"] (defScope s_has_form) := ⟨rfl, rfl, rfl, by decide +kernel, rfl, by decide +kernel, by decide +kernel⟩
theorem b_has_form (C : Cn wd K mg) {Gx : Fn → Fn1} (IH : ∀ f, Fnc P wd K mg base n (nm f) (ar f) (Gx f)) : Fnc P wd K mg base (n + 1) "has_form" 1 (gOf 1 1 (m_has_form Gx)) := by
  obtain ⟨fa, fd, F, hm, hb⟩ := C.d_has_form.ex
  exact fnc_of (N := N_has_form) (m := m_has_form Gx) F S_has_form hm hb fun cdv A outer s H E => ⟨_, fun B q0 => have q := q0.q
    (sb_cons (ss_if (st_not (st_val (se_call q (IH .f_is_tuple) (by rfl) (sa_cons (se_var 0) (sa_cons se_int (sa_cons se_int sa_nil)))))) (sb_one (ss_ret se_bl)) sb_nil)
    (sb_cons (ss_if (st_eq q (se_len q (by rfl) C.z_len (sa_cons (se_var 0) sa_nil)) se_int) (sb_one (ss_ret (se_eq q (se_ix q (se_var 0) se_int) se_str))) sb_nil)
    (sb_cons (ss_if (st_eq q (se_ix q (se_var 0) se_int) se_str) (sb_one (ss_ret (se_call q (IH .f_is_lot) (by rfl) (sa_cons (se_var 0) sa_nil)))) sb_nil)
    (sb_one (ss_ret (se_and (se_eq q (se_ix q (se_var 0) se_int) se_str) (se_and (se_call q (IH .f_is_number) (by rfl) (sa_cons (se_ix q (se_var 0) se_int) sa_nil)) (se_one (se_chain op_le op_le ops_cmp ops_cmp se_int (se_ix q (se_var 0) se_int) se_int)))))))))⟩
theorem S_form_path : FnScope N_form_path ["value", "path"] (defScope s_form_path) := ⟨rfl, rfl, rfl, by decide +kernel, rfl, by decide +kernel, by decide +kernel⟩
theorem b_form_path (C : Cn wd K mg) {Gx : Fn → Fn1} (IH : ∀ f, Fnc P wd K mg base n (nm f) (ar f) (Gx f)) : Fnc P wd K mg base (n + 1) "form_path" 2 (gOf 2 3 (m_form_path Gx)) := by
  obtain ⟨fa, fd, F, hm, hb⟩ := C.d_form_path.ex
  exact fnc_of (N := N_form_path) (m := m_form_path Gx) F S_form_path hm hb fun cdv A outer s H E => ⟨_, fun B q0 => have q := q0.q
    (sb_cons (ss_if (st_not (st_val (se_call q (IH .f_has_form) (by rfl) (sa_cons (se_var 0) sa_nil)))) (sb_one (ss_ret (se_var 1))) sb_nil)
    (sb_cons (ss_if (st_ne q (se_ix q (se_var 0) se_int) se_str) (sb_one (ss_ret se_non)) sb_nil)
    (sb_cons (ss_set q (se_call q (IH .f_form_path) (by rfl) (sa_cons (se_ix q (se_var 0) se_int) (sa_cons (se_add q (se_var 1) (se_tup (sa_cons se_int sa_nil))) sa_nil))))
    (sb_cons (ss_if (st_is (se_var 2) se_non) (sb_one (ss_set q (se_call q (IH .f_form_path) (by rfl) (sa_cons (se_ix q (se_var 0) se_int) (sa_cons (se_add q (se_var 1) (se_tup (sa_cons se_int sa_nil))) sa_nil))))) sb_nil)
    (sb_one (ss_ret (se_var 2)))))))⟩
theorem S_tuples_in : FnScope N_tuples_in ["kind"] (defScope s_tuples_in) := ⟨rfl, rfl, rfl, by decide +kernel, rfl, by decide +kernel, by decide +kernel⟩
theorem b_tuples_in (C : Cn wd K mg) {Gx : Fn → Fn1} (IH : ∀ f, Fnc P wd K mg base n (nm f) (ar f) (Gx f)) : Fnc P wd K mg base (n + 1) "tuples_in" 1 (gOf 1 1 (m_tuples_in Gx)) := by
  obtain ⟨fa, fd, F, hm, hb⟩ := C.d_tuples_in.ex
  exact fnc_of (N := N_tuples_in) (m := m_tuples_in Gx) F S_tuples_in hm hb fun cdv A outer s H E => ⟨_, fun B q0 => have q := q0.q
    (sb_cons (ss_if (st_eq q (se_ix q (se_var 0) se_int) se_str) (sb_one (ss_ret (se_add q (se_add q se_int (se_call q (IH .f_tuples_in) (by rfl) (sa_cons (se_ix q (se_var 0) se_int) sa_nil))) (se_call q (IH .f_tuples_in) (by rfl) (sa_cons (se_ix q (se_var 0) se_int) sa_nil))))) sb_nil)
    (sb_one (ss_ret se_int)))⟩
theorem S_count_of : FnScope N_count_of ["kind"] (defScope s_count_of) := ⟨rfl, rfl, rfl, by decide +kernel, rfl, by decide +kernel, by decide +kernel⟩
theorem b_count_of (C : Cn wd K mg) {Gx : Fn → Fn1} (IH : ∀ f, Fnc P wd K mg base n (nm f) (ar f) (Gx f)) : Fnc P wd K mg base (n + 1) "count_of" 1 (gOf 1 1 (m_count_of Gx)) := by
  obtain ⟨fa, fd, F, hm, hb⟩ := C.d_count_of.ex
  exact fnc_of (N := N_count_of) (m := m_count_of Gx) F S_count_of hm hb fun cdv A outer s H E => ⟨_, fun B q0 => have q := q0.q
    (sb_cons (ss_if (st_eq q (se_ix q (se_var 0) se_int) se_str) (sb_one (ss_ret (se_mul (se_call q (IH .f_count_of) (by rfl) (sa_cons (se_ix q (se_var 0) se_int) sa_nil)) (se_call q (IH .f_count_of) (by rfl) (sa_cons (se_ix q (se_var 0) se_int) sa_nil))))) sb_nil)
    (sb_cons (ss_if (st_eq q (se_ix q (se_var 0) se_int) se_str) (sb_one (ss_ret (se_len q (by rfl) C.z_len (sa_cons (se_ix q (se_var 0) se_int) sa_nil)))) sb_nil)
    (sb_one (ss_ret (se_ix q (se_var 0) se_int)))))⟩
theorem S_type_fault : FnScope N_type_fault ["value"] (defScope s_type_fault) := ⟨rfl, rfl, rfl, by decide +kernel, rfl, by decide +kernel, by decide +kernel⟩
theorem b_type_fault (C : Cn wd K mg) {Gx : Fn → Fn1} (IH : ∀ f, Fnc P wd K mg base n (nm f) (ar f) (Gx f)) : Fnc P wd K mg base (n + 1) "type_fault" 1 (gOf 1 2 (m_type_fault Gx)) := by
  obtain ⟨v_MOST_TUPLES, u_MOST_TUPLES, e_MOST_TUPLES, w_MOST_TUPLES, r_MOST_TUPLES⟩ := C.g_MOST_TUPLES
  obtain ⟨v_MOST_VALUES, u_MOST_VALUES, e_MOST_VALUES, w_MOST_VALUES, r_MOST_VALUES⟩ := C.g_MOST_VALUES
  obtain ⟨fa, fd, F, hm, hb⟩ := C.d_type_fault.ex
  exact fnc_of (N := N_type_fault) (m := m_type_fault Gx) F S_type_fault hm hb fun cdv A outer s H E => ⟨_, fun B q0 => have q := q0.q
    (sb_cons (ss_set q (se_call q (IH .f_form_path) (by rfl) (sa_cons (se_var 0) (sa_cons (se_tup sa_nil) sa_nil))))
    (sb_cons (ss_if (st_isnot (se_var 1) se_non) (sb_one (ss_ret (se_var 1))) sb_nil)
    (sb_cons (ss_if (st_w (sw_or (st_gt (se_call q (IH .f_tuples_in) (by rfl) (sa_cons (se_var 0) sa_nil)) (se_globQ q (by rfl) e_MOST_TUPLES w_MOST_TUPLES r_MOST_TUPLES)) (sw_or1 (st_gt (se_call q (IH .f_count_of) (by rfl) (sa_cons (se_var 0) sa_nil)) (se_globQ q (by rfl) e_MOST_VALUES w_MOST_VALUES r_MOST_VALUES))))) (sb_one (ss_ret (se_tup sa_nil))) sb_nil)
    (sb_one (ss_ret se_non)))))⟩
theorem S_check_type : FnScope N_check_type ["value"] (defScope s_check_type) := ⟨rfl, rfl, rfl, by decide +kernel, rfl, by decide +kernel, by decide +kernel⟩
theorem b_check_type (C : Cn wd K mg) (Er : Ce P K mg) {Gx : Fn → Fn1} (IH : ∀ f, Fnc P wd K mg base n (nm f) (ar f) (Gx f)) : Fnc P wd K mg base (n + 1) "check_type" 1 (gOf 1 2 (m_check_type n Gx)) := by
  obtain ⟨fa, fd, F, hm, hb⟩ := C.d_check_type.ex
  exact fnc_of (N := N_check_type) (m := m_check_type n Gx) F S_check_type hm hb fun cdv A outer s H E => ⟨_, fun B q0 => have q := q0.q
    (sb_cons (ss_set q (se_call q (IH .f_type_fault) (by rfl) (sa_cons (se_var 0) sa_nil)))
    (sb_one (ss_if (st_isnot (se_var 1) se_non) (sb_one (ss_raiseL q (fun h => (errM_of Er.x_BadType (cop_fnc C 3)).up h) (by rfl) (sa_cons (se_var 1) sa_nil))) sb_nil)))⟩
theorem S_listed : FnScope N_listed ["kind"] (defScope s_listed) := ⟨rfl, rfl, rfl, by decide +kernel, rfl, by decide +kernel, by decide +kernel⟩
theorem b_listed (C : Cn wd K mg) {Gx : Fn → Fn1} (IH : ∀ f, Fnc P wd K mg base n (nm f) (ar f) (Gx f)) : Fnc P wd K mg base (n + 1) "listed" 1 (gOf 1 4 (m_listed Gx)) := by
  obtain ⟨fa, fd, F, hm, hb⟩ := C.d_listed.ex
  exact fnc_of (N := N_listed) (m := m_listed Gx) F S_listed hm hb fun cdv A outer s H E => ⟨_, fun B q0 => have q := q0.q
    (sb_cons (ss_if (st_eq q (se_ix q (se_var 0) se_int) se_str) (sb_cons (ss_set q (se_call q (IH .f_listed) (by rfl) (sa_cons (se_ix q (se_var 0) se_int) sa_nil)))
    (sb_one (ss_ret (se_new (sn_lc2 (own := [("first", 2), ("second", 3)]) (own1 := [3]) q (si_seq q (se_call q (IH .f_listed) (by rfl) (sa_cons (se_ix q (se_var 0) se_int) sa_nil))) (blkOk_by (N := N_listed) (sc := defScope s_listed) (by decide +kernel)) (fun _ _ _ _ _ B2 HK => (sg_name 2 q.nd)) (fun _ _ _ _ _ B2 HK q => sf_nil) (fun _ _ _ _ _ B2 HK q => (si_seq q (se_var 1))) (fun _ _ _ _ _ B2 HK => (sg_name 3 q.nd)) (fun _ _ _ _ _ B2 HK q => sf_nil) (fun _ _ _ _ _ B2 HK q => (se_tup (sa_cons (se_var 2) (sa_cons (se_var 3) sa_nil))))))))) sb_nil)
    (sb_cons (ss_if (st_eq q (se_ix q (se_var 0) se_int) se_str) (sb_one (ss_ret (se_list q (by rfl) C.z_list (sa_cons (se_ix q (se_var 0) se_int) sa_nil)))) sb_nil)
    (sb_one (ss_ret (se_lrange1 q (by rfl) C.z_list (by rfl) C.z_range (se_ix q (se_var 0) se_int))))))⟩
theorem S_part_fault : FnScope N_part_fault ["kind", "value", "path"] (defScope s_part_fault) := ⟨rfl, rfl, rfl, by decide +kernel, rfl, by decide +kernel, by decide +kernel⟩
theorem b_part_fault (C : Cn wd K mg) {Gx : Fn → Fn1} (IH : ∀ f, Fnc P wd K mg base n (nm f) (ar f) (Gx f)) : Fnc P wd K mg base (n + 1) "part_fault" 3 (gOf 3 5 (m_part_fault Gx)) := by
  obtain ⟨fa, fd, F, hm, hb⟩ := C.d_part_fault.ex
  exact fnc_of (N := N_part_fault) (m := m_part_fault Gx) F S_part_fault hm hb fun cdv A outer s H E => ⟨_, fun B q0 => have q := q0.q
    (sb_cons (ss_if (st_eq q (se_ix q (se_var 0) se_int) se_str) (sb_cons (ss_set q (se_and (se_isi q (by rfl) C.z_isinstance (sa_cons (se_var 1) (sa_cons (se_ty (by rfl) C.z_str (by decide +kernel)) sa_nil))) (se_one (se_in q (se_var 1) (se_ix q (se_var 0) se_int)))))
    (sb_one (ss_ret (se_if (st_val (se_var 4)) se_non (se_var 2))))) sb_nil)
    (sb_cons (ss_if (st_eq q (se_ix q (se_var 0) se_int) se_str) (sb_cons (ss_set q (se_and (se_call q (IH .f_is_number) (by rfl) (sa_cons (se_var 1) sa_nil)) (se_one (se_chain op_le op_lt ops_cmp ops_cmp se_int (se_var 1) (se_ix q (se_var 0) se_int)))))
    (sb_one (ss_ret (se_if (st_val (se_var 4)) se_non (se_var 2))))) sb_nil)
    (sb_cons (ss_if (st_not (st_val (se_call q (IH .f_is_tuple) (by rfl) (sa_cons (se_var 1) (sa_cons se_int (sa_cons se_int sa_nil)))))) (sb_one (ss_ret (se_var 2))) sb_nil)
    (sb_cons (ss_set q (se_call q (IH .f_part_fault) (by rfl) (sa_cons (se_ix q (se_var 0) se_int) (sa_cons (se_ix q (se_var 1) se_int) (sa_cons (se_add q (se_var 2) (se_tup (sa_cons se_int sa_nil))) sa_nil)))))
    (sb_cons (ss_if (st_is (se_var 3) se_non) (sb_one (ss_set q (se_call q (IH .f_part_fault) (by rfl) (sa_cons (se_ix q (se_var 0) se_int) (sa_cons (se_ix q (se_var 1) se_int) (sa_cons (se_add q (se_var 2) (se_tup (sa_cons se_int sa_nil))) sa_nil)))))) sb_nil)
    (sb_one (ss_ret (se_var 3))))))))⟩
theorem S_value_fault : FnScope N_value_fault ["kind", "value"] (defScope s_value_fault) := ⟨rfl, rfl, rfl, by decide +kernel, rfl, by decide +kernel, by decide +kernel⟩
theorem b_value_fault (C : Cn wd K mg) {Gx : Fn → Fn1} (IH : ∀ f, Fnc P wd K mg base n (nm f) (ar f) (Gx f)) : Fnc P wd K mg base (n + 1) "value_fault" 2 (gOf 2 2 (m_value_fault Gx)) := by
  obtain ⟨fa, fd, F, hm, hb⟩ := C.d_value_fault.ex
  exact fnc_of (N := N_value_fault) (m := m_value_fault Gx) F S_value_fault hm hb fun cdv A outer s H E => ⟨_, fun B q0 => have q := q0.q
    (sb_one (ss_ret (se_call q (IH .f_part_fault) (by rfl) (sa_cons (se_var 0) (sa_cons (se_var 1) (sa_cons (se_tup sa_nil) sa_nil))))))⟩
theorem S_place_in : FnScope N_place_in ["kind", "value"] (defScope s_place_in) := ⟨rfl, rfl, rfl, by decide +kernel, rfl, by decide +kernel, by decide +kernel⟩
theorem b_place_in (C : Cn wd K mg) {Gx : Fn → Fn1} (IH : ∀ f, Fnc P wd K mg base n (nm f) (ar f) (Gx f)) : Fnc P wd K mg base (n + 1) "place_in" 2 (gOf 2 2 (m_place_in Gx)) := by
  obtain ⟨fa, fd, F, hm, hb⟩ := C.d_place_in.ex
  exact fnc_of (N := N_place_in) (m := m_place_in Gx) F S_place_in hm hb fun cdv A outer s H E => ⟨_, fun B q0 => have q := q0.q
    (sb_cons (ss_if (st_eq q (se_ix q (se_var 0) se_int) se_str) (sb_one (ss_ret (se_add q (se_mul (se_call q (IH .f_place_in) (by rfl) (sa_cons (se_ix q (se_var 0) se_int) (sa_cons (se_ix q (se_var 1) se_int) sa_nil))) (se_call q (IH .f_count_of) (by rfl) (sa_cons (se_ix q (se_var 0) se_int) sa_nil))) (se_call q (IH .f_place_in) (by rfl) (sa_cons (se_ix q (se_var 0) se_int) (sa_cons (se_ix q (se_var 1) se_int) sa_nil)))))) sb_nil)
    (sb_cons (ss_if (st_eq q (se_ix q (se_var 0) se_int) se_str) (sb_one (ss_ret (se_ixm q (se_ix q (se_var 0) se_int) (sa_cons (se_var 1) sa_nil)))) sb_nil)
    (sb_one (ss_ret (se_var 1)))))⟩
theorem S_values_of : FnScope N_values_of ["kind"] (defScope s_values_of) := ⟨rfl, rfl, rfl, by decide +kernel, rfl, by decide +kernel, by decide +kernel⟩
theorem b_values_of (C : Cn wd K mg) {Gx : Fn → Fn1} (IH : ∀ f, Fnc P wd K mg base n (nm f) (ar f) (Gx f)) : Fnc P wd K mg base (n + 1) "values_of" 1 (gOf 1 1 (m_values_of Gx)) := by
  obtain ⟨fa, fd, F, hm, hb⟩ := C.d_values_of.ex
  exact fnc_of (N := N_values_of) (m := m_values_of Gx) F S_values_of hm hb fun cdv A outer s H E => ⟨_, fun B q0 => have q := q0.q
    (sb_cons (ss_expr (se_call q (IH .f_check_type) (by rfl) (sa_cons (se_var 0) sa_nil)))
    (sb_one (ss_ret (se_call q (IH .f_listed) (by rfl) (sa_cons (se_var 0) sa_nil)))))⟩
theorem S_many : FnScope N_many ["kind"] (defScope s_many) := ⟨rfl, rfl, rfl, by decide +kernel, rfl, by decide +kernel, by decide +kernel⟩
theorem b_many (C : Cn wd K mg) {Gx : Fn → Fn1} (IH : ∀ f, Fnc P wd K mg base n (nm f) (ar f) (Gx f)) : Fnc P wd K mg base (n + 1) "many" 1 (gOf 1 1 (m_many Gx)) := by
  obtain ⟨fa, fd, F, hm, hb⟩ := C.d_many.ex
  exact fnc_of (N := N_many) (m := m_many Gx) F S_many hm hb fun cdv A outer s H E => ⟨_, fun B q0 => have q := q0.q
    (sb_cons (ss_expr (se_call q (IH .f_check_type) (by rfl) (sa_cons (se_var 0) sa_nil)))
    (sb_one (ss_ret (se_call q (IH .f_count_of) (by rfl) (sa_cons (se_var 0) sa_nil)))))⟩
theorem S_value_at : FnScope N_value_at ["kind", "place"] (defScope s_value_at) := ⟨rfl, rfl, rfl, by decide +kernel, rfl, by decide +kernel, by decide +kernel⟩
theorem b_value_at (C : Cn wd K mg) {Gx : Fn → Fn1} (IH : ∀ f, Fnc P wd K mg base n (nm f) (ar f) (Gx f)) : Fnc P wd K mg base (n + 1) "value_at" 2 (gOf 2 2 (m_value_at Gx)) := by
  obtain ⟨fa, fd, F, hm, hb⟩ := C.d_value_at.ex
  exact fnc_of (N := N_value_at) (m := m_value_at Gx) F S_value_at hm hb fun cdv A outer s H E => ⟨_, fun B q0 => have q := q0.q
    (sb_cons (ss_expr (se_call q (IH .f_check_type) (by rfl) (sa_cons (se_var 0) sa_nil)))
    (sb_one (ss_ret (se_ix q (se_call q (IH .f_listed) (by rfl) (sa_cons (se_var 0) sa_nil)) (se_var 1)))))⟩
theorem S_is_value : FnScope N_is_value ["kind", "value"] (defScope s_is_value) := ⟨rfl, rfl, rfl, by decide +kernel, rfl, by decide +kernel, by decide +kernel⟩
theorem b_is_value (C : Cn wd K mg) {Gx : Fn → Fn1} (IH : ∀ f, Fnc P wd K mg base n (nm f) (ar f) (Gx f)) : Fnc P wd K mg base (n + 1) "is_value" 2 (gOf 2 2 (m_is_value Gx)) := by
  obtain ⟨fa, fd, F, hm, hb⟩ := C.d_is_value.ex
  exact fnc_of (N := N_is_value) (m := m_is_value Gx) F S_is_value hm hb fun cdv A outer s H E => ⟨_, fun B q0 => have q := q0.q
    (sb_cons (ss_expr (se_call q (IH .f_check_type) (by rfl) (sa_cons (se_var 0) sa_nil)))
    (sb_one (ss_ret (se_is (se_call q (IH .f_value_fault) (by rfl) (sa_cons (se_var 0) (sa_cons (se_var 1) sa_nil))) se_non))))⟩
theorem S_place_of : FnScope N_place_of ["kind", "value"] (defScope s_place_of) := ⟨rfl, rfl, rfl, by decide +kernel, rfl, by decide +kernel, by decide +kernel⟩
theorem b_place_of (C : Cn wd K mg) (Er : Ce P K mg) {Gx : Fn → Fn1} (IH : ∀ f, Fnc P wd K mg base n (nm f) (ar f) (Gx f)) : Fnc P wd K mg base (n + 1) "place_of" 2 (gOf 2 3 (m_place_of n Gx)) := by
  obtain ⟨fa, fd, F, hm, hb⟩ := C.d_place_of.ex
  exact fnc_of (N := N_place_of) (m := m_place_of n Gx) F S_place_of hm hb fun cdv A outer s H E => ⟨_, fun B q0 => have q := q0.q
    (sb_cons (ss_expr (se_call q (IH .f_check_type) (by rfl) (sa_cons (se_var 0) sa_nil)))
    (sb_cons (ss_set q (se_call q (IH .f_value_fault) (by rfl) (sa_cons (se_var 0) (sa_cons (se_var 1) sa_nil))))
    (sb_cons (ss_if (st_isnot (se_var 2) se_non) (sb_one (ss_raiseL q (fun h => (errM_of Er.x_BadValue (cop_fnc C 3)).up h) (by rfl) (sa_cons (se_var 2) sa_nil))) sb_nil)
    (sb_one (ss_ret (se_call q (IH .f_place_in) (by rfl) (sa_cons (se_var 0) (sa_cons (se_var 1) sa_nil))))))))⟩
theorem S__law_pick : FnScope N__law_pick ["_law_source", "_law_most"] (defScope s__law_pick) := ⟨rfl, rfl, rfl, by decide +kernel, rfl, by decide +kernel, by decide +kernel⟩
theorem b__law_pick (C : Cn wd K mg) {Gx : Fn → Fn1} (IH : ∀ f, Fnc P wd K mg base n (nm f) (ar f) (Gx f)) : Fnc P wd K mg base (n + 1) "_law_pick" 2 (gOf 2 6 (m__law_pick Gx)) := by
  obtain ⟨fa, fd, F, hm, hb⟩ := C.d__law_pick.ex
  exact fnc_of (N := N__law_pick) (m := m__law_pick Gx) F S__law_pick hm hb fun cdv A outer s H E => ⟨_, fun B q0 => have q := q0.q
    (sb_cons (ss_if (st_lt (se_var 1) se_int) (sb_one (ss_ret se_int)) sb_nil)
    (sb_cons (ss_set q (se_src q .cells rfl))
    (sb_cons (ss_while 100 q0.pw (st_w (sw_and (st_lt (se_src q .left rfl) se_int) (sw_and1 (st_gt (se_clen q (by rfl) C.z_len) se_int)))) (sb_one (ss_put q .left (se_cpop q) rfl)))
    (sb_cons (ss_set q (se_src q .left rfl))
    (sb_cons (ss_if (st_gt (se_var 3) se_int) (sb_cons (ss_put q .left (se_fdiv (se_var 3) (se_var 1)) rfl)
    (sb_one (ss_ret (se_mod (se_int1 (by rfl) C.z_int (sa_cons (se_var 3) sa_nil)) (se_var 1))))) sb_nil)
    (sb_cons (ss_put q .turn (se_add q (se_src q .turn rfl) se_int) rfl)
    (sb_cons (ss_set q (se_src q .turn rfl))
    (sb_cons (ss_set q (se_mod (se_int1 (by rfl) C.z_int (sa_cons (se_add q (se_src q .mixed rfl) (se_mul (se_var 4) se_int)) sa_nil)) se_int))
    (sb_cons (ss_set q (se_mod (se_int1 (by rfl) C.z_int (sa_cons (se_add q (se_mul (se_var 5) (se_var 5)) (se_mul (se_var 4) se_int)) sa_nil)) se_int))
    (sb_one (ss_ret (se_mod (se_int1 (by rfl) C.z_int (sa_cons (se_fdiv (se_var 5) se_int) sa_nil)) (se_var 1)))))))))))))⟩
theorem S__law_any_order : FnScope N__law_any_order ["_law_source", "_law_things"] (defScope s__law_any_order) := ⟨rfl, rfl, rfl, by decide +kernel, rfl, by decide +kernel, by decide +kernel⟩
theorem b__law_any_order (C : Cn wd K mg) {Gx : Fn → Fn1} (IH : ∀ f, Fnc P wd K mg base n (nm f) (ar f) (Gx f)) : Fnc P wd K mg base (n + 1) "_law_any_order" 2 (gOf 2 4 (m__law_any_order Gx)) := by
  obtain ⟨fa, fd, F, hm, hb⟩ := C.d__law_any_order.ex
  exact fnc_of (N := N__law_any_order) (m := m__law_any_order Gx) F S__law_any_order hm hb fun cdv A outer s H E => ⟨_, fun B q0 => have q := q0.q
    (sb_cons (ss_setN q (sn_list q (by rfl) C.z_list (se_var 1)))
    (sb_one (ss_ret (se_lc (own := [("_law_lap", 3)]) q (si_range1 (by rfl) C.z_range (sa_cons (se_leno q (by rfl) C.z_len) sa_nil)) (blkOk_by (N := N__law_any_order) (sc := defScope s__law_any_order) (by decide +kernel)) (fun _ _ _ _ _ B2 HK => (sg_name 3 q.nd)) (fun _ _ _ _ _ B2 HK q => sf_nil) (fun _ _ _ _ _ B2 HK q => (se_popAt q (sa_cons (se_call q (IH .f__law_pick) (by rfl) (sa_cons (se_var 0) (sa_cons (se_leno q (by rfl) C.z_len) sa_nil))) sa_nil)))))))⟩
theorem S__law_values : FnScope N__law_values ["_law_type_here"] (defScope s__law_values) := ⟨rfl, rfl, rfl, by decide +kernel, rfl, by decide +kernel, by decide +kernel⟩
theorem b__law_values (C : Cn wd K mg) {Gx : Fn → Fn1} (IH : ∀ f, Fnc P wd K mg base n (nm f) (ar f) (Gx f)) : Fnc P wd K mg base (n + 1) "_law_values" 1 (gOf 1 5 (m__law_values Gx)) := by
  obtain ⟨fa, fd, F, hm, hb⟩ := C.d__law_values.ex
  exact fnc_of (N := N__law_values) (m := m__law_values Gx) F S__law_values hm hb fun cdv A outer s H E => ⟨_, fun B q0 => have q := q0.q
    (sb_cons (ss_if (st_eq q (se_ix q (se_var 0) se_int) se_str) (sb_one (ss_ret (se_list q (by rfl) C.z_list (sa_cons (se_ix q (se_var 0) se_int) sa_nil)))) sb_nil)
    (sb_cons (ss_if (st_eq q (se_ix q (se_var 0) se_int) se_str) (sb_one (ss_ret (se_lrange1 q (by rfl) C.z_list (by rfl) C.z_range (se_ix q (se_var 0) se_int)))) sb_nil)
    (sb_cons (ss_par q (sa_cons (se_lst sa_nil) (sa_cons (se_call q (IH .f__law_values) (by rfl) (sa_cons (se_ix q (se_var 0) se_int) sa_nil)) sa_nil)))
    (sb_cons (ss_for q q0.pw (si_seq q (se_call q (IH .f__law_values) (by rfl) (sa_cons (se_ix q (se_var 0) se_int) sa_nil))) (sg_name 3 q.nd) (sb_one (ss_set q (se_add q (se_var 1) (se_lc (own := [("_law_u", 4)]) q (si_seq q (se_var 2)) (blkOk_by (N := N__law_values) (sc := defScope s__law_values) (by decide +kernel)) (fun _ _ _ _ _ B2 HK => (sg_name 4 q.nd)) (fun _ _ _ _ _ B2 HK q => sf_nil) (fun _ _ _ _ _ B2 HK q => (se_tup (sa_cons (se_var 3) (sa_cons (se_var 4) sa_nil)))))))))
    (sb_one (ss_ret (se_var 1)))))))⟩
theorem S__law_wide_type : FnScope N__law_wide_type ["_law_source", "_law_deep"] (defScope s__law_wide_type) := ⟨rfl, rfl, rfl, by decide +kernel, rfl, by decide +kernel, by decide +kernel⟩
theorem b__law_wide_type (C : Cn wd K mg) {Gx : Fn → Fn1} (IH : ∀ f, Fnc P wd K mg base n (nm f) (ar f) (Gx f)) : Fnc P wd K mg base (n + 1) "_law_wide_type" 2 (gOf 2 4 (m__law_wide_type Gx)) := by
  obtain ⟨fa, fd, F, hm, hb⟩ := C.d__law_wide_type.ex
  exact fnc_of (N := N__law_wide_type) (m := m__law_wide_type Gx) F S__law_wide_type hm hb fun cdv A outer s H E => ⟨_, fun B q0 => have q := q0.q
    (sb_cons (ss_set q (se_if (st_gt (se_var 1) se_int) (se_call q (IH .f__law_pick) (by rfl) (sa_cons (se_var 0) (sa_cons se_int sa_nil))) (se_call q (IH .f__law_pick) (by rfl) (sa_cons (se_var 0) (sa_cons se_int sa_nil)))))
    (sb_cons (ss_if (st_gt (se_var 2) se_int) (sb_one (ss_ret (se_tup (sa_cons se_str (sa_cons (se_call q (IH .f__law_wide_type) (by rfl) (sa_cons (se_var 0) (sa_cons (se_sub (se_var 1) se_int) sa_nil))) (sa_cons (se_call q (IH .f__law_wide_type) (by rfl) (sa_cons (se_var 0) (sa_cons (se_sub (se_sub (se_var 1) se_int) (se_call q (IH .f__law_pick) (by rfl) (sa_cons (se_var 0) (sa_cons se_int sa_nil)))) sa_nil))) sa_nil)))))) sb_nil)
    (sb_cons (ss_if (st_eq q (se_var 2) se_int) (sb_one (ss_ret (se_tup (sa_cons se_str (sa_cons (se_add q se_int (se_call q (IH .f__law_pick) (by rfl) (sa_cons (se_var 0) (sa_cons se_int sa_nil)))) sa_nil))))) sb_nil)
    (sb_cons (ss_set q (se_call q (IH .f__law_any_order) (by rfl) (sa_cons (se_var 0) (sa_cons (se_lst (sa_cons se_str (sa_cons se_str (sa_cons se_str (sa_cons se_str (sa_cons se_str (sa_cons se_str (sa_cons se_str (sa_cons se_str sa_nil))))))))) sa_nil))))
    (sb_one (ss_ret (se_tup (sa_cons se_str (sa_cons (se_tuple q (by rfl) C.z_tuple (sa_cons (se_sl q (se_var 3) so_none (so_some (se_add q se_int (se_call q (IH .f__law_pick) (by rfl) (sa_cons (se_var 0) (sa_cons se_int sa_nil)))))) sa_nil)) sa_nil)))))))))⟩
theorem S__law_tuples : FnScope N__law_tuples ["_law_type_here"] (defScope s__law_tuples) := ⟨rfl, rfl, rfl, by decide +kernel, rfl, by decide +kernel, by decide +kernel⟩
theorem b__law_tuples (C : Cn wd K mg) {Gx : Fn → Fn1} (IH : ∀ f, Fnc P wd K mg base n (nm f) (ar f) (Gx f)) : Fnc P wd K mg base (n + 1) "_law_tuples" 1 (gOf 1 1 (m__law_tuples Gx)) := by
  obtain ⟨fa, fd, F, hm, hb⟩ := C.d__law_tuples.ex
  exact fnc_of (N := N__law_tuples) (m := m__law_tuples Gx) F S__law_tuples hm hb fun cdv A outer s H E => ⟨_, fun B q0 => have q := q0.q
    (sb_one (ss_ret (se_add q se_int (se_if (st_eq q (se_ix q (se_var 0) se_int) se_str) (se_add q (se_call q (IH .f__law_tuples) (by rfl) (sa_cons (se_ix q (se_var 0) se_int) sa_nil)) (se_call q (IH .f__law_tuples) (by rfl) (sa_cons (se_ix q (se_var 0) se_int) sa_nil))) se_int))))⟩
theorem S__law_small_type : FnScope N__law_small_type ["_law_source"] (defScope s__law_small_type) := ⟨rfl, rfl, rfl, by decide +kernel, rfl, by decide +kernel, by decide +kernel⟩
theorem b__law_small_type (C : Cn wd K mg) {Gx : Fn → Fn1} (IH : ∀ f, Fnc P wd K mg base n (nm f) (ar f) (Gx f)) : Fnc P wd K mg base (n + 1) "_law_small_type" 1 (gOf 1 2 (m__law_small_type Gx)) := by
  obtain ⟨fa, fd, F, hm, hb⟩ := C.d__law_small_type.ex
  exact fnc_of (N := N__law_small_type) (m := m__law_small_type Gx) F S__law_small_type hm hb fun cdv A outer s H E => ⟨_, fun B q0 => have q := q0.q
    (sb_cons (ss_set q (se_call q (IH .f__law_wide_type) (by rfl) (sa_cons (se_var 0) (sa_cons (se_call q (IH .f__law_pick) (by rfl) (sa_cons (se_var 0) (sa_cons se_int sa_nil))) sa_nil))))
    (sb_cons (ss_if (st_w (sw_and (st_lt (se_call q (IH .f__law_tuples) (by rfl) (sa_cons (se_var 1) sa_nil)) se_int) (sw_and1 (st_lt (se_len q (by rfl) C.z_len (sa_cons (se_call q (IH .f__law_values) (by rfl) (sa_cons (se_var 1) sa_nil)) sa_nil)) se_int)))) (sb_one (ss_ret (se_var 1))) sb_nil)
    (sb_one (ss_ret (se_tup (sa_cons se_str (sa_cons (se_tup (sa_cons se_str (sa_cons (se_tup (sa_cons se_str (sa_cons se_str sa_nil))) sa_nil))) (sa_cons (se_tup (sa_cons se_str (sa_cons (se_tup (sa_cons se_str (sa_cons se_int sa_nil))) (sa_cons (se_tup (sa_cons se_str (sa_cons (se_add q se_int (se_call q (IH .f__law_pick) (by rfl) (sa_cons (se_var 0) (sa_cons se_int sa_nil)))) sa_nil))) sa_nil)))) sa_nil))))))))⟩
theorem S__law_wrong_value : FnScope N__law_wrong_value ["_law_type_here", "_law_value"] (defScope s__law_wrong_value) := ⟨rfl, rfl, rfl, by decide +kernel, rfl, by decide +kernel, by decide +kernel⟩
theorem b__law_wrong_value (C : Cn wd K mg) {Gx : Fn → Fn1} (IH : ∀ f, Fnc P wd K mg base n (nm f) (ar f) (Gx f)) : Fnc P wd K mg base (n + 1) "_law_wrong_value" 2 (gOf 2 5 (m__law_wrong_value Gx)) := by
  obtain ⟨fa, fd, F, hm, hb⟩ := C.d__law_wrong_value.ex
  exact fnc_of (N := N__law_wrong_value) (m := m__law_wrong_value Gx) F S__law_wrong_value hm hb fun cdv A outer s H E => ⟨_, fun B q0 => have q := q0.q
    (sb_cons (ss_if (st_eq q (se_ix q (se_var 0) se_int) se_str) (sb_one (ss_ret (se_if (st_w (sw_and (st_val (se_isi q (by rfl) C.z_isinstance (sa_cons (se_var 1) (sa_cons (se_ty (by rfl) C.z_str (by decide +kernel)) sa_nil)))) (sw_and1 (st_in q (se_var 1) (se_ix q (se_var 0) se_int))))) se_non (se_tup sa_nil)))) sb_nil)
    (sb_cons (ss_if (st_eq q (se_ix q (se_var 0) se_int) se_str) (sb_cons (ss_set q (se_and (se_isi q (by rfl) C.z_isinstance (sa_cons (se_var 1) (sa_cons (se_ty (by rfl) C.z_int (by decide +kernel)) sa_nil))) (se_one (se_not ((se_isi q (by rfl) C.z_isinstance (sa_cons (se_var 1) (sa_cons (se_ty (by rfl) C.z_bool (by decide +kernel)) sa_nil))))))))
    (sb_one (ss_ret (se_if (st_w (sw_and (st_val (se_var 4)) (sw_and1 (st_chain op_le op_lt ops_cmp ops_cmp se_int (se_var 1) (se_ix q (se_var 0) se_int))))) se_non (se_tup sa_nil))))) sb_nil)
    (sb_cons (ss_if (st_w (sw_or (st_not (st_val (se_isi q (by rfl) C.z_isinstance (sa_cons (se_var 1) (sa_cons (se_ty (by rfl) C.z_tuple (by decide +kernel)) sa_nil))))) (sw_or1 (st_ne q (se_len q (by rfl) C.z_len (sa_cons (se_var 1) sa_nil)) se_int)))) (sb_one (ss_ret (se_tup sa_nil))) sb_nil)
    (sb_cons (ss_par q (sa_cons (se_call q (IH .f__law_wrong_value) (by rfl) (sa_cons (se_ix q (se_var 0) se_int) (sa_cons (se_ix q (se_var 1) se_int) sa_nil))) (sa_cons (se_call q (IH .f__law_wrong_value) (by rfl) (sa_cons (se_ix q (se_var 0) se_int) (sa_cons (se_ix q (se_var 1) se_int) sa_nil))) sa_nil)))
    (sb_cons (ss_if (st_isnot (se_var 2) se_non) (sb_one (ss_ret (se_add q (se_tup (sa_cons se_int sa_nil)) (se_var 2)))) sb_nil)
    (sb_one (ss_ret (se_if (st_is (se_var 3) se_non) se_non (se_add q (se_tup (sa_cons se_int sa_nil)) (se_var 3))))))))))⟩
theorem S__law_odd_value : FnScope N__law_odd_value ["_law_source", "_law_type_here", "_law_value"] (defScope s__law_odd_value) := ⟨rfl, rfl, rfl, by decide +kernel, rfl, by decide +kernel, by decide +kernel⟩
theorem b__law_odd_value (C : Cn wd K mg) {Gx : Fn → Fn1} (IH : ∀ f, Fnc P wd K mg base n (nm f) (ar f) (Gx f)) : Fnc P wd K mg base (n + 1) "_law_odd_value" 3 (gOf 3 6 (m__law_odd_value Gx)) := by
  obtain ⟨fa, fd, F, hm, hb⟩ := C.d__law_odd_value.ex
  exact fnc_of (N := N__law_odd_value) (m := m__law_odd_value Gx) F S__law_odd_value hm hb fun cdv A outer s H E => ⟨_, fun B q0 => have q := q0.q
    (sb_cons (ss_if (st_w (sw_and (st_eq q (se_ix q (se_var 1) se_int) se_str) (sw_and1 (st_gt (se_call q (IH .f__law_pick) (by rfl) (sa_cons (se_var 0) (sa_cons se_int sa_nil))) se_int)))) (sb_cons (ss_set q (se_call q (IH .f__law_pick) (by rfl) (sa_cons (se_var 0) (sa_cons se_int sa_nil))))
    (sb_cons (ss_set q (se_call q (IH .f__law_odd_value) (by rfl) (sa_cons (se_var 0) (sa_cons (se_ix q (se_var 1) (se_add q se_int (se_var 4))) (sa_cons (se_ix q (se_var 2) (se_var 4)) sa_nil)))))
    (sb_one (ss_ret (se_if (st_eq q (se_var 4) se_int) (se_tup (sa_cons (se_var 5) (sa_cons (se_ix q (se_var 2) se_int) sa_nil))) (se_tup (sa_cons (se_ix q (se_var 2) se_int) (sa_cons (se_var 5) sa_nil)))))))) sb_nil)
    (sb_cons (ss_set q (se_lst (sa_cons se_non (sa_cons se_bl (sa_cons se_bl (sa_cons (se_neg (se_int)) (sa_cons se_int (sa_cons se_str (sa_cons se_str (sa_cons (se_tup sa_nil) (sa_cons (se_lst sa_nil) (sa_cons se_dct0 (sa_cons (se_tup (sa_cons se_str sa_nil)) (sa_cons (se_lst (sa_cons se_str (sa_cons se_int sa_nil))) (sa_cons (se_tup (sa_cons se_int (sa_cons se_int (sa_cons se_int sa_nil)))) (sa_cons se_str (sa_cons se_int (sa_cons se_str (sa_cons (se_tup (sa_cons (se_var 2) (sa_cons (se_var 2) sa_nil))) sa_nil)))))))))))))))))))
    (sb_one (ss_ret (se_ix q (se_var 3) (se_call q (IH .f__law_pick) (by rfl) (sa_cons (se_var 0) (sa_cons se_int sa_nil))))))))⟩
theorem S__law_told : FnScope N__law_told ["_law_act"] (defScope s__law_told) := ⟨rfl, rfl, rfl, by decide +kernel, rfl, by decide +kernel, by decide +kernel⟩
theorem b__law_told (C : Cn wd K mg) {Gx : Fn → Fn1} (IH : ∀ f, Fnc P wd K mg base n (nm f) (ar f) (Gx f)) : Fnc P wd K mg base (n + 1) "_law_told" 1 (gOf 1 1 (m__law_told Gx)) := by
  obtain ⟨fa, fd, F, hm, hb⟩ := C.d__law_told.ex
  exact fnc_of (N := N__law_told) (m := m__law_told Gx) F S__law_told hm hb fun cdv A outer s H E => ⟨_, fun B q0 => have q := q0.q
    (sb_one ss_dead)⟩
theorem all_fnc (C : Cn wd K mg) (Er : Ce P K mg) : ∀ (n : Nat) (f : Fn), Fnc P wd K mg base n (nm f) (ar f) (G n f)
  | 0, f => by
    cases f with
    | f_copied => exact z_of C.d_copied
    | f_is_letter => exact z_of C.d_is_letter
    | f_is_word => exact z_of C.d_is_word
    | f_is_number => exact z_of C.d_is_number
    | f_is_tuple => exact z_of C.d_is_tuple
    | f_are_different => exact z_of C.d_are_different
    | f_is_lot => exact z_of C.d_is_lot
    | f_has_form => exact z_of C.d_has_form
    | f_form_path => exact z_of C.d_form_path
    | f_tuples_in => exact z_of C.d_tuples_in
    | f_count_of => exact z_of C.d_count_of
    | f_type_fault => exact z_of C.d_type_fault
    | f_check_type => exact z_of C.d_check_type
    | f_listed => exact z_of C.d_listed
    | f_part_fault => exact z_of C.d_part_fault
    | f_value_fault => exact z_of C.d_value_fault
    | f_place_in => exact z_of C.d_place_in
    | f_values_of => exact z_of C.d_values_of
    | f_many => exact z_of C.d_many
    | f_value_at => exact z_of C.d_value_at
    | f_is_value => exact z_of C.d_is_value
    | f_place_of => exact z_of C.d_place_of
    | f__law_pick => exact z_of C.d__law_pick
    | f__law_any_order => exact z_of C.d__law_any_order
    | f__law_values => exact z_of C.d__law_values
    | f__law_wide_type => exact z_of C.d__law_wide_type
    | f__law_tuples => exact z_of C.d__law_tuples
    | f__law_small_type => exact z_of C.d__law_small_type
    | f__law_wrong_value => exact z_of C.d__law_wrong_value
    | f__law_odd_value => exact z_of C.d__law_odd_value
    | f__law_told => exact z_of C.d__law_told
  | n + 1, f => by
    have ih := all_fnc C Er n
    cases f with
    | f_copied => exact b_copied C ih
    | f_is_letter => exact b_is_letter C ih
    | f_is_word => exact b_is_word C ih
    | f_is_number => exact b_is_number C ih
    | f_is_tuple => exact b_is_tuple C ih
    | f_are_different => exact b_are_different C ih
    | f_is_lot => exact b_is_lot C ih
    | f_has_form => exact b_has_form C ih
    | f_form_path => exact b_form_path C ih
    | f_tuples_in => exact b_tuples_in C ih
    | f_count_of => exact b_count_of C ih
    | f_type_fault => exact b_type_fault C ih
    | f_check_type => exact b_check_type C Er ih
    | f_listed => exact b_listed C ih
    | f_part_fault => exact b_part_fault C ih
    | f_value_fault => exact b_value_fault C ih
    | f_place_in => exact b_place_in C ih
    | f_values_of => exact b_values_of C ih
    | f_many => exact b_many C ih
    | f_value_at => exact b_value_at C ih
    | f_is_value => exact b_is_value C ih
    | f_place_of => exact b_place_of C Er ih
    | f__law_pick => exact b__law_pick C ih
    | f__law_any_order => exact b__law_any_order C ih
    | f__law_values => exact b__law_values C ih
    | f__law_wide_type => exact b__law_wide_type C ih
    | f__law_tuples => exact b__law_tuples C ih
    | f__law_small_type => exact b__law_small_type C ih
    | f__law_wrong_value => exact b__law_wrong_value C ih
    | f__law_odd_value => exact b__law_odd_value C ih
    | f__law_told => exact b__law_told C ih
theorem bn_listed (C : Cn wd K mg) {Gx : Fn → Fn1} (IH : ∀ f, Fnc P wd K mg base n (nm f) (ar f) (Gx f)) : FncN P wd K mg base (n + 1) "listed" 1 (gOf 1 4 (m_listed Gx)) := by
  obtain ⟨fa, fd, F, hm, hb⟩ := C.d_listed.ex
  exact fnc_ofN (N := N_listed) (m := m_listed Gx) F S_listed hm hb fun cdv A outer s H E => ⟨_, fun B q0 => have q := q0.q
    (sbn_cons (ssn_if (st_eq q (se_ix q (se_var 0) se_int) se_str) (sbn_cons (ssn_of (ss_set q (se_call q (IH .f_listed) (by rfl) (sa_cons (se_ix q (se_var 0) se_int) sa_nil))) noRt_set)
    (sbn_one (ssn_ret (sn_lc2 (own := [("first", 2), ("second", 3)]) (own1 := [3]) q (si_seq q (se_call q (IH .f_listed) (by rfl) (sa_cons (se_ix q (se_var 0) se_int) sa_nil))) (blkOk_by (N := N_listed) (sc := defScope s_listed) (by decide +kernel)) (fun _ _ _ _ _ B2 HK => (sg_name 2 q.nd)) (fun _ _ _ _ _ B2 HK q => sf_nil) (fun _ _ _ _ _ B2 HK q => (si_seq q (se_var 1))) (fun _ _ _ _ _ B2 HK => (sg_name 3 q.nd)) (fun _ _ _ _ _ B2 HK q => sf_nil) (fun _ _ _ _ _ B2 HK q => (se_tup (sa_cons (se_var 2) (sa_cons (se_var 3) sa_nil))))) same_lst))) sbn_nil)
    (sbn_cons (ssn_if (st_eq q (se_ix q (se_var 0) se_int) se_str) (sbn_one (ssn_ret (sn_list q (by rfl) C.z_list (se_ix q (se_var 0) se_int)) same_list)) sbn_nil)
    (sbn_one (ssn_ret (sn_lrange1 q (by rfl) C.z_list (by rfl) C.z_range (se_ix q (se_var 0) se_int)) same_lst))))⟩
theorem nw_listed (C : Cn wd K mg) (Er : Ce P K mg) : ∀ n : Nat, FncN P wd K mg base n "listed" 1 (G n .f_listed)
  | 0 => zN_of C.d_listed
  | n + 1 => bn_listed C (all_fnc C Er n) 
theorem bn_values_of (C : Cn wd K mg) {Gx : Fn → Fn1} (IH : ∀ f, Fnc P wd K mg base n (nm f) (ar f) (Gx f)) (IHN_listed : FncN P wd K mg base n "listed" 1 (Gx .f_listed)) : FncN P wd K mg base (n + 1) "values_of" 1 (gOf 1 1 (m_values_of Gx)) := by
  obtain ⟨fa, fd, F, hm, hb⟩ := C.d_values_of.ex
  exact fnc_ofN (N := N_values_of) (m := m_values_of Gx) F S_values_of hm hb fun cdv A outer s H E => ⟨_, fun B q0 => have q := q0.q
    (sbn_cons (ssn_of (ss_expr (se_call q (IH .f_check_type) (by rfl) (sa_cons (se_var 0) sa_nil))) noRt_drop)
    (sbn_one (ssn_retCall q IHN_listed (by rfl) (sa_cons (se_var 0) sa_nil))))⟩
theorem nw_values_of (C : Cn wd K mg) (Er : Ce P K mg) : ∀ n : Nat, FncN P wd K mg base n "values_of" 1 (G n .f_values_of)
  | 0 => zN_of C.d_values_of
  | n + 1 => bn_values_of C (all_fnc C Er n) (nw_listed C Er n)
theorem S__law_open_cells : FnScope N__law_open_cells ["_law_script"] (defScope s__law_open_cells) := ⟨rfl, rfl, rfl, by decide +kernel, rfl, by decide +kernel, by decide +kernel⟩
theorem open_mk (C : Cn wd K mg) : ∃ (f : Addr) (fd : FuncData), mg "_law_open_cells" = some (.ref f) ∧ PySem.W.keepIn K (.ref f) = true ∧ Binds K fd ["_law_script"] [] ∧ FnOk P wd K mg base (L2.CX P wd) (n + 1) f fd ["_law_script"] (spOpen K) := by
  obtain ⟨fa, fd, F, hm, hb⟩ := C.d__law_open_cells.ex
  exact ⟨fa, fd, hm, F.kp, hb, open_ok (N := N__law_open_cells) F S__law_open_cells rfl rfl fun cdv A outer s H E B q0 => have q := q0.q
    ⟨⟨_, (ss_set q se_int)⟩, ⟨_, (ss_for q q0.pw (si_seq q (se_var 0)) (sg_name 2 q.nd) (sb_one (ss_set q (se_mod (se_int1 (by rfl) C.z_int (sa_cons (se_add q (se_add q (se_mul (se_var 1) se_int) (se_mul (se_var 2) se_int)) se_int) sa_nil)) se_int))))⟩, ⟨_, (ss_setLc (hsw := sw_true rfl rfl rfl (by decide +kernel)) (own := [("_law_cell", 2)]) q (si_seq q (se_var 0)) (blkOk_by (N := N__law_open_cells) (sc := defScope s__law_open_cells) (by decide +kernel)) (fun _ _ _ _ _ B2 HK => (sg_name 2 q.nd)) (fun _ _ _ _ _ B2 HK q => sf_nil) (fun _ _ _ _ _ B2 HK q => (se_abs (by rfl) C.z_abs (sa_cons (se_var 2) sa_nil))))⟩, ps_ret (pe_disp (pps_cons pe_str (pe_revL (pe_var (i := 3) rfl (Or.inl rfl))) (pps_cons pe_str pe_int (pps_cons pe_str (pe_var (i := 1) rfl (Or.inl rfl)) (pps_cons pe_str pe_int pps_nil)))) rfl rfl (fun h => nomatch h) (by decide))⟩⟩
theorem S_law : FnScope N_law ["_law_script"] (defScope s_law) := ⟨rfl, rfl, rfl, by decide +kernel, rfl, by decide +kernel, by decide +kernel⟩
theorem law_run {f c Pt : Addr} {fd : FuncData} (C : Cn wd K mg) (Er : Ce P K mg) (T__law_told : GivM P wd K mg base "_law_told" (TT2k K Ca.a_BadValue Ca.a_BadType "fine" "value" "path" "kind" "path")) (hx_BadType : PySem.W.exmOne K (.ref Ca.a_BadType) (.ref Ca.a_BadType) = some true) (hx_BadValue : PySem.W.exmOne K (.ref Ca.a_BadValue) (.ref Ca.a_BadValue) = some true) (hy_BadType_BadValue : PySem.W.exmOne K (.ref Ca.a_BadType) (.ref Ca.a_BadValue) = some false) (hcode : fd.code = .ref c) (TB : LamX.TabB base mg c Pt) (hmT : (Pt, (("law" : Str) ++ ".<locals>.") ++ "<lambda>") ∈ Tbs.T) (huT : ∀ p ∈ Tbs.T, p.1 = Pt → p.2 = (("law" : Str) ++ ".<locals>.") ++ "<lambda>") (F : Fun K "law" "law" s_law f fd) (hbind : ∀ (s : Shared) (v : Value), BindsTo s fd ⟨[v], []⟩ [("_law_script", v)]) (hr0 : Room (n + 4) callerA) (T : Ca.a_BadType ≠ Ca.a_BadValue → Told N_law.length 1 (m_law (G n) (GL n))) (s : Shared) (H : Hp) (a : Addr) (ns : List Int) (hl : ns.length ≤ 63) (htb : ∀ p ∈ Tbs.T, H p.1 = some (.tbl #[])) (e0 : Env0 P wd K mg base callerA [] s H) (hs : SqL K H a (ns.map V.int)) : codeAny (model P wd) callerA (.call (.ref f) ⟨[.ref a], []⟩) (CR (L2.CX P wd) [] P wd H s (fun v _ => v = V.bl true) fun _ _ _ => False) s := by
  have IHl := all_fnc (P := P) (base := base) C Er n
  have IH : ∀ f, Fnc P wd K mg base (n + 3) (nm f) (ar f) (GL n f) := fun f => by
    cases f with
    | f_copied => exact (all_fnc C Er (n + 2) .f_copied).up (Nat.le_succ _)
    | f_is_letter => exact (all_fnc C Er (n + 2) .f_is_letter).up (Nat.le_succ _)
    | f_is_word => exact (all_fnc C Er (n + 2) .f_is_word).up (Nat.le_succ _)
    | f_is_number => exact (all_fnc C Er (n + 2) .f_is_number).up (Nat.le_succ _)
    | f_is_tuple => exact (all_fnc C Er (n + 2) .f_is_tuple).up (Nat.le_succ _)
    | f_are_different => exact (all_fnc C Er (n + 2) .f_are_different).up (Nat.le_succ _)
    | f_is_lot => exact (all_fnc C Er (n + 2) .f_is_lot).up (Nat.le_succ _)
    | f_has_form => exact (all_fnc C Er (n + 2) .f_has_form).up (Nat.le_succ _)
    | f_form_path => exact (all_fnc C Er (n + 2) .f_form_path).up (Nat.le_succ _)
    | f_tuples_in => exact (all_fnc C Er (n + 2) .f_tuples_in).up (Nat.le_succ _)
    | f_count_of => exact (all_fnc C Er (n + 2) .f_count_of).up (Nat.le_succ _)
    | f_type_fault => exact (all_fnc C Er (n + 2) .f_type_fault).up (Nat.le_succ _)
    | f_check_type => exact (all_fnc C Er (n + 2) .f_check_type).up (Nat.le_succ _)
    | f_listed => exact (all_fnc C Er (n + 2) .f_listed).up (Nat.le_succ _)
    | f_part_fault => exact (all_fnc C Er (n + 2) .f_part_fault).up (Nat.le_succ _)
    | f_value_fault => exact (all_fnc C Er (n + 2) .f_value_fault).up (Nat.le_succ _)
    | f_place_in => exact (all_fnc C Er (n + 2) .f_place_in).up (Nat.le_succ _)
    | f_values_of => exact (all_fnc C Er (n + 2) .f_values_of).up (Nat.le_succ _)
    | f_many => exact (all_fnc C Er (n + 2) .f_many).up (Nat.le_succ _)
    | f_value_at => exact (all_fnc C Er (n + 2) .f_value_at).up (Nat.le_succ _)
    | f_is_value => exact (all_fnc C Er (n + 2) .f_is_value).up (Nat.le_succ _)
    | f_place_of => exact (all_fnc C Er (n + 2) .f_place_of).up (Nat.le_succ _)
    | f__law_pick => exact (all_fnc C Er (n + 2) .f__law_pick).up (Nat.le_succ _)
    | f__law_any_order => exact (all_fnc C Er (n + 2) .f__law_any_order).up (Nat.le_succ _)
    | f__law_values => exact (all_fnc C Er (n + 2) .f__law_values).up (Nat.le_succ _)
    | f__law_wide_type => exact (all_fnc C Er (n + 2) .f__law_wide_type).up (Nat.le_succ _)
    | f__law_tuples => exact (all_fnc C Er (n + 2) .f__law_tuples).up (Nat.le_succ _)
    | f__law_small_type => exact (all_fnc C Er (n + 2) .f__law_small_type).up (Nat.le_succ _)
    | f__law_wrong_value => exact (all_fnc C Er (n + 2) .f__law_wrong_value).up (Nat.le_succ _)
    | f__law_odd_value => exact (all_fnc C Er (n + 2) .f__law_odd_value).up (Nat.le_succ _)
    | f__law_told => exact (all_fnc C Er (n + 2) .f__law_told).up (Nat.le_succ _)
  have IHN_listed : FncN P wd K mg base (n + 3) "listed" 1 (GL n .f_listed) := (nw_listed (P := P) (base := base) C Er (n + 2)).up (Nat.le_succ _)
  have IHN_values_of : FncN P wd K mg base (n + 3) "values_of" 1 (GL n .f_values_of) := (nw_values_of (P := P) (base := base) C Er (n + 2)).up (Nat.le_succ _)
  obtain ⟨fo, fdo, mo, ko, bo, Fo⟩ := open_mk (P := P) (base := base) (n := n + 2) C
  exact law_okT (i := 1) (N := N_law) (m := m_law (G n) (GL n)) F S_law Fo hcode TB hmT huT hbind hr0 rfl rfl (by decide) (by decide)
    (fun cdv s H hr => ps_set S_law.nd rfl (by first | exact Or.inl rfl | exact Or.inr rfl) (pe_callS Fo hr (by rfl) mo ko bo (fun σ => passAt (W := fun _ _ _ _ => False) (takes_of rfl rfl rfl rfl) σ) (pa_cons (pe_var (i := 0) rfl (Or.inl rfl)) pa_nil)) rfl (by first | exact Or.inl rfl | exact Or.inr rfl))
    (fun cdv s H => ⟨_, fun B q0 qg LI => have q := q0.q
    (sb_cons (ss_for q q0.pw (si_range1 (by rfl) C.z_range (sa_cons se_int sa_nil)) (sg_name 2 q.nd) (sb_cons (ss_set q (se_call q (IH .f__law_small_type) (by rfl) (sa_cons (se_var 1) sa_nil)))
    (sb_cons (ss_set q (se_call q (IH .f__law_values) (by rfl) (sa_cons (se_var 3) sa_nil)))
    (sb_cons (ss_for q q0.pw (si_range1 (by rfl) C.z_range (sa_cons se_int sa_nil)) (sg_name 5 q.nd) (sb_cons (ss_setN q (sn_call q IHN_values_of (by rfl) (sa_cons (se_var 3) sa_nil)))
    (sb_cons (ss_if (st_w (sw_or (st_ne q (se_repro qg q (by rfl) C.z_repr) (se_repr qg q (by rfl) C.z_repr (sa_cons (se_var 4) sa_nil))) (sw_or1 (st_ne q (se_call q (IH .f_many) (by rfl) (sa_cons (se_var 3) sa_nil)) (se_len q (by rfl) C.z_len (sa_cons (se_var 4) sa_nil)))))) (sb_one (ss_ret se_bl)) sb_nil)
    (sb_one (ss_expr (se_clear q))))))
    (sb_cons (ss_for q q0.pw (si_enum q (by rfl) C.z_enumerate (sa_cons (se_var 4) sa_nil)) (sg_tup q.hX q.hK q.calm (sgs_cons (sg_name 6 q.nd) (sgs_cons (sg_name 7 q.nd) sgs_nil))) (sb_cons (ss_if (st_w (sw_or (st_ne q (se_call q (IH .f_place_of) (by rfl) (sa_cons (se_var 3) (sa_cons (se_var 7) sa_nil))) (se_var 6)) (sw_or1 (st_ne q (se_repr qg q (by rfl) C.z_repr (sa_cons (se_call q (IH .f_value_at) (by rfl) (sa_cons (se_var 3) (sa_cons (se_var 6) sa_nil))) sa_nil)) (se_repr qg q (by rfl) C.z_repr (sa_cons (se_var 7) sa_nil)))))) (sb_one (ss_ret se_bl)) sb_nil)
    (sb_one (ss_if (st_isnotB (se_call q (IH .f_is_value) (by rfl) (sa_cons (se_var 3) (sa_cons (se_var 7) sa_nil))) se_bl) (sb_one (ss_ret se_bl)) sb_nil))))
    (sb_cons (ss_for q q0.pw (si_range1 (by rfl) C.z_range (sa_cons se_int sa_nil)) (sg_name 8 q.nd) (sb_cons (ss_set q (se_call q (IH .f__law_odd_value) (by rfl) (sa_cons (se_var 1) (sa_cons (se_var 3) (sa_cons (se_ix q (se_var 4) (se_call q (IH .f__law_pick) (by rfl) (sa_cons (se_var 1) (sa_cons (se_len q (by rfl) C.z_len (sa_cons (se_var 4) sa_nil)) sa_nil)))) sa_nil)))))
    (sb_cons (ss_par q (sa_cons (se_call q (IH .f__law_wrong_value) (by rfl) (sa_cons (se_var 3) (sa_cons (se_var 13) sa_nil))) (sa_cons (se_repr qg q (by rfl) C.z_repr (sa_cons (se_var 13) sa_nil)) sa_nil)))
    (sb_cons (ss_set q (se_if (st_isnot (se_var 10) se_non) (se_tup (sa_cons se_str (sa_cons (se_var 10) sa_nil))) (se_tup (sa_cons se_str (sa_cons (se_ixm q (se_var 4) (sa_cons (se_var 13) sa_nil)) sa_nil)))))
    (sb_cons (ss_if (st_ne q (se_repr qg q (by rfl) C.z_repr (sa_cons (se_lam (k := n) q T__law_told LI (by rfl) (show LamX.LamS (defScope s_law) _ from LamX.lamS_by (by decide +kernel)) rfl (fun _ _ _ _ _ => rfl) (by omega) (sim_told2K (by decide +kernel) (by decide +kernel) (by decide +kernel) q.hK hx_BadValue hx_BadType hy_BadType_BadValue) (fun A1 o1 s1 H1 E1 f1 c1 q => (se_call q (IHl .f_place_of) (by rfl) (sa_cons (se_var 3) (sa_cons (se_var 13) sa_nil))))) sa_nil)) (se_repr qg q (by rfl) C.z_repr (sa_cons (se_var 15) sa_nil))) (sb_one (ss_ret se_bl)) sb_nil)
    (sb_one (ss_if (st_w (sw_or (st_ne q (se_repr qg q (by rfl) C.z_repr (sa_cons (se_call q (IH .f_is_value) (by rfl) (sa_cons (se_var 3) (sa_cons (se_var 13) sa_nil))) sa_nil)) (se_repr qg q (by rfl) C.z_repr (sa_cons (se_is (se_var 10) se_non) sa_nil))) (sw_or1 (st_ne q (se_repr qg q (by rfl) C.z_repr (sa_cons (se_var 13) sa_nil)) (se_var 14))))) (sb_one (ss_ret se_bl)) sb_nil)))))))
    (sb_cons (ss_set q (se_lst (sa_cons se_non (sa_cons (se_tup (sa_cons se_str (sa_cons se_int sa_nil))) (sa_cons (se_tup (sa_cons se_str (sa_cons (se_tup (sa_cons se_str (sa_cons se_int sa_nil))) (sa_cons (se_tup (sa_cons se_str (sa_cons (se_tup (sa_cons se_str sa_nil)) sa_nil))) sa_nil)))) (sa_cons (se_lst (sa_cons se_str (sa_cons se_int sa_nil))) sa_nil))))))
    (sb_cons (ss_set q (se_ix q (se_add q (se_var 9) (se_lst (sa_cons (se_tup (sa_cons se_str (sa_cons (se_tup (sa_cons se_str (sa_cons se_int sa_nil))) (sa_cons (se_tup (sa_cons se_str (sa_cons se_int sa_nil))) sa_nil)))) sa_nil))) (se_call q (IH .f__law_pick) (by rfl) (sa_cons (se_var 1) (sa_cons se_int sa_nil)))))
    (sb_cons (ss_set q (se_if (st_w (sw_and (st_isnot (se_var 9) se_non) (sw_and (st_eq q (se_ix q (se_var 9) se_int) se_str) (sw_and1 (st_eq q (se_ix q (se_ix q (se_var 9) se_int) se_int) se_str))))) (se_tup (sa_cons se_int sa_nil)) (se_tup sa_nil)))
    (sb_cons (ss_setN q (sn_lst (sa_cons (se_lam (k := n) q T__law_told LI (by rfl) (show LamX.LamS (defScope s_law) _ from LamX.lamS_by (by decide +kernel)) rfl (fun _ _ _ _ _ => rfl) (by omega) (sim_told2K (by decide +kernel) (by decide +kernel) (by decide +kernel) q.hK hx_BadValue hx_BadType hy_BadType_BadValue) (fun A1 o1 s1 H1 E1 f1 c1 q => (se_call q (IHl .f_place_of) (by rfl) (sa_cons (se_var 9) (sa_cons se_non sa_nil))))) sa_nil)))
    (sb_cons (ss_expr (se_append q (sa_cons (se_lam (k := n) q T__law_told LI (by rfl) (show LamX.LamS (defScope s_law) _ from LamX.lamS_by (by decide +kernel)) rfl (fun _ _ _ _ _ => rfl) (by omega) (sim_told2K (by decide +kernel) (by decide +kernel) (by decide +kernel) q.hK hx_BadValue hx_BadType hy_BadType_BadValue) (fun A1 o1 s1 H1 E1 f1 c1 q => (se_call q (IHl .f_value_at) (by rfl) (sa_cons (se_var 9) (sa_cons se_int sa_nil))))) sa_nil)))
    (sb_cons (ss_expr (se_append q (sa_cons (se_lam (k := n) q T__law_told LI (by rfl) (show LamX.LamS (defScope s_law) _ from LamX.lamS_by (by decide +kernel)) rfl (fun _ _ _ _ _ => rfl) (by omega) (sim_told2K (by decide +kernel) (by decide +kernel) (by decide +kernel) q.hK hx_BadValue hx_BadType hy_BadType_BadValue) (fun A1 o1 s1 H1 E1 f1 c1 q => (se_call q (IHl .f_is_value) (by rfl) (sa_cons (se_var 9) (sa_cons se_int sa_nil))))) sa_nil)))
    (sb_cons (ss_expr (se_append q (sa_cons (se_lam (k := n) q T__law_told LI (by rfl) (show LamX.LamS (defScope s_law) _ from LamX.lamS_by (by decide +kernel)) rfl (fun _ _ _ _ _ => rfl) (by omega) (sim_told2K (by decide +kernel) (by decide +kernel) (by decide +kernel) q.hK hx_BadValue hx_BadType hy_BadType_BadValue) (fun A1 o1 s1 H1 E1 f1 c1 q => (se_call q (IHl .f_values_of) (by rfl) (sa_cons (se_var 9) sa_nil)))) sa_nil)))
    (sb_one (ss_if (st_ne q (se_var 11) (se_mul (se_lst (sa_cons (se_tup (sa_cons se_str (sa_cons (se_var 10) sa_nil))) sa_nil)) se_int)) (sb_one (ss_ret se_bl)) sb_nil)))))))))))))))
    (sb_one (ss_ret se_bl)))⟩) (T fun z => by have h1 := hy_BadType_BadValue; rw [z, hx_BadValue] at h1; cases h1) s H a ns hl htb e0 hs
theorem giv__law_told (D : Df K mg "_law_told" s__law_told ["_law_act"]) (hme_BadValue : mg "BadValue" = some (.ref Ca.a_BadValue)) (T_BadValue : XfC K Ca.a_BadValue) (hno_BadValue : PySem.W.findIn K (.ref Ca.a_BadValue) "path" = some none) (hme_BadType : mg "BadType" = some (.ref Ca.a_BadType)) (T_BadType : XfC K Ca.a_BadType) (hno_BadType : PySem.W.findIn K (.ref Ca.a_BadType) "path" = some none) : GivM P wd K mg base "_law_told" (TT2k K Ca.a_BadValue Ca.a_BadType "fine" "value" "path" "kind" "path") := by
  obtain ⟨f, fd, F, hm, hb⟩ := D.ex
  have S : FnScope ["_law_act", "e"] ["_law_act"] (defScope s__law_told) := ⟨rfl, rfl, rfl, by decide +kernel, rfl, by decide +kernel, by decide +kernel⟩
  refine ⟨"_law_act", f, s__law_told, fd, ["_law_act", "e"], by decide, by decide, hm, F, hb, S, rfl, Or.inl rfl, fun X q cdg e1 e2 e3 e4 e5 => ?_⟩
  subst e1 e2 e3 e4 e5
  exact told2_k (i := 1) rfl rfl hme_BadValue hme_BadType (by decide) (by decide) (fun _ => rfl) rfl S.nd rfl T_BadValue T_BadType hno_BadValue hno_BadType (by decide) (by decide)
/-- what the head leaves to be shown -/
theorem fin {h : Heap} {fa : Addr} (C : Cn wd K mg) (Er : Ce P K mg) (Dp__law_told : Df K mg "_law_told" s__law_told ["_law_act"]) (xf_BadType : XfC K Ca.a_BadType) (xf_BadValue : XfC K Ca.a_BadValue) (hx_BadType : PySem.W.exmOne K (.ref Ca.a_BadType) (.ref Ca.a_BadType) = some true) (hx_BadValue : PySem.W.exmOne K (.ref Ca.a_BadValue) (.ref Ca.a_BadValue) = some true) (hy_BadType_BadValue : PySem.W.exmOne K (.ref Ca.a_BadType) (.ref Ca.a_BadValue) = some false) {c_law P_law : Addr} (D_law : DfC K mg "law" s_law ["_law_script"] c_law) (hd_law : PySem.W.codeHdIn K c_law P_law = true) (hn_law : K.lookup P_law = none) (hp_law : h.get? P_law = some { cls := .none, data := .fields #[] }) (hT : Tbs.T = [(P_law, (("law" : Str) ++ ".<locals>.") ++ "<lambda>")]) (XK : K.In h) (hmg : mg "law" = some (.ref fa)) (hr0 : Room (n + 4) callerA) (T : Ca.a_BadType ≠ Ca.a_BadValue → Told N_law.length 1 (m_law (G n) (GL n))) : ∃ cs : List (Addr × Addr), TabsAt h cs ∧ (∀ p ∈ cs, K.lookup p.2 = none) ∧ (∀ p ∈ cs, PySem.W.CodeHd h p.1 p.2) ∧ ∀ base : Heap, K.In base → base.Ns mainGlobals mg → (∀ p ∈ cs, LamX.TabB base mg p.1 p.2) → ∀ (s : Shared) (H : Hp) (a : Addr) (ns : List Int), ns.length ≤ 63 → (∀ p ∈ cs, H p.2 = some (.tbl #[])) → Env0 P wd K mg base callerA [] s H → SqL K H a (ns.map V.int) → codeAny (model P wd) callerA (.call (.ref fa) ⟨[.ref a], []⟩) (CR (L2.CX P wd) [] P wd H s (fun v _ => v = V.bl true) fun _ _ _ => False) s := by
  obtain ⟨f, fd, F, hm, hb, hcode⟩ := D_law.ex
  cases hmg.symm.trans hm
  refine ⟨[(c_law, P_law)], (List.forall_mem_cons.mpr ⟨hp_law, fun _ z => (nomatch z)⟩), (List.forall_mem_cons.mpr ⟨hn_law, fun _ z => (nomatch z)⟩), (List.forall_mem_cons.mpr ⟨PySem.W.codeHd_of_K XK hd_law, fun _ z => (nomatch z)⟩), fun base KB NB TB s H a ns hl htb e0 hs => ?_⟩
  have hm_law : (P_law, (("law" : Str) ++ ".<locals>.") ++ "<lambda>") ∈ Tbs.T := by rw [hT]; simp
  have hu_law : ∀ p ∈ Tbs.T, p.1 = P_law → p.2 = (("law" : Str) ++ ".<locals>.") ++ "<lambda>" := by
    rw [hT]
    intro p hp e
    simp only [List.mem_cons, List.not_mem_nil, or_false] at hp
    rw [hp]
  have TB_law : LamX.TabB base mg c_law P_law := TB (c_law, P_law) (by simp)
  have htb2 : ∀ p ∈ Tbs.T, H p.1 = some (.tbl #[]) := by
    rw [hT]
    exact (List.forall_mem_cons.mpr ⟨htb (c_law, P_law) (by simp), fun _ z => (nomatch z)⟩)
  exact law_run C Er (giv__law_told Dp__law_told Er.x_BadValue.hm xf_BadValue Er.x_BadValue.hno Er.x_BadType.hm xf_BadType Er.x_BadType.hno) hx_BadType hx_BadValue hy_BadType_BadValue  hcode TB_law hm_law hu_law F (by
    obtain ⟨oc, od, kV, doc, pm, an, cdv, ct, osl, e, _⟩ := F.ex
    subst e
    exact fun s v => .of_eq rfl) hr0 T s H a ns hl htb2 e0 hs
end
end KX
namespace KX
open PySem PySem.Spec PyProof.Rows L2 RZ StX DL
/-- the same, all addresses by names -/
theorem fin2 {P : Program} {wd : World} {K : PySem.W.Frag} {mg : Str → Option Value} {n : Nat} {h : Heap} {fa : Addr} {a_BadType a_BadValue : Addr} (XK : K.In h) (C : @Cn wd K mg) (xI_BadType : ErrI P K mg "BadType" a_BadType "path") (xf_BadType : XfC K a_BadType) (xI_BadValue : ErrI P K mg "BadValue" a_BadValue "path") (xf_BadValue : XfC K a_BadValue) (hx_BadType : PySem.W.exmOne K (.ref a_BadType) (.ref a_BadType) = some true) (hx_BadValue : PySem.W.exmOne K (.ref a_BadValue) (.ref a_BadValue) = some true) (hy_BadType_BadValue : PySem.W.exmOne K (.ref a_BadType) (.ref a_BadValue) = some false) (Dp__law_told : Df K mg "_law_told" s__law_told ["_law_act"]) {c_law P_law : Addr} (D_law : DfC K mg "law" s_law ["_law_script"] c_law) (hd_law : PySem.W.codeHdIn K c_law P_law = true) (hn_law : K.lookup P_law = none) (hp_law : h.get? P_law = some { cls := .none, data := .fields #[] }) (hmg : mg "law" = some (.ref fa)) (hr0 : Room (n + 4) callerA) (T : ∀ [Tbs] [Ca], Ca.a_BadType ≠ Ca.a_BadValue → Told N_law.length 1 (m_law (G n) (GL n))) : ∃ cs : List (Addr × Addr), TabsAt h cs ∧ (∀ p ∈ cs, K.lookup p.2 = none) ∧ (∀ p ∈ cs, PySem.W.CodeHd h p.1 p.2) ∧ ∀ base : Heap, K.In base → base.Ns mainGlobals mg → (∀ p ∈ cs, LamX.TabB base mg p.1 p.2) → ∀ (s : Shared) (H : Hp) (a : Addr) (ns : List Int), ns.length ≤ 63 → (∀ p ∈ cs, H p.2 = some (.tbl #[])) → Env0 P wd K mg base callerA [] s H → SqL K H a (ns.map V.int) → codeAny (model P wd) callerA (.call (.ref fa) ⟨[.ref a], []⟩) (CR (L2.CX P wd) [] P wd H s (fun v _ => v = V.bl true) fun _ _ _ => False) s :=
  letI t0 : Tbs := ⟨[(P_law, (("law" : Str) ++ ".<locals>.") ++ "<lambda>")]⟩
  letI c0 : Ca := ⟨a_BadType, a_BadValue⟩
  fin C ⟨xI_BadType, xI_BadValue⟩ Dp__law_told xf_BadType xf_BadValue hx_BadType hx_BadValue hy_BadType_BadValue D_law hd_law hn_law hp_law  rfl XK hmg hr0 T
end KX
set_option Elab.async false
set_option linter.all false
set_option maxRecDepth 100000
set_option maxHeartbeats 4000001
/-! DLP: what drawing comes to. -/
namespace DL
open PySem PyProof.Rows PySem.Spec L2 RZ StX
variable [Tbs]
/-- a source that stands at sa, its cells at ca -/
structure Sok (sa ca : Addr) (s : Src) : Prop where
  sa : s.sa = sa
  ca : s.ca = ca
  few : s.cells.length ≤ 63
def pickC : M Bool := mAnd (mBinT ltD (mSrc 0 .left) (ret (.int 2))) (mBinT gtD (mClen 2) (ret (.int 0)))
def pickB : M Fl := mPut 0 .left (mCpop 2)
def pickM : M Fl := (mSeq (mIte (mBinT ltD (getS 1) (ret (.int 2))) (mRet (ret (.int 0))) (ret .nx)) (mSeq (mSet 2 (mSrc 0 .cells)) (mSeq (whileL pickC pickB 100) (mSeq (mSet 3 (mSrc 0 .left)) (mSeq (mIte (mBinT gtD (getS 3) (ret (.int 1))) (mSeq (mPut 0 .left (mBin fdivD (getS 3) (getS 1))) (mRet (mBin modD (bnd (mCons (getS 3) mNil) fun ds => lft (int1D ds)) (getS 1)))) (ret .nx)) (mSeq (mPut 0 .turn (mBin addD (mSrc 0 .turn) (ret (.int 1)))) (mSeq (mSet 4 (mSrc 0 .turn)) (mSeq (mSet 5 (mBin modD (bnd (mCons (mBin addD (mSrc 0 .mixed) (mBin mulD (getS 4) (ret (.int 104729)))) mNil) fun ds => lft (int1D ds)) (ret (.int 998244353)))) (mSeq (mSet 5 (mBin modD (bnd (mCons (mBin addD (mBin mulD (getS 5) (getS 5)) (mBin mulD (getS 4) (ret (.int 17)))) mNil) fun ds => lft (int1D ds)) (ret (.int 2147483647)))) (mRet (mBin modD (bnd (mCons (mBin fdivD (getS 5) (ret (.int 16))) mNil) fun ds => lft (int1D ds)) (getS 1))))))))))))
theorem pickC_run {sa ca : Addr} {s : Src} (h1 : s.sa = sa) (h2 : s.ca = ca) (m : Int) (a b c : Slot) : pickC [.val (.raw (.ref sa)), .val (.int m), .val (.raw (.ref ca)), a, b, c] (some s) =
    some (.ok (decide (s.left < 2) && decide (0 < s.cells.length)) [.val (.raw (.ref sa)), .val (.int m), .val (.raw (.ref ca)), a, b, c] (some s)) := by
  subst h1 h2
  by_cases h : s.left < 2
  · simp [pickC, mAnd, mBinT, bnd, mSrc, isSrc, mClen, isCel, Fd.d, cmpD, asB, ret, h]
  · simp [pickC, mAnd, mBinT, bnd, mSrc, isSrc, mClen, isCel, Fd.d, cmpD, asB, ret, h]
theorem pickB_run {sa ca : Addr} {s : Src} (h1 : s.sa = sa) (h2 : s.ca = ca) (m : Int) (a b c : Slot) {x : Int} (hx : s.cells[s.cells.length - 1]? = some x) : pickB [.val (.raw (.ref sa)), .val (.int m), .val (.raw (.ref ca)), a, b, c] (some s) =
    some (.ok .nx [.val (.raw (.ref sa)), .val (.int m), .val (.raw (.ref ca)), a, b, c] (some { s with cells := s.cells.dropLast, left := x })) := by
  subst h1 h2
  simp [pickB, mPut, bnd, mCpop, isCel, isSrc, kInt, Fd.put, hx]
theorem pickW_run {sa ca : Addr} (m : Int) (a b c : Slot) : ∀ (f : Nat) (s : Src), Sok sa ca s → s.cells.length < f → ∃ s', Sok sa ca s' ∧ whileL pickC pickB f [.val (.raw (.ref sa)), .val (.int m), .val (.raw (.ref ca)), a, b, c] (some s) =
    some (.ok .nx [.val (.raw (.ref sa)), .val (.int m), .val (.raw (.ref ca)), a, b, c] (some s'))
  | 0, s, _, h => absurd h (Nat.not_lt_zero _)
  | f + 1, s, k, h => by
    unfold whileL
    rw [pickC_run k.sa k.ca]
    by_cases hb : (decide (s.left < 2) && decide (0 < s.cells.length)) = true
    · rw [hb]
      rw [Bool.and_eq_true] at hb
      have hl : 0 < s.cells.length := of_decide_eq_true hb.2
      have hx : s.cells[s.cells.length - 1]? = some s.cells[s.cells.length - 1] := List.getElem?_eq_getElem (by omega)
      obtain ⟨s', k', e⟩ := pickW_run m a b c f { s with cells := s.cells.dropLast, left := s.cells[s.cells.length - 1] } ⟨k.sa, k.ca, by show s.cells.dropLast.length ≤ 63; rw [List.length_dropLast]; have := k.few; omega⟩ (by show s.cells.dropLast.length < f; rw [List.length_dropLast]; omega)
      refine ⟨s', k', ?_⟩
      dsimp only
      rw [pickB_run k.sa k.ca m a b c hx]
      exact e
    · rw [Bool.not_eq_true] at hb
      rw [hb]
      exact ⟨s, k, rfl⟩
theorem ite_run {mc : M Bool} {m k : M Fl} {ρ ρ' : Rho} {w w' : Wo} {b : Bool} (h : mc ρ w = some (.ok b ρ' w')) : mIte mc m k ρ w = if b = true then m ρ' w' else k ρ' w' := by
  unfold mIte
  rw [bnd_ok h]
  cases b <;> rfl
theorem seq_rt {m k : M Fl} {ρ ρ' : Rho} {w w' : Wo} {d : D} (h : m ρ w = some (.ok (.rt d) ρ' w')) : mSeq m k ρ w = some (.ok (.rt d) ρ' w') := by
  unfold mSeq
  rw [bnd_ok h]
  rfl
/-- a drawn number: below most, or 0 -/
theorem pick_spec {sa ca : Addr} {s : Src} (h : Sok sa ca s) {m : Int} (hm : m < 1073741824) : ∃ (k : Nat) (s' : Src), Sok sa ca s' ∧ (k : Int) < max 1 m ∧ gOf 2 6 pickM [.raw (.ref sa), .int m] (some s) = some (.ok (.int k) (some s')) := by
  have hg : ∀ r : Option (Rs Fl), pickM [.val (.raw (.ref sa)), .val (.int m), .free, .free, .free, .free] (some s) = r → gOf 2 6 pickM [.raw (.ref sa), .int m] (some s) = (match r with
    | some (.ok .nx _ w') => some (.ok .non w')
    | some (.ok (.rt d) _ w') => some (.ok d w')
    | some (.exc x _ w') => some (.exc x w')
    | _ => none) := fun r e => by
    subst e
    rfl
  by_cases h2 : m < 2
  · refine ⟨0, s, h, by omega, ?_⟩
    have e : pickM [.val (.raw (.ref sa)), .val (.int m), .free, .free, .free, .free] (some s) = some (.ok (.rt (.int 0)) [.val (.raw (.ref sa)), .val (.int m), .free, .free, .free, .free] (some s)) := by
      unfold pickM
      refine seq_rt ((ite_run (b := true) (ρ' := [.val (.raw (.ref sa)), .val (.int m), .free, .free, .free, .free]) (w' := some s) ?_).trans rfl)
      simp [mBinT, bnd, getS, ret, cmpD, asB, h2]
    rw [hg _ e]
    rfl
  · have hs2 : mSet 2 (mSrc 0 .cells) [.val (.raw (.ref sa)), .val (.int m), .free, .free, .free, .free] (some s) = some (.ok .nx [.val (.raw (.ref sa)), .val (.int m), .val (.raw (.ref ca)), .free, .free, .free] (some s)) := by
      obtain ⟨g1, g2, _⟩ := h
      subst g1 g2
      simp [mSet, bnd, mSrc, isSrc, Fd.d, setS]
    obtain ⟨s1, k1, e1⟩ := pickW_run m .free .free .free 100 s h (by have := h.few; omega)
    have first : pickM [.val (.raw (.ref sa)), .val (.int m), .free, .free, .free, .free] (some s) = (mSeq (mSet 3 (mSrc 0 .left)) (mSeq (mIte (mBinT gtD (getS 3) (ret (.int 1))) (mSeq (mPut 0 .left (mBin fdivD (getS 3) (getS 1))) (mRet (mBin modD (bnd (mCons (getS 3) mNil) fun ds => lft (int1D ds)) (getS 1)))) (ret .nx)) (mSeq (mPut 0 .turn (mBin addD (mSrc 0 .turn) (ret (.int 1)))) (mSeq (mSet 4 (mSrc 0 .turn)) (mSeq (mSet 5 (mBin modD (bnd (mCons (mBin addD (mSrc 0 .mixed) (mBin mulD (getS 4) (ret (.int 104729)))) mNil) fun ds => lft (int1D ds)) (ret (.int 998244353)))) (mSeq (mSet 5 (mBin modD (bnd (mCons (mBin addD (mBin mulD (getS 5) (getS 5)) (mBin mulD (getS 4) (ret (.int 17)))) mNil) fun ds => lft (int1D ds)) (ret (.int 2147483647)))) (mRet (mBin modD (bnd (mCons (mBin fdivD (getS 5) (ret (.int 16))) mNil) fun ds => lft (int1D ds)) (getS 1))))))))) [.val (.raw (.ref sa)), .val (.int m), .val (.raw (.ref ca)), .free, .free, .free] (some s1) := by
      unfold pickM
      rw [seq_nx (ρ' := [.val (.raw (.ref sa)), .val (.int m), .free, .free, .free, .free]) (w' := some s) ((ite_run (b := false) (ρ' := [.val (.raw (.ref sa)), .val (.int m), .free, .free, .free, .free]) (w' := some s) (by simp [mBinT, bnd, getS, ret, cmpD, asB, h2])).trans rfl)]
      rw [seq_nx hs2, seq_nx e1]
    obtain ⟨g1, g2, g3⟩ := k1
    subst g1 g2
    have hpos : 0 < m := by omega
    by_cases hl : 1 < s1.left
    · refine ⟨(s1.left % m).toNat, { s1 with left := s1.left / m }, ⟨rfl, rfl, g3⟩, ?_, ?_⟩
      · have a1 := Int.emod_nonneg s1.left (show m ≠ 0 by omega)
        have a2 := Int.emod_lt_of_pos s1.left hpos
        omega
      · have a1 := Int.emod_nonneg s1.left (show m ≠ 0 by omega)
        rw [hg _ first]
        have e : ((s1.left % m).toNat : Int) = s1.left % m := Int.toNat_of_nonneg a1
        rw [e]
        simp [mSeq, mSet, mIte, mPut, mRet, mBin, mBinT, bnd, mSrc, isSrc, Fd.d, Fd.put, setS, getS, ret, cmpD, asB, kInt, mCons, mNil, lft, int1D, intD, hl, hpos, hm]
    · let t := s1.turn + 1
      let x := (s1.mixed + t * 104729) % 998244353
      let y := (x * x + t * 17) % 2147483647
      have x0 : 0 ≤ x := Int.emod_nonneg _ (by decide)
      have x1 : x < 998244353 := Int.emod_lt_of_pos _ (by decide)
      have ix : inB x = true := by
        unfold inB
        rw [Bool.and_eq_true,
              decide_eq_true_eq, decide_eq_true_eq]
        omega
      have i1 : inB 104729 = true := by decide
      have i2 : inB 17 = true := by decide
      have a1 := Int.emod_nonneg (y / 16) (show m ≠ 0 by omega)
      have a2 := Int.emod_lt_of_pos (y / 16) hpos
      refine ⟨(y / 16 % m).toNat, { s1 with turn := t }, ⟨rfl, rfl, g3⟩, by omega, ?_⟩
      rw [hg _ first]
      have e : ((y / 16 % m).toNat : Int) = y / 16 % m := Int.toNat_of_nonneg a1
      rw [e]
      have ix' : inB ((s1.mixed + (s1.turn + 1) * 104729) % 998244353) = true := ix
      simp [mSeq, mSet, mIte, mPut, mRet, mBin, mBinT, bnd, mSrc, isSrc, Fd.d, Fd.put, setS, getS, ret, cmpD, asB, kInt, mCons, mNil, lft, int1D, intD, addD, mulD, hl, hpos, i1, i2, ix', t, x, y]
end DL
set_option Elab.async false
set_option linter.all false
set_option maxRecDepth 100000
set_option maxHeartbeats 4000001
/-! DLZ0: list(zip(t, u)) of two tuples. -/
namespace DL
open PySem PySem.Calls
      PyProof.Rows PySem.Spec
open PySem.W
section
variable {prog : Program}
      {w : World} {A : Around} {E : Value → Shared → Prop} {s : Shared}
/-- the pair that was given out last is still held -/
structure ZH (h : Heap) (z TI TO T i1 i2 : Addr) (l1 l2 : Addr) (k : Nat) (f : Bool) : Prop where
  z : IsZipHeld h z TI TO T f
  t : ∃ o, h.get? T = some o
  p : IsPair h TI (.ref i1) (.ref i2)
  a : h.IsTupleIter i1 l1 k
  b : h.IsTupleIter i2 l2 k
theorem zh_next {z TI TO T i1 i2 l1 l2 : Addr} {f : Bool} {k : Nat} {xs ys : Array Value} {x y : Value} {Q : Option Value → Shared → Prop} (D : ZipApart z TI TO i1 i2 l1 l2) (st : ZH s.heap z TI TO T i1 i2 l1 l2 k f) (nT : T ≠ z ∧ T ≠ i1 ∧ T ≠ i2)
    (hl1 : s.heap.IsTuple l1 xs) (hl2 : s.heap.IsTuple l2 ys) (hx : xs[k]? = some x) (hy : ys[k]? = some y)
    (hQ : ∀ h', ZH h' z TI TO T i1 i2 l1 l2 (k + 1) true → h'.get? s.heap.objs.size = some { cls := .type "tuple", data := .seq #[x, y] } → h'.objs.size = s.heap.objs.size + 1 →
      (∀ c o, c ≠ z → c ≠ i1 → c ≠ i2 → s.heap.get? c = some o → h'.get? c = some o) → Q (some (.ref s.heap.objs.size)) { s with heap := h' }) : wpAny (model prog w) A (pyNext (.ref z)) Q E s := by
  obtain ⟨hz, ⟨oT, hT⟩, hTI, h1, h2⟩ := st
  have ty : s.TypeIs (.ref z) "zip" := ⟨_, hz, rfl⟩
  unfold pyNext
  refine wpAny_bind (wpAny_attempt (wpAny_callSpecial?_slot (name := Str.ofString "__next__") ty
    F.slot_zip_next (wpAny_call_entry F.slot_zip_next ty F.entry_zip_next ?_ (F.args_zip_next_1 _))))
  show wpAny _ _ (field (.ref z) 2 >>= fun _ => _) _ _ _
  refine wpAny_bind (wpAny_field hz rfl
    (x := .bool false) rfl ?_)
  show wpAny _ _ (field (.ref z) 3 >>= fun _ => _) _ _ _
  refine wpAny_bind (wpAny_field hz rfl
    (x := .ref TI) rfl ?_)
  refine wpAny_bind (wpAny_seqItems
    hTI rfl ?_)
  show wpAny _ _ (Builtin.SmallTypes.ownedTupleIsFree (.ref z) >>= fun _ => _) _ _ _
  refine wpAny_bind (wpAny_tupleHeld_zip
    hz hT fun g1 z1 sb1 => ?_)
  simp only [Bool.false_eq_true,
    if_false]
  refine wpAny_bind ?_
  rw [← Array.forIn_toList]
  simp only [List.forIn_cons,
    List.forIn_nil]
  refine wpAny_bind (wpAny_bind
    (wpAny_holding ?_))
  show wpAny _ _ (Builtin.SmallTypes.nextOf (.ref i1) >>= fun _ => _) _ _ _
  refine wpAny_bind (wpAny_nextOf_tuple_item (s := { s with heap := g1 }) (h1.extBut sb1.extBut D.i1z) (hl1.extBut sb1.extBut D.l1z) hx fun g2 a2 sb2 => wpAny_pure ?_)
  refine wpAny_pure ?_
  refine wpAny_bind (wpAny_bind
    (wpAny_holding ?_))
  show wpAny _ _ (Builtin.SmallTypes.nextOf (.ref i2) >>= fun _ => _) _ _ _
  refine wpAny_bind (wpAny_nextOf_tuple_item (s := { s with heap := g2 }) ((h2.extBut sb1.extBut D.i2z).extBut sb2.extBut D.i12.symm) ((hl2.extBut sb1.extBut D.l2z).extBut sb2.extBut D.l2i1) hy fun g3 b3 sb3 => wpAny_pure ?_)
  refine wpAny_pure
        (wpAny_pure ?_)
  show wpAny _ _ (newTuple [x, y] >>= fun _ => _) _ _ _
  refine wpAny_bind
        (wpAny_newTuple ?_)
  have sz : g3.objs.size = s.heap.objs.size := by rw [sb3.1, sb2.1, sb1.1]
  have z3 : IsZipHeld g3 z TI TO T true := sb3.extBut _ _ D.i2z.symm (sb2.extBut _ _ D.i1z.symm z1)
  have kp : ∀ c o, c ≠ z → c ≠ i1 → c ≠ i2 → s.heap.get? c = some o → g3.get? c = some o := fun c o n1 n2 n3 e => sb3.extBut _ _ n3 (sb2.extBut _ _ n2 (sb1.extBut _ _ n1 e))
  have a3 : g3.IsTupleIter i1 l1 (k + 1) := a2.extBut sb3.extBut D.i12
  refine wpAny_pure ⟨_, rfl, wpAny_pure ?_⟩
  show Q (some (.ref g3.objs.size)) _
  have pp : (g3.push { cls := .type "tuple", data := .seq #[x, y] }).get? g3.objs.size = some { cls := .type "tuple", data := .seq #[x, y] } := Heap.get?_push_size _ rfl
  have ps : (g3.push { cls := .type "tuple", data := .seq #[x, y] }).objs.size = g3.objs.size + 1 := Heap.size_push ..
  rw [sz] at pp ps ⊢
  refine hQ _ ⟨Heap.get?_push_of_some _ z3, ⟨oT, Heap.get?_push_of_some _ (kp T oT nT.1 nT.2.1 nT.2.2 hT)⟩, Heap.get?_push_of_some _ (kp TI _ D.TIz D.TIi1 D.TIi2 hTI), a3.at fun o e => Heap.get?_push_of_some _ e, b3.at fun o e => Heap.get?_push_of_some _ e⟩ pp ps fun c o n1 n2 n3 e => Heap.get?_push_of_some _ (kp c o n1 n2 n3 e)
theorem zh_end {z TI TO T i1 i2 l1 l2 : Addr} {f : Bool} {k : Nat} {xs ys : Array Value} {Q : Option Value → Shared → Prop} (hh : A.handled = none) (D : ZipApart z TI TO i1 i2 l1 l2) (st : ZH s.heap z TI TO T i1 i2 l1 l2 k f)
    (hl1 : s.heap.IsTuple l1 xs) (hl2 : s.heap.IsTuple l2 ys) (hend : xs[k]? = none ∨ ys[k]? = none)
    (hQ : ∀ h', (∀ c o, c ≠ z → c ≠ i1 → c ≠ i2 → s.heap.get? c = some o → h'.get? c = some
          o) → Q none { s with heap := h' }) : wpAny (model prog w) A (pyNext (.ref z)) Q E s := by
  obtain ⟨hz, ⟨oT, hT⟩, hTI, h1, h2⟩ := st
  have ty : s.TypeIs (.ref z) "zip" := ⟨_, hz, rfl⟩
  have fin : ∀ h' e, (∀ c o, c ≠ z → c ≠ i1 → c ≠ i2 → s.heap.get? c = some o → h'.get? c = some o) → (∃ o, h'.get? e = some o ∧ o.cls = .type "StopIteration") →
      wpAny (model prog w) A (do if ← isInstance (.ref e) (.type "StopIteration") then pure none else throw (.ref e)) Q E { s with heap := h' } := fun h' e kp he => by
    obtain ⟨o, ho, hc⟩ := he
    refine wpAny_bind (wpAny_isInstance (T := "StopIteration")
          (b := true) ⟨o, ho, hc⟩ isSubtype_stop ?_)
    exact wpAny_pure (hQ _ kp)
  unfold pyNext
  refine wpAny_bind (wpAny_attempt (wpAny_callSpecial?_slot (name := Str.ofString "__next__") ty
    F.slot_zip_next (wpAny_call_entry F.slot_zip_next ty F.entry_zip_next ?_ (F.args_zip_next_1 _))))
  show wpAny _ _ (field (.ref z) 2 >>= fun _ => _) _ _ _
  refine wpAny_bind (wpAny_field hz rfl
    (x := .bool false) rfl ?_)
  show wpAny _ _ (field (.ref z) 3 >>= fun _ => _) _ _ _
  refine wpAny_bind (wpAny_field hz rfl
    (x := .ref TI) rfl ?_)
  refine wpAny_bind (wpAny_seqItems
    hTI rfl ?_)
  show wpAny _ _ (Builtin.SmallTypes.ownedTupleIsFree (.ref z) >>= fun _ => _) _ _ _
  refine wpAny_bind (wpAny_tupleHeld_zip
    hz hT fun g1 z1 sb1 => ?_)
  simp only [Bool.false_eq_true,
    if_false]
  refine wpAny_bind ?_
  rw [← Array.forIn_toList]
  simp only [List.forIn_cons,
    List.forIn_nil]
  refine wpAny_bind (wpAny_bind
    (wpAny_holding ?_))
  show wpAny _ _ (Builtin.SmallTypes.nextOf (.ref i1) >>= fun _ => _) _ _ _
  cases hx : xs[k]? with
  | none =>
    refine wpAny_bind (wpAny_nextOf_tuple_end (s := { s with heap := g1 }) hh (h1.extBut sb1.extBut D.i1z) (hl1.extBut sb1.extBut D.l1z) hx fun g2 e sb2 he => ?_)
    exact fin g2 e (fun c o n1 n2 _ q => sb2 _ _ n2 (sb1.extBut _ _ n1 q)) he
  | some x =>
    have hy : ys[k]? = none := hend.resolve_left fun q => by rw [hx] at q; cases q
    refine wpAny_bind (wpAny_nextOf_tuple_item (s := { s with heap := g1 }) (h1.extBut sb1.extBut D.i1z) (hl1.extBut sb1.extBut D.l1z) hx fun g2 a2 sb2 => wpAny_pure ?_)
    refine wpAny_pure ?_
    refine wpAny_bind (wpAny_bind
      (wpAny_holding ?_))
    show wpAny _ _ (Builtin.SmallTypes.nextOf (.ref i2) >>= fun _ => _) _ _ _
    refine wpAny_bind (wpAny_nextOf_tuple_end (s := { s with heap := g2 }) hh ((h2.extBut sb1.extBut D.i2z).extBut sb2.extBut D.i12.symm) ((hl2.extBut sb1.extBut D.l2z).extBut sb2.extBut D.l2i1) hy fun g3 e sb3 he => ?_)
    exact fin g3 e (fun c o n1 n2 n3 q => sb3 _ _ n3 (sb2.extBut _ _ n2 (sb1.extBut _ _ n1 q))) he
/-- before the k-th pair: nothing given out yet, or the last pair still held -/
def ZS (h : Heap) (z TI TO i1 i2 l1 l2 S : Addr) (k : Nat) : Prop :=
  (k = 0 ∧ IsZip h z TI TO .none ∧ IsPair h TI (.ref i1) (.ref i2) ∧ (∃ a b, IsPair h TO a b) ∧ h.IsTupleIter i1 l1 0 ∧ h.IsTupleIter i2 l2 0) ∨
  ∃ T f, ZH h z TI TO T i1 i2 l1 l2 k f ∧ (T ≠ z ∧ T ≠ i1 ∧ T ≠ i2) ∧ T ≠ S
theorem ZS.up {h h' : Heap} {z TI TO i1 i2 l1 l2 S : Addr} {k : Nat} (x : ZS h z TI TO i1 i2 l1 l2 S k) (hk : ∀ b o, b ≠ S → h.get? b = some o → h'.get? b = some o) (n : z ≠ S ∧ TI ≠ S ∧ TO ≠ S ∧ i1 ≠ S ∧ i2 ≠ S) : ZS h' z TI TO i1 i2 l1 l2 S k := by
  obtain ⟨n1, n2, n3, n4, n5⟩ := n
  rcases x with ⟨e, hz, hT, ⟨a, b, hO⟩, g1, g2⟩ | ⟨T, f, ⟨hz, ⟨o, hT⟩, hp, g1, g2⟩, m, mS⟩
  · exact .inl ⟨e, hk _ _ n1 hz, hk _ _ n2 hT, ⟨a, b, hk _ _ n3 hO⟩, g1.at fun o q => hk _ o n4 q, g2.at fun o q => hk _ o n5 q⟩
  · exact .inr ⟨T, f, ⟨hk _ _ n1 hz, ⟨o, hk _ _ mS hT⟩, hk _ _ n2 hp, g1.at fun o q => hk _ o n4 q, g2.at fun o q => hk _ o n5 q⟩, m, mS⟩
theorem zs_item {z TI TO i1 i2 l1 l2 S : Addr} {k : Nat} {xs ys : Array Value} {x y : Value} {Q : Option Value → Shared → Prop} (D : ZipApart z TI TO i1 i2 l1 l2) (st : ZS s.heap z TI TO i1 i2 l1 l2 S k) (hS : S < s.heap.objs.size)
    (hl1 : s.heap.IsTuple l1 xs) (hl2 : s.heap.IsTuple l2 ys) (hx : xs[k]? = some x) (hy : ys[k]? = some y)
    (hQ : ∀ h', ZS h' z TI TO i1 i2 l1 l2 S (k + 1) → h'.get? s.heap.objs.size = some { cls := .type "tuple", data := .seq #[x, y] } → h'.objs.size = s.heap.objs.size + 1 →
      (∀ c o, c ≠ z → c ≠ TO → c ≠ i1 → c ≠ i2 → s.heap.get? c = some o → h'.get? c = some o) → Q (some (.ref s.heap.objs.size)) { s with heap := h' }) : wpAny (model prog w) A (pyNext (.ref z)) Q E s := by
  rcases st with ⟨e, hz, hTI, ⟨a, b, hTO⟩, g1, g2⟩ | ⟨T, f, st, m, mS⟩
  · subst e
    have b1 : i1 < s.heap.objs.size := by obtain ⟨o, q, _⟩ := id g1; exact Heap.lt_size q
    have b2 : i2 < s.heap.objs.size := by obtain ⟨o, q, _⟩ := id g2; exact Heap.lt_size q
    refine RZ.pyNext_zipT_item D hz hTI hTO g1 g2 hl1 hl2 hx hy fun h' z' TO' a1 a2 T' sz kp => hQ h' (.inr ⟨_, false, ⟨z', ⟨_, T'⟩, kp _ _ D.TIz D.TITO D.TIi1 D.TIi2 hTI, a1, a2⟩, ⟨Nat.ne_of_gt (Heap.lt_size hz), Nat.ne_of_gt b1, Nat.ne_of_gt b2⟩, Nat.ne_of_gt hS⟩) T' sz kp
  · exact zh_next D st m hl1 hl2 hx hy fun h' st' T' sz kp => hQ h' (.inr ⟨T, true, st', m, mS⟩) T' sz fun c o n1 _ n3 n4 e => kp c o n1 n3 n4 e
theorem zs_end {z TI TO i1 i2 l1 l2 S : Addr} {k : Nat} {xs ys : Array Value} {Q : Option Value → Shared → Prop} (hh : A.handled = none) (D : ZipApart z TI TO i1 i2 l1 l2) (st : ZS s.heap z TI TO i1 i2 l1 l2 S k)
    (hl1 : s.heap.IsTuple l1 xs) (hl2 : s.heap.IsTuple l2 ys) (hend : xs[k]? = none ∨ ys[k]? = none)
    (hQ : ∀ h', (∀ c o, c ≠ z → c ≠ TO → c ≠ i1 → c ≠ i2 → s.heap.get? c = some o → h'.get? c =
          some o) → Q none { s with heap := h' }) : wpAny (model prog w) A (pyNext (.ref z)) Q E s := by
  rcases st with ⟨e, hz, hTI, ⟨a, b, hTO⟩, g1, g2⟩ | ⟨T, f, st, m, mS⟩
  · subst e
    exact RZ.pyNext_zipT_end hh D hz hTI hTO g1 g2 hl1 hl2 hend hQ
  · exact zh_end hh D st hl1 hl2 hend fun h' kp => hQ h' fun c o n1 _ n3 n4 e => kp c o n1 n3 n4 e
/-- the pairs so far -/
structure ZG (xs ys : Array Value) (lo : Nat) (h : Heap) (as : List Addr) : Prop where
  rise : as.Pairwise (· < ·)
  above : ∀ a ∈ as, lo ≤ a
  pairs : ∀ (j : Nat) (a : Addr), as[j]? = some a → ∃ x y, xs[j]? = some x ∧ ys[j]? = some y ∧ h.get? a = some { cls := .type "tuple", data := .seq #[x, y] }
theorem ZG.nil {xs ys : Array Value} {lo : Nat} {h : Heap} : ZG xs ys lo h [] := by
  refine ⟨List.Pairwise.nil, ?_, ?_⟩
  · intro a ha
    cases ha
  · intro j a hj
    simp at hj
theorem ZG.lt {xs ys : Array Value} {lo : Nat} {h : Heap} {as : List Addr} (g : ZG xs ys lo h as) {a : Addr} (ha : a ∈ as) : a < h.objs.size := by
  obtain ⟨j, hj⟩ :=
        List.mem_iff_getElem?.mp ha
  obtain ⟨_, _, _, _, e⟩ := g.pairs j a hj
  exact Heap.lt_size e
theorem ZG.up {xs ys : Array Value} {lo : Nat} {h h' : Heap} {as : List Addr} (g : ZG xs ys lo h as) (k : ∀ a o, lo ≤ a → h.get? a = some o → h'.get? a = some o) : ZG xs ys lo h' as :=
  ⟨g.rise, g.above, fun j a hj => by
    obtain ⟨x, y, e1, e2, e3⟩ := g.pairs j a hj
    exact ⟨x, y, e1, e2, k a _ (g.above a (List.mem_of_getElem? hj)) e3⟩⟩
theorem ZG.more {xs ys : Array Value} {lo : Nat} {h : Heap} {as : List Addr} {b : Addr} {x y : Value} (g : ZG xs ys lo h as) (hb : ∀ a ∈ as, a < b) (hl : lo ≤ b) (hx : xs[as.length]? = some x) (hy : ys[as.length]? = some y) (e : h.get? b = some { cls := .type "tuple", data := .seq #[x, y] }) : ZG xs ys lo h (as ++ [b]) := by
  refine ⟨List.pairwise_append.mpr ⟨g.rise, List.pairwise_singleton _ _, fun a ha c hc => by rw [List.mem_singleton.mp hc]; exact hb a ha⟩, fun a ha => ?_, fun j c hj => ?_⟩
  · rcases List.mem_append.mp ha with q | q
    · exact g.above a q
    · rw [List.mem_singleton.mp q]; exact hl
  · by_cases h1 : j < as.length
    · rw [List.getElem?_append_left
          h1] at hj
      exact g.pairs j c hj
    · rw [List.getElem?_append_right (by omega)] at hj
      have h2 : j - as.length = 0 := by
        cases q : j - as.length with
        | zero => rfl
        | succ m => rw [q] at hj; cases hj
      have h3 : j = as.length := by omega
      subst h3
      rw [h2] at hj
      cases hj
      exact ⟨x, y, hx, hy, e⟩
theorem ne_lo {a b lo : Nat} (h : b < lo) (g : lo ≤ a) : a ≠ b := by omega
/-- kept but for the list, the zip's own -/
def Kp (S z TO i1 i2 : Addr) (h h' : Heap) : Prop := ∀ b o, b ≠ S → b ≠ z → b ≠ TO → b ≠ i1 → b ≠ i2 → h.get? b = some o → h'.get? b = some o
theorem zl_loop {R : Result → Shared → Prop} {S z TI TO i1 i2 l1 l2 : Addr} {lo n : Nat} {xs ys : Array Value} (hh : A.handled = none) (D : ZipApart z TI TO i1 i2 l1 l2) (nS : (z ≠ S ∧ TI ≠ S ∧ TO ≠ S ∧ i1 ≠ S ∧ i2 ≠ S) ∧ l1 ≠ S ∧ l2 ≠ S) (lw : z < lo ∧ TO < lo ∧ i1 < lo ∧ i2 < lo ∧ S < lo)
    (hn : n = min xs.size ys.size) (hz : n ≤ sizeLine) (res : Value) {h1 : Heap} (hR : ∀ h' tk acc c as, Kp S z TO i1 i2 h1 h' → h'.get? S = some { cls := .type "list", dict := none, data := .seq acc c, slots := #[] } → as.length = n → ZG xs ys lo h' as → acc.toList = as.map Value.ref → R (.ok (.ret res)) { s with heap := h', toks := tk }) :
    ∀ (k i : Nat) (h : Heap) (tk c : Nat) (acc : Array Value) (as : List Addr), n - i = k → i ≤ n → ZS h z TI TO i1 i2 l1 l2 S i → h.IsTuple l1 xs → h.IsTuple l2 ys → Kp S z TO i1 i2 h1 h →
      h.get? S = some { cls := .type "list", dict := none, data := .seq acc c, slots := #[] } → acc.toList = as.map Value.ref → as.length = i → ZG xs ys lo h as → lo ≤ h.objs.size →
      codeAny (model prog w) A (.builtin "list.extend.loop" ⟨[.ref S, .ref z, res], []⟩) R { s with heap := h, toks := tk } := by
  obtain ⟨nS, nS1, nS2⟩ := nS
  obtain ⟨w1, w2, w3, w4, w5⟩ := lw
  intro k
  induction k with
  | zero =>
    intro i h tk c acc as hk hi st t1 t2 kp hS hacc hal hG hlo
    refine codeAny_builtin
          PySem.F.entry_extend_loop ?_
    rw [Around.under_plainId
      PySem.F.plain_extend_loop _]
    show wpAny _ A.in1 (pyNext (.ref z) >>= fun _ => _) _ _ _
    have hend : xs[i]? = none ∨ ys[i]? = none := by
      rcases Nat.le_total xs.size ys.size with q | q
      · exact .inl (Array.getElem?_eq_none (by omega))
      · exact .inr (Array.getElem?_eq_none (by omega))
    refine wpAny_bind (zs_end (s := { s with heap := h, toks := tk }) (A := A.in1) hh D st t1 t2 hend fun h' kk => ?_)
    refine wpAny_pure (hR h' tk acc c as (fun b o m1 m2 m3 m4 m5 e => kk b o m2 m3 m4 m5 (kp b o m1 m2 m3 m4 m5 e)) (kk S _ nS.1.symm nS.2.2.1.symm nS.2.2.2.1.symm nS.2.2.2.2.symm hS) (by omega) (hG.up fun a o la e => kk a o (ne_lo w1 la) (ne_lo w2 la) (ne_lo w3 la) (ne_lo w4 la) e) hacc)
  | succ k ih =>
    intro i h tk c acc as hk hi st t1 t2 kp hS hacc hal hG hlo
    have lx : i < xs.size := by omega
    have ly : i < ys.size := by omega
    have hx : xs[i]? = some xs[i] := Array.getElem?_eq_getElem lx
    have hy : ys[i]? = some ys[i] := Array.getElem?_eq_getElem ly
    have hsz : acc.size = i :=
          by rw [← Array.length_toList, hacc, List.length_map, hal]
    refine codeAny_builtin
          PySem.F.entry_extend_loop ?_
    rw [Around.under_plainId
      PySem.F.plain_extend_loop _]
    show wpAny _ A.in1 (pyNext (.ref z) >>= fun _ => _) _ _ _
    have hSl : S < h.objs.size
          := Heap.lt_size hS
    refine wpAny_bind (zs_item (s := { s with heap := h, toks := tk }) (A := A.in1) (S := S) D st hSl t1 t2 hx hy fun h' st' ht sz kk => ?_)
    dsimp only at ht sz kk ⊢
    have hS' : h'.get? S = some { cls := .type "list", dict := none, data := .seq acc c, slots := #[] } := kk S _ nS.1.symm nS.2.2.1.symm nS.2.2.2.1.symm nS.2.2.2.2.symm hS
    have up : ∀ b o, b ≠ S → h'.get? b = some o → (h'.update S (Obj.mapSeq (·.push (Value.ref
          h.objs.size)))).get? b = some o := fun b o hb e => (Heap.get?_update_other _ _ (Ne.symm hb)).trans e
    show wpAny _ A.in1 (updateSeq S (·.push (Value.ref h.objs.size)) >>= fun _ => _) _ _ _
    refine wpAny_bind ?_
    have t1' : (h'.update S (Obj.mapSeq (·.push (Value.ref h.objs.size)))).IsTuple l1 xs := t1.at fun o e => up _ _ nS1 (kk _ _ D.l1z D.l1TO D.l1i1 D.l1i2 e)
    have t2' : (h'.update S (Obj.mapSeq (·.push (Value.ref h.objs.size)))).IsTuple l2 ys := t2.at fun o e => up _ _ nS2 (kk _ _ D.l2z D.l2TO D.l2i1 D.l2i2 e)
    have eT := up _ _ (Nat.ne_of_gt hSl) ht
    refine wpAny_updateSeq hS' rfl (wpAny_pure ⟨plainId_quiet PySem.F.plain_extend_loop _, ih (i + 1) _ tk _ (acc.push (Value.ref h.objs.size)) (as ++ [h.objs.size]) (by omega) (by omega) (st'.up up nS) t1' t2'
      (fun b o m1 m2 m3 m4 m5 e => up b o m1 (kk b o m2 m3 m4 m5 (kp b o m1 m2 m3 m4 m5 e))) (Heap.get?_update_self _ hS' rfl) (by rw [Array.toList_push, hacc, List.map_append]; rfl) (by rw [List.length_append, hal]; rfl) ?_ ?_⟩) (by rw [hsz]; omega) (by show (acc.push (Value.ref h.objs.size)).size ≤ sizeLine + 1; rw [Array.size_push, hsz]; omega)
    · refine ZG.more (hG.up fun a o la e => up a o (ne_lo w5 la) (kk a o (ne_lo w1 la) (ne_lo w2 la) (ne_lo w3 la) (ne_lo w4 la) e)) (fun a ha => hG.lt ha) hlo (by rw [hal]; exact hx) (by rw [hal]; exact hy) eT
    · exact Nat.le_trans hlo (Nat.le_of_lt (Heap.lt_size eT))
theorem zip_no_len : typeLookup (.type "zip") "__len__" = pure none := am_miss_of_fast (by decide +kernel)
theorem zip_no_hint : typeLookup (.type "zip") "__length_hint__" = pure none := am_miss_of_fast (by decide +kernel)
theorem zl_hint {r : Addr} {Q : Bool → Shared → Prop} (hT : s.TypeIs (.ref r) "zip") (h : Q true s) : wpAny (model prog w) A (Builtin.List.listLengthHint (.ref r)) Q E s := by
  unfold
        Builtin.List.listLengthHint
  refine wpAny_bind (wpAny_specialOf hT zip_no_len ?_)
  show wpAny _ _ (specialOf (.ref r) "__length_hint__" >>= fun _ => _) _ _ _
  refine wpAny_bind (wpAny_specialOf hT zip_no_hint ?_)
  exact wpAny_pure h
theorem zl_extend {R : Result → Shared → Prop} {S z TI TO i1 i2 l1 l2 : Addr} {lo n : Nat} {xs ys : Array Value} (hh : A.handled = none) (D : ZipApart z TI TO i1 i2 l1 l2) (nS : (z ≠ S ∧ TI ≠ S ∧ TO ≠ S ∧ i1 ≠ S ∧ i2 ≠ S) ∧ l1 ≠ S ∧ l2 ≠ S) (lw : z < lo ∧ TO < lo ∧ i1 < lo ∧ i2 < lo ∧ S < lo)
    (hn : n = min xs.size ys.size) (hz : n ≤ sizeLine) (res : Value) (hT : IsZip s.heap z TI TO .none) (st : ZS s.heap z TI TO i1 i2 l1 l2 S 0) (t1 : s.heap.IsTuple l1 xs) (t2 : s.heap.IsTuple l2 ys) (hlo : lo ≤ s.heap.objs.size) {c : Nat} (hS : s.heap.get? S = some { cls := .type "list", data := .seq #[] c })
    (hR : ∀ h' tk acc c as, Kp S z TO i1 i2 s.heap h' → h'.get? S = some { cls := .type "list", dict := none, data := .seq acc c, slots := #[] } → as.length = n → ZG xs ys lo h' as → acc.toList = as.map Value.ref → R (.ok (.ret res)) { s with heap := h', toks := tk }) :
    wpAny (model prog w) A.in1 (Builtin.List.listExtendWith (.ref S) (.ref z) res)
      (fun fin s' => match fin with
        | .done f => R (.ok f) s'
        | .again c' => c'.quiet = true ∧ codeAny (model prog w) A c' R s') (fun e s' => R (.error e) s') s := by
  have ty : ∀ h : Heap, IsZip h z TI TO .none → Shared.TypeIs { s with heap := h } (.ref z) "zip" := fun h q => ⟨_, q, rfl⟩
  have key : ∀ (h : Heap) (c tk : Nat), (∀ b o, b ≠ S → s.heap.get? b = some o → h.get? b = some o) → s.heap.objs.size ≤ h.objs.size → h.get? S = some { cls := .type "list", data := .seq #[] c } →
      codeAny (model prog w) A (.builtin "list.extend.loop" ⟨[.ref S, .ref z, res], []⟩) R { s with heap := h, toks := tk } := fun h c tk up sz hS' =>
    zl_loop hh D nS lw hn hz res hR n 0 h tk c #[] [] (Nat.sub_zero n) (Nat.zero_le n) (st.up up nS.1) (t1.at fun o e => up _ _ nS.2.1 e) (t2.at fun o e => up _ _ nS.2.2 e) (fun b o m _ _ _ _ e => up b o m e) hS' rfl rfl
      ZG.nil (Nat.le_trans hlo sz)
  unfold
        Builtin.List.listExtendWith
  refine wpAny_bind (wpAny_typeOf (T := "zip") (ty _ hT) ?_)
  have e1 : Builtin.List.listSameRef (.ref S) (.ref z) = false := by simp [Builtin.List.listSameRef, nS.1.1.symm]
  have e2 : (Value.type "zip" == Value.type "list") = false := by decide
  have e3 : (Value.type "zip" == Value.type "tuple") = false := by decide
  simp only [e1, e2, e3, Bool.or_false,
    Bool.false_eq_true, if_false]
  refine wpAny_bind (wpAny_pyIter_zip hT ?_)
  refine wpAny_bind (wpAny_holding (zl_hint (ty _ hT) ?_))
  refine wpAny_ite_split (fun _ => ?_) (fun _ => wpAny_pure ⟨plainId_quiet
    PySem.F.plain_extend_loop _, key _ c _ (fun b o _ e => e) (Nat.le_refl _) hS⟩)
  refine wpAny_bind
        (wpAny_rule ?_)
  refine wpAny_bind ?_
  show wpAny _ _ (updateSeq S (·.push .none) >>= fun _ => updateSeq S
    (·.pop)) _ _ _
  refine wpAny_bind
        (wpAny_updateSeq hS rfl ?_)
  have hS2 := Heap.get?_update_self (Obj.mapSeq (·.push Value.none)) hS rfl
  refine wpAny_updateSeq (hz := by seq_fits) hS2 rfl ?_
  have hS3 := Heap.get?_update_self (Obj.mapSeq (·.pop)) hS2 rfl
  refine wpAny_pure ⟨plainId_quiet
    PySem.F.plain_extend_loop _, key _ _ _ (fun b o m e => (Heap.get?_update_other _ _ (Ne.symm m)).trans ((Heap.get?_update_other _ _ (Ne.symm m)).trans e)) ?_ hS3⟩
  show s.heap.objs.size ≤ ((s.heap.update S _).update S _).objs.size
  simp [Heap.update]
theorem zl_init {R : Result → Shared → Prop} {S z TI TO i1 i2 l1 l2 : Addr} {lo n : Nat} {xs ys : Array Value} (hh : A.handled = none) (D : ZipApart z TI TO i1 i2 l1 l2) (nS : (z ≠ S ∧ TI ≠ S ∧ TO ≠ S ∧ i1 ≠ S ∧ i2 ≠ S) ∧ l1 ≠ S ∧ l2 ≠ S) (lw : z < lo ∧ TO < lo ∧ i1 < lo ∧ i2 < lo ∧ S < lo)
    (hn : n = min xs.size ys.size) (hz : n ≤ sizeLine) (hT : IsZip s.heap z TI TO .none) (st : ZS s.heap z TI TO i1 i2 l1 l2 S 0) (t1 : s.heap.IsTuple l1 xs) (t2 : s.heap.IsTuple l2 ys) (hlo : lo ≤ s.heap.objs.size) (hS : s.heap.get? S = some { cls := .type "list", data := .seq #[] })
    (hR : ∀ h' tk acc c as, Kp S z TO i1 i2 s.heap h' → h'.get? S = some { cls := .type "list", dict := none, data := .seq acc c, slots := #[] } → as.length = n → ZG xs ys lo h' as → acc.toList = as.map Value.ref → R (.ok (.ret .none)) { s with heap := h', toks := tk }) :
    wpAny (model prog w) A.in1 (Builtin.«list.__init__» ⟨[.ref S, .ref z], []⟩)
      (fun fin s' => match fin with
        | .done f => R (.ok f) s'
        | .again c' => c'.quiet = true ∧ codeAny (model prog w) A c' R s') (fun e s' => R (.error e) s') s := by
  show wpAny _ _ (Builtin.List.listItems (.ref S) >>= fun old => Builtin.List.listUpdate (.ref S) (fun _ => #[]) >>= fun _ => letGo old.toList.reverse >>= fun _ => Builtin.List.listExtendWith (.ref S) (.ref z) .none) _ _ s
  refine wpAny_bind ?_
  unfold Builtin.List.listItems
  refine wpAny_bind (wpAny_seqItems hS rfl
    (wpAny_pure ?_))
  show wpAny _ _ (updateSeq S (fun _ => #[]) >>= fun _ => letGo (#[] : Array Value).toList.reverse >>= fun _ => Builtin.List.listExtendWith (.ref S) (.ref z)
    .none) _ _ s
  refine wpAny_bind
        (wpAny_updateSeq hS rfl ?_)
  have hS2 := Heap.get?_update_self (Obj.mapSeq
        (fun _ => (#[] : Array Value))) hS rfl
  have up : ∀ b o, b ≠ S → s.heap.get? b = some o → (s.heap.update S (Obj.mapSeq (fun _ => (#[] : Array Value)))).get? b = some o := fun b o m e => (Heap.get?_update_other _ _ (Ne.symm m)).trans e
  refine wpAny_bind
        (wpAny_letGo ?_)
  refine zl_extend hh D nS lw hn hz .none (up _ _ nS.1.1 hT) (st.up up nS.1) (t1.at fun o e => up _ _ nS.2.1 e) (t2.at fun o e => up _ _ nS.2.2 e) (Nat.le_trans hlo ?_) hS2 fun h' tk acc c as kp e1 e2 e3 e4 => ?_
  · simp [Heap.update]
  · exact hR h' tk acc c as (fun b o m1 m2 m3 m4 m5 e => kp b o m1 m2 m3 m4 m5 (up b o m1 e)) e1 e2 e3 e4
/-- list(z), z a zip of two tuples that has given nothing out yet -/
theorem zl_call {Q : Value → Shared → Prop} {z TI TO i1 i2 l1 l2 : Addr} {n : Nat} {xs ys : Array Value} (hh : A.handled = none) (D : ZipApart z TI TO i1 i2 l1 l2) (hn : n = min xs.size ys.size) (hz : n ≤ sizeLine) (hT : IsZip s.heap z TI TO .none) (hp : IsPair s.heap TI (.ref i1) (.ref i2)) (ho : ∃ a b, IsPair s.heap TO a b)
    (g1 : s.heap.IsTupleIter i1 l1 0) (g2 : s.heap.IsTupleIter i2 l2 0) (t1 : s.heap.IsTuple l1 xs) (t2 : s.heap.IsTuple l2 ys)
    (hQ : ∀ h' tk acc c as, (∀ b o, b ≠ z → b ≠ TO → b ≠ i1 → b ≠ i2 → s.heap.get? b = some o → h'.get? b = some o) → h'.get? s.heap.objs.size = some { cls := .type "list", dict := none, data := .seq acc c, slots := #[] } → as.length = n → ZG xs ys (s.heap.objs.size + 1) h' as → acc.toList = as.map Value.ref → Q (.ref s.heap.objs.size) { s with heap := h', toks := tk }) :
    wpAny (model prog w) A (call (.type "list") [.ref z]) Q E s := by
  refine callType_codes (Q₁ := fun obj s₁ => obj = .ref s.heap.objs.size ∧ s₁ = { s with heap := s.heap.push { cls := .type "list", data := .seq #[] } }) PySem.F.called_list
    (PySem.F.typeCall_list_1 _) PySem.F.entry_list_init (code_list_new _ ⟨rfl, rfl⟩) fun obj s₁ h₁ => ?_
  obtain ⟨e1, e2⟩ := h₁
  subst e1 e2
  have hS : (s.heap.push { cls := .type "list", data := .seq #[] }).get? s.heap.objs.size
        = some { cls := .type "list", data := .seq #[] } := Heap.get?_push_size _ rfl
  have b1 : i1 < s.heap.objs.size := by obtain ⟨o, q, _⟩ := id g1; exact Heap.lt_size q
  have b2 : i2 < s.heap.objs.size := by obtain ⟨o, q, _⟩ := id g2; exact Heap.lt_size q
  have b3 : l1 < s.heap.objs.size := by obtain ⟨o, q, _⟩ := id t1; exact Heap.lt_size q
  have b4 : l2 < s.heap.objs.size := by obtain ⟨o, q, _⟩ := id t2; exact Heap.lt_size q
  have b5 : z < s.heap.objs.size := Heap.lt_size hT
  have b6 : TI < s.heap.objs.size := Heap.lt_size hp
  have b7 : TO < s.heap.objs.size := by obtain ⟨a, b, q⟩ := ho; exact Heap.lt_size q
  have up : ∀ b o, s.heap.get? b = some o → (s.heap.push { cls := .type "list", data := .seq #[] }).get? b = some o := fun b o e => Heap.get?_push_of_some _ e
  obtain ⟨pa, pb, po⟩ := ho
  refine ⟨⟨_, hS, rfl⟩, PySem.F.args_list_init_2 _ _, zl_init (lo := s.heap.objs.size + 1) (A := A.in1) hh D ⟨⟨Nat.ne_of_lt b5, Nat.ne_of_lt b6, Nat.ne_of_lt b7, Nat.ne_of_lt b1, Nat.ne_of_lt b2⟩, Nat.ne_of_lt b3, Nat.ne_of_lt b4⟩
    ⟨Nat.lt_succ_of_lt b5, Nat.lt_succ_of_lt b7, Nat.lt_succ_of_lt b1, Nat.lt_succ_of_lt b2, Nat.lt_succ_self _⟩ hn hz (up _ _ hT) (.inl ⟨rfl, up _ _ hT, up _ _ hp, ⟨pa, pb, up _ _ po⟩, g1.at fun o e => up _ o e, g2.at fun o e => up _ o e⟩) (t1.at fun o e => up _ o e) (t2.at fun o e => up _ o e)
    (by show _ ≤ (s.heap.push _).objs.size; rw [Heap.size_push]; exact Nat.le_refl _) hS fun h' tk acc c as kp e1 e2 e3 e4 => ?_⟩
  exact ⟨rfl, hQ h' tk acc c as (fun b o m1 m2 m3 m4 e => kp b o (Nat.ne_of_lt (Heap.lt_size e)) m1 m2 m3 m4 (up b o e)) e1 e2 e3 e4⟩
end
end DL
namespace DL
open PySem PySem.Spec
      PyProof.Rows L2
/-- a new pair's object -/
abbrev prO (u v : Value) : Obj := { cls := .type "tuple", data := .seq #[u, v] }
def putZ : Hp → List Addr → List V → List V → List Value → List Value → Hp
  | H, a :: as, x :: xs, y :: ys, u :: us, v :: vs => putZ (upd H a (.frz (prO u v) (.tup [x, y]))) as xs ys us vs
  | H, _, _, _, _, _ => H
theorem putZ_off {b : Addr} : ∀ (as : List Addr) (xs ys : List V) (us vs : List Value) (H : Hp), b ∉ as → putZ H as xs ys us vs b = H b
  | [], _, _, _, _, _, _ => by simp [putZ]
  | _ :: _, [], _, _, _, _, _ => by simp [putZ]
  | _ :: _, _ :: _, [], _, _, _, _ => by simp [putZ]
  | _ :: _, _ :: _, _ :: _, [], _, _, _ => by simp [putZ]
  | _ :: _, _ :: _, _ :: _, _ :: _, [], _, _ => by simp [putZ]
  | a :: as, x :: xs, y :: ys, u :: us, v :: vs, H, h => by
    show putZ (upd H a _) as xs ys us vs b = H b
    rw [putZ_off as xs ys us vs _ fun z => h (List.mem_cons_of_mem _ z), upd_ne fun z => h (by rw [z]; exact List.mem_cons_self)]
theorem putZ_at : ∀ (as : List Addr) (xs ys : List V) (us vs : List Value) (H : Hp) (j : Nat) (a : Addr), as.Nodup → as[j]? = some a → as.length ≤ xs.length → as.length ≤ ys.length → as.length ≤ us.length → as.length ≤ vs.length →
    ∃ x y u v, xs[j]? = some x ∧ ys[j]? = some y ∧ us[j]? = some u ∧ vs[j]? = some v ∧ putZ H as xs ys us vs a = some (.frz (prO u v) (.tup [x, y]))
  | [], _, _, _, _, _, _, _, _, h, _, _, _, _ => by simp at h
  | _ :: _, [], _, _, _, _, _, _, _, _, h, _, _, _ => by simp at h
  | _ :: _, _ :: _, [], _, _, _, _, _, _, _, _, h, _, _ => by simp at h
  | _ :: _, _ :: _, _ :: _, [], _, _, _, _, _, _, _, _, h, _ => by simp at h
  | _ :: _, _ :: _, _ :: _, _ :: _, [], _, _, _, _, _, _, _, _, h => by simp at h
  | b :: as, x :: xs, y :: ys, u :: us, v :: vs, H, 0, a, nd, h, _, _, _, _ => by
    cases h
    refine ⟨x, y, u, v, rfl, rfl, rfl, rfl, ?_⟩
    show putZ (upd H b _) as xs ys us vs b = _
    rw [putZ_off as xs ys us vs _ (List.nodup_cons.mp nd).1, upd_same]
  | b :: as, x :: xs, y :: ys, u :: us, v :: vs, H, j + 1, a, nd, h, l1, l2, l3, l4 => by
    obtain ⟨x', y', u', v', e1, e2, e3, e4, e5⟩ := putZ_at as xs ys us vs (upd H b (.frz (prO u v) (.tup [x, y]))) j a (List.nodup_cons.mp nd).2 h (Nat.le_of_succ_le_succ l1) (Nat.le_of_succ_le_succ l2) (Nat.le_of_succ_le_succ l3) (Nat.le_of_succ_le_succ l4)
    exact ⟨x', y', u', v', e1, e2, e3, e4, e5⟩
theorem vals_at : ∀ {xs : List V} {us : List Value} {j : Nat} {x : V} {u : Value}, Vals xs us → xs[j]? = some x → us[j]? = some u → RelV x u
  | _, _, j, _, _, .nil, h, _ => by simp at h
  | _, _, 0, _, _, .cons r _, h, g => by
    cases h
    cases g
    exact r
  | _, _, j + 1, _, _, .cons _ t, h, g => vals_at (j := j) t h g
theorem refs_vals : ∀ as : List Addr, Vals (as.map V.ref) (as.map Value.ref)
  | [] => .nil
  | _ :: as => .cons rfl (refs_vals as)
section
variable {X : Cx}
/-- what list(zip(..)) has laid -/
structure Zd (H H' : Hp) (p : Addr) (ts : List Addr) (xs ys : List V) : Prop where
  ext : ∀ b o, H b = some o → H' b = some o
  p0 : H p = none
  at' : H' p = some (.lst (ts.map V.ref))
  len : ts.length = min xs.length ys.length
  prs : ∀ (j : Nat) (t : Addr), ts[j]? = some t → H t = none ∧ ∃ x y o, xs[j]? = some x ∧ ys[j]? = some y ∧ o.cls = .type "tuple" ∧ o.dict = none ∧ o.slots = #[] ∧ H' t = some (.frz o (.tup [x, y]))
theorem zd_laid {pins : List (Addr × Obj)} {σ : L2.St} {H : Hp} {s : Shared} {h' : Heap} {tk : Nat} {xs ys : List V} {us vs : List Value} {acc : Array Value} {c : Nat} {as : List Addr} {S lo : Addr} (I : Inv X pins σ H s) (rx : Vals xs us) (ry : Vals ys vs) (hn : as.length = min us.length vs.length) (hz : as.length ≤ sizeLine)
    (hk : ∀ b o, s.heap.get? b = some o → h'.get? b = some o) (s0 : s.heap.objs.size ≤ S) (hlo : S < lo) (hS : h'.get? S = some { cls := .type "list", dict := none, data := .seq acc c, slots := #[] }) (hG : ZG us.toArray vs.toArray lo h' as) (hacc : acc.toList = as.map Value.ref) :
    ∃ H', Zd H H' S as xs ys ∧ Inv X pins σ H' { s with heap := h', toks := tk } := by
  have l1 := rx.length
  have l2 := ry.length
  have nd : as.Nodup := List.Pairwise.imp
        (fun {a b} (h : a < b) => Nat.ne_of_lt h) hG.rise
  have big : ∀ a ∈ as, s.heap.objs.size ≤ a := fun a ha => Nat.le_trans s0 (Nat.le_trans (Nat.le_of_lt hlo) (hG.above a ha))
  have hSn : S ∉ as := fun z => Nat.lt_irrefl _ (Nat.lt_of_lt_of_le hlo (hG.above _ z))
  have new : ∀ t ∈ as, H t = none := fun t ht => I.hok.fresh (big t ht)
  have newS : H S = none := I.hok.fresh s0
  have low : ∀ b o, s.heap.get? b = some o → b ∉ as ∧ b ≠ S := fun b o e => ⟨fun z => Nat.lt_irrefl _ (Nat.lt_of_lt_of_le (Heap.lt_size e) (big b z)), fun z => Nat.lt_irrefl _ (Nat.lt_of_lt_of_le (Heap.lt_size e) (z ▸ s0))⟩
  have atP := fun j a (h : as[j]? = some a) => putZ_at as xs ys us vs (upd H S (.lst (as.map V.ref))) j a nd h (by omega) (by omega) (by omega) (by omega)
  have off : ∀ b, b ∉ as → b ≠ S → putZ (upd H S (.lst (as.map V.ref))) as xs ys us vs b = H b := fun b h1 h2 => by rw [putZ_off as xs ys us vs _ h1, upd_ne h2]
  have eS : putZ (upd H S (.lst (as.map V.ref))) as xs ys us vs S = some (.lst (as.map V.ref)) := by rw [putZ_off as xs ys us vs _ hSn, upd_same]
  have kp : ∀ b o, H b = some o → putZ (upd H S (.lst (as.map V.ref))) as xs ys us vs b = some o := fun b o e => by
    rw [off b (fun z => by rw [new b z] at e; cases e) fun z => by rw [z, newS] at e; cases e]
    exact e
  refine ⟨putZ (upd H S (.lst (as.map V.ref))) as xs ys us vs, ⟨kp, newS, eS, by omega, fun j t h => ⟨new t (List.mem_of_getElem? h), ?_⟩⟩, ?_⟩
  · obtain ⟨x, y, u, v, e1, e2, e3, e4, e5⟩ := atP j t h
    exact ⟨x, y, _, e1, e2, rfl, rfl, rfl, e5⟩
  · refine I.call' (ch := []) rfl ⟨fun b o q _ _ _ => hk b o q, fun b o q _ _ _ => ⟨o.slots, hk b o q⟩, fun b o q n _ => ?_, fun b o q _ => ⟨o, hk b o q⟩, fun b xs q => kp b _ q, fun b o u q => kp b _ q, fun b ps q => ⟨#[], by rw [kp b _ q]; simp⟩⟩ (fun b o q => ?_) I.bare fun b z => by simp at z
    · obtain ⟨z1,
          z2⟩ := low b o q
      rw [off b z1 z2]
      exact n
    · by_cases hb : b ∈ as
      · obtain ⟨j, hj⟩ := List.mem_iff_getElem?.mp hb
        obtain ⟨x, y, u, v, e1, e2, e3, e4, e5⟩ := atP j b hj
        rw [e5] at q
        cases q
        obtain ⟨u', v', f1, f2, f3⟩ := hG.pairs j b hj
        have g1 : us[j]? = some u' := by simpa using f1
        have g2 : vs[j]? = some v' := by simpa using f2
        rw [e3] at g1
        rw [e4] at g2
        cases g1
        cases g2
        exact ⟨f3, by show 2 ≤ sizeLine; decide, [u, v], .cons (vals_at rx e1 e3) (.cons (vals_at ry e2 e4) .nil), ⟨_, f3, rfl, _, rfl⟩⟩
      · by_cases hb2 : b = S
        · subst hb2
          rw [eS] at q
          cases q
          refine ⟨by rw [List.length_map]; exact hz, acc.toList, c, by rw [hacc]; exact refs_vals as, ?_⟩
          rw [Array.toArray_toList]
          exact hS
        · rw [off b hb hb2] at q
          exact (I.hok b o q).stay (fun d v _ y => hk d v y) (fun d y => kp d _ y) fun d xs y => kp d _ y
/-- list(zip(t, u)) -/
def tLZip (K : PySem.W.Frag) (ta : TA) : TE := fun σ H Q => ta σ H fun vs H1 => ∃ a b xs ys, vs = [.ref a, .ref b] ∧ (SqT K H1 a xs ∧ SqT K H1 b ys) ∧ ∀ H' p ts, Zd H1 H' p ts xs ys → Q (.ref p) H'
theorem pe_lzip {e e2 : Expr} {ta : TA} {p p2 pos zpos : Pos} (hc : X.calm = true) (hg2 : Gl X "list") (hm2 : X.mg "list" = none) (hg : Gl X "zip") (hm : X.mg "zip" = none) (ha : PA X [e, e2] ta)
    (hs : starEach [e, e2] X.env = (false, eval e X.env) :: starEach [e2] X.env := by rfl) (hpl : (backTo zpos (starEach [e2] X.env)).any (·.1) = false := by rfl)
    (hl : starEach [.Call (.Name "zip" p2) [e, e2] [] zpos] X.env = (false, eval (.Call (.Name "zip" p2) [e, e2] [] zpos) X.env) :: starEach [] X.env := by rfl) : PE X (.Call (.Name "list" p) [.Call (.Name "zip" p2) [e, e2] [] zpos] [] pos) (tLZip X.K ta) := by
  constructor
  intro pins s σ H Q I h
  refine Call_ (ld_blt I hg2 hm2 boot_list (PyProof.Rows.callWith_type1 (args_cons ?_ hl) hl))
  refine Call_ (ld_blt I hg hm PyProof.Rows.boot_zip (PyProof.Rows.callWith_type1 (thn (ha.run zpos pins s σ H _ I h) fun us s1 ⟨vs, H1, I1, r1, q1⟩ => ?_) hs hpl))
  obtain ⟨a, b, xs, ys, ex, ⟨hqx, hqy⟩, q⟩ := q1
  subst ex
  cases r1 with
  | cons r rr =>
    cases rr with
    | cons r' rr =>
      cases rr
      cases r
      cases r'
      obtain ⟨its, rv, p1, hz1⟩ := I1.tuple hqx
      obtain ⟨jts, rv2, p2', hz2⟩ := I1.tuple hqy
      have l1 := rv.length
      have l2 := rv2.length
      obtain ⟨o1, ho1, _⟩ := id p1
      obtain ⟨o2, ho2, _⟩ := id p2'
      refine RZ.call_zipT (show s1.heap.IsTuple a its.toArray from p1) (show s1.heap.IsTuple b jts.toArray from p2') fun h' z hTI hTO g1 g2 hsz hk => args_nil ?_
      have D := PySem.W.ktu_apart s1.heap.objs.size a b (Heap.lt_size ho1) (Heap.lt_size ho2)
      have t1 : h'.IsTuple a its.toArray := Heap.IsTuple.at (show s1.heap.IsTuple a its.toArray from p1) fun o e => hk _ o e
      have t2 : h'.IsTuple b jts.toArray := Heap.IsTuple.at (show s1.heap.IsTuple b jts.toArray from p2') fun o e => hk _ o e
      refine zl_call (s := { s1 with heap := h' }) (I1.ok.hd hc) D rfl (by rw [List.size_toArray, List.size_toArray]; omega) z hTI ⟨_, _, hTO⟩ g1 g2 t1 t2 fun h2 tk acc c as kp eS el hG hacc => ?_
      dsimp only at kp eS hG hacc ⊢
      have up : ∀ b o, s1.heap.get? b = some o → h2.get? b = some o := fun b o e => by
        have hb := Heap.lt_size e
        have lt : ∀ m, b ≠ s1.heap.objs.size + m := fun m z => by
          rw [z] at hb
          exact Nat.lt_irrefl _ (Nat.lt_of_le_of_lt (Nat.le_add_right _ _) hb)
        exact kp b o (lt 4) (lt 3) (lt 0) (lt 1) (hk b o e)
      obtain ⟨H', zd, J⟩ := zd_laid (tk := tk) I1 rv rv2 (by rw [el, List.size_toArray, List.size_toArray]) (by rw [el, List.size_toArray, List.size_toArray]; omega) up (by rw [hsz]; exact Nat.le_add_right _ _) (Nat.lt_succ_self _) eS hG hacc
      exact ⟨.ref _, H', J, rfl, q H' _ as zd⟩
end
end DL
set_option Elab.async false
set_option linter.all false
set_option maxRecDepth 100000
set_option maxHeartbeats 4000001
/-! DLZ: list(zip(t, u)) as a rule over data. -/
namespace DL
open PySem PyProof.Rows PySem.Spec L2 RZ StX
variable [Tbs]
section
variable {X : Cx} {Kf : PySem.W.Frag} {B : Bs} {W : WX} {n : Nat} {a b c e : Expr} {es : List Expr} {ta tb tc te : TE} {ma mb mc me : M D} {pos p p2 p3 apos : Pos} {ts : TA} {ms : M (List D)} {x k : Str} {i : Nat}
/-- what is newly there is frozen -/
theorem Ok.ext {F F' : Hp} {ρ : Rho} {w : Wo} {σ : L2.St} {H H' : Hp} (k : Ok B F ρ w σ H) (hH : ∀ b o, H b = some o → H' b = some o) (sF : Sub F F') (new : ∀ b o, F' b = some o → F b = some o ∨ (noTb (H b) = none ∧ ∀ ps, o ≠ .tbl ps)) (sub : Sub F' H') : Ok B F' ρ w σ H' := by
  have old : ∀ b o, H b = some o → (∀ ps, o ≠ .tbl ps) → F b = none → F' b = none := fun b o e nt f => by
    cases q : F' b with
    | none => rfl
    | some u =>
      rcases new b u q with z | z
      · rw [f] at z; cases z
      · exact (noTb_no z.1 e nt).elim
  refine ⟨sub, ⟨k.go.sub.trans sF, fun b o e n nt => hH b o (k.go.keep b o e n nt), fun b o e => ?_, k.go.old, k.go.new, fun _ => k.tab.ext hH⟩, ?_, k.len, fun i d e => ?_, fun i ds e => ?_, k.inj, k.tab.ext hH, fun b ps e => (new b _ e).elim (fun z => k.nt b ps z) fun z => z.2 ps rfl⟩
  · rcases new b o e with z | z
    · exact k.go.frs b o z
    · exact .inr ⟨k.go.back k.wd z.1, z.2⟩
  · have kw := k.wd
    cases w with
    | none => trivial
    | some w =>
      obtain ⟨g1, g2, g3, g4, g5⟩ := kw
      exact ⟨old _ _ g4 (fun _ z => by cases z) g1, old _ _ g5 (fun _ z => by cases z) g2, g3, hH _ _ g4, hH _ _ g5⟩
  · obtain ⟨v, h1, h2⟩ := k.val i d e
    exact ⟨v, h1, h2.up sF⟩
  · obtain ⟨q, vs, h1, h2, h3, h4, h5, h6⟩ := k.own i ds e
    exact ⟨q, vs, h1, hH _ _ h2, old _ _ h2 (fun _ z => by cases z) h3, h4, h5, h6.up sF⟩
theorem RpAll.of_get {K : PySem.W.Frag} {F : Hp} : ∀ {vs : List V} {ds : List D}, vs.length = ds.length → (∀ (j : Nat) v d, vs[j]? = some v → ds[j]? = some d → Rp K F v d) → RpAll K F vs ds
  | [], [], _, _ => .nil
  | [], _ :: _, h,
        _ => by cases h
  | _ :: _, [], h,
        _ => by cases h
  | v :: vs, d :: ds, h, g => .cons (g 0 v d rfl rfl) (RpAll.of_get (Nat.succ.inj h) fun j v d e f => g (j + 1) v d e f)
def lzipD : List D → Option D
  | [.tup xs, .tup ys] => some (.lst ((xs.zip ys).map fun p => .tup [p.1, p.2]))
  | _ => none
def mLZip (ms : M (List D)) : M D := bnd ms fun ds => lft (lzipD ds)
theorem se_lzip (q : Cq Kf X B W n) (hg2 : Gl X "list") (hm2 : X.mg "list" = none) (hg : Gl X "zip") (hm : X.mg "zip" = none) (ha : SA X B W [a, b] ts ms) (hs : starEach [a, b] X.env = (false, eval a X.env) :: starEach [b] X.env := by rfl) (hpl : (backTo p3 (starEach [b] X.env)).any (·.1) = false := by rfl)
    (hl : starEach [.Call (.Name "zip" p2) [a, b] [] p3] X.env = (false, eval (.Call (.Name "zip" p2) [a, b] [] p3) X.env) :: starEach [] X.env := by rfl) : SE X B W (.Call (.Name "list" p) [.Call (.Name "zip" p2) [a, b] [] p3] [] pos) (tLZip Kf ts) (mLZip ms) := by
  cases q.hX
  refine ⟨pe_lzip q.calm hg2 hm2 hg hm ha.pa hs hpl hl, ?_⟩
  rw [q.hK]
  refine Sim.bnd (R' := RV B) (k := fun ds => lft (lzipD ds)) (tk := fun vs σ H Q => ∃ a b xs ys, vs = [V.ref a, V.ref b] ∧ (SqT B.K H a xs ∧ SqT B.K H b ys) ∧ ∀ H' p ts, Zd H H' p ts xs ys → Q (.ref p) H') ha.sim fun d ρ w r hr v F σ H ok rv Q p => ?_
  obtain ⟨z, hz, e1⟩ := lft_some hr
  subst e1
  unfold lzipD at hz
  split at hz
  · rename_i ds1 ds2
    cases hz
    obtain ⟨u1, u2, e, r1, r2⟩ := rv.two
    subst e
    cases r1 with
    | tup h1 r1 =>
      cases r2 with
      | tup h2 r2 =>
        rename_i A1 vs1 A2 vs2
        refine ⟨A1, A2, vs1, vs2, rfl, ⟨(ok.sub.sqP h1).sqT, (ok.sub.sqP h2).sqT⟩, fun H' P ts zd => ?_⟩
        let F' : Hp := fun b => if (H b).isNone then noTb (H' b) else F b
        have at_new : ∀ b, H b = none → F' b = noTb (H' b) := fun b h => by
          show (if (H b).isNone then noTb (H' b) else F b) = noTb (H' b)
          rw [h]
          rfl
        have at_old : ∀ b o, H b = some o → F' b = F b := fun b o h => by
          show (if (H b).isNone then noTb (H' b) else F b) = F b
          rw [h]
          rfl
        have sF : Sub F F' := fun b o e => by
          rw [at_old b o (ok.sub b o e)]
          exact e
        have sub : Sub F' H' := fun b o e => by
          cases g : H b with
          | none => rw [at_new b g] at e; exact (noTb_some e).1
          | some u =>
            rw [at_old b u g] at e
            exact zd.ext b o (ok.sub b o e)
        have ok' : Ok B F' ρ w σ H' := ok.ext zd.ext sF (fun b o e => by
          cases g : H b with
          | none => rw [at_new b g] at e; exact .inr ⟨rfl, (noTb_some e).2⟩
          | some u => rw [at_old b u g] at e; exact .inl e) sub
        refine p _ F' H' sF ok' (.lst (vs := ts.map V.ref) (by rw [at_new _ zd.p0, zd.at']; rfl) (.of_get ?_ fun j v d e f => ?_))
        · rw [List.length_map, List.length_map, List.length_zip, zd.len, r1.length, r2.length]
        · rw [List.getElem?_map] at e f
          cases g : ts[j]? with
          | none => rw [g] at e; cases e
          | some t =>
            rw [g] at e
            cases e
            cases gz : (ds1.zip ds2)[j]? with
            | none => rw [gz] at f; cases f
            | some pr =>
              rw [gz] at f
              cases f
              rw [List.getElem?_zip_eq_some] at gz
              obtain ⟨n1, x, y, o, k1, k2, k3, k4, k5, k6⟩ := zd.prs j t g
              obtain ⟨x1, m1, m2⟩ := r1.get gz.1
              obtain ⟨y1, m3, m4⟩ := r2.get gz.2
              rw [k1] at m1
              rw [k2] at m3
              cases m1
              cases m3
              exact .tup (.inl ⟨o, by rw [at_new _ n1, k6]; rfl, k3, k4, k5⟩) (.cons (m2.up sF) (.cons (m4.up sF) .nil))
  · cases hz
end
end DL
set_option Elab.async false
set_option linter.all false
set_option maxRecDepth 100000
set_option maxHeartbeats 4000001
/-! DLQ: loops over the monad by what stays true. -/
namespace DL
open PySem PyProof.Rows PySem.Spec L2 RZ StX
variable [Tbs]
inductive All2 {α β : Type} (P : α → β → Prop) : List α → List β → Prop
  | nil : All2 P [] []
  | cons {a : α} {b : β} {as : List α} {bs : List β} : P a b → All2 P as bs → All2 P (a :: as) (b :: bs)
theorem All2.length {α β : Type} {P : α → β → Prop} : ∀ {as : List α} {bs : List β}, All2 P as bs → bs.length = as.length
  | _, _, .nil => rfl
  | _, _, .cons _ t => by rw [List.length_cons, List.length_cons, All2.length t]
theorem All2.eq {α β : Type} {f : α → β} : ∀ {as : List α} {bs : List β}, All2 (fun a b => b = f a) as bs → bs = as.map f
  | _, _, .nil => rfl
  | _, _, .cons h t => by rw [List.map_cons, ← All2.eq t, ← h]
/-- the same frame but for the slot i -/
def But (i : Nat) (ρ ρ' : Rho) : Prop := ρ'.set i .free = ρ.set i .free
theorem But.refl (i : Nat) (ρ : Rho) : But i ρ ρ := rfl
theorem But.trans {i : Nat} {ρ ρ1 ρ2 : Rho} (a : But i ρ ρ1) (b : But i ρ1 ρ2) : But i ρ ρ2 := Eq.trans b a
theorem But.set {i : Nat} {ρ ρ' : Rho} (a : But i ρ ρ') (s : Slot) : But i ρ (ρ'.set i s) := by
  unfold But
  rw [List.set_set]
  exact a
/-- [me for d in ds] with one slot: each turn gives an item that suits, the world stays right -/
theorem lc_inv {i : Nat} {me : M D} {ρ : Rho} {I : Wo → Prop} {P : D → D → Prop} : ∀ (ds : List D), (∀ d ∈ ds, ∀ w, I w → ∃ y w', me ((ρ.set i .free).set i (.val d)) w = some (.ok y ((ρ.set i .free).set i (.val d)) w') ∧ P d y ∧ I w') →
    ∀ (ρ1 : Rho) (w : Wo), But i ρ ρ1 → I w → ∃ ys ρ' w', lcLoop [i] (bName i) (ret true) me ds ρ1 w = some (ys, ρ', w') ∧ All2 P ds ys ∧ I w' ∧ But i ρ ρ'
  | [], _, ρ1, w, hb, hI => ⟨[], ρ1, w, rfl, .nil, hI, hb⟩
  | d :: ds, h, ρ1, w, hb, hI => by
    obtain ⟨y, w1, e1, p1, i1⟩ := h d List.mem_cons_self w hI
    have hw : wipeR ρ1 [i] = ρ.set i .free := hb
    obtain ⟨ys, ρ', w', e2, p2, i2, b2⟩ := lc_inv ds (fun d hd => h d (List.mem_cons_of_mem _ hd)) ((ρ.set i .free).set i (.val d)) w1 (by unfold But; rw [List.set_set, List.set_set]) i1
    refine ⟨y :: ys, ρ', w', ?_, .cons p1 p2, i2, b2⟩
    unfold lcLoop
    rw [hw]
    show ((match me ((ρ.set i .free).set i (.val d)) w with
      | some (.ok y ρ2 w2) => (lcLoop [i] (bName i) (ret true) me ds ρ2 w2).map fun (z : List D × Rho × Wo) => (y :: z.1, z.2)
      | _ => none)) = _
    rw [e1]
    dsimp only
    rw [e2]
    rfl
/-- for d in ds: each turn keeps what is true -/
theorem for_inv {bd : D → Rho → Option Rho} {mb : M Fl} {I : Rho → Wo → Prop} : ∀ (ds : List D), (∀ d ∈ ds, ∀ ρ w, I ρ w → ∃ ρ0 ρ' w', bd d ρ = some ρ0 ∧ (mb ρ0 w = some (.ok .nx ρ' w') ∨ mb ρ0 w = some (.ok .ct ρ' w')) ∧ I ρ' w') →
    ∀ ρ w, I ρ w → ∃ ρ' w', forL bd mb ds ρ w = some (.ok .nx ρ' w') ∧ I ρ' w'
  | [], _, ρ, w, h => ⟨ρ, w, rfl, h⟩
  | d :: ds, g, ρ, w, h => by
    obtain ⟨ρ0, ρ1, w1, e1, e2, h1⟩ := g d List.mem_cons_self ρ w h
    obtain ⟨ρ', w', e3, h3⟩ := for_inv ds (fun d hd => g d (List.mem_cons_of_mem _ hd)) ρ1 w1 h1
    refine ⟨ρ', w', ?_, h3⟩
    unfold forL
    rw [e1]
    rcases e2 with e2 | e2
    · dsimp only
      rw [e2]
      exact e3
    · dsimp only
      rw [e2]
      exact e3
/-- a comprehension over one slot as an expression -/
theorem mLc_inv {i : Nat} {mi : M (List D)} {me : M D} {ρ : Rho} {w0 w : Wo} {ds : List D} {I : Wo → Prop} {P : D → D → Prop} (h0 : mi ρ w0 = some (.ok ds ρ w)) (hl : ds.length ≤ 100000) (hI : I w) (h : ∀ d ∈ ds, ∀ w, I w → ∃ y w', me ((ρ.set i .free).set i (.val d)) w = some (.ok y ((ρ.set i .free).set i (.val d)) w') ∧ P d y ∧ I w') :
    ∃ ys w', mLc [i] mi (bName i) (ret true) me ρ w0 = some (.ok (.lst ys) (ρ.set i .free) w') ∧ All2 P ds ys ∧ I w' := by
  obtain ⟨ys, ρ', w', e, p, hI', b⟩ := lc_inv ds h ρ w (But.refl i ρ) hI
  refine ⟨ys, w', ?_, p, hI'⟩
  have f : nLc [i] mi (bName i) (ret true) me ρ w0 = some (.ok ys (ρ.set i .free) w') := by
    unfold nLc
    rw [bnd_ok h0]
    rw [if_pos hl, e]
    show some (Rs.ok ys (wipeR ρ' [i]) w') = _
    have hb : wipeR ρ' [i] = ρ.set i .free := b
    rw [hb]
  unfold mLc
  rw [bnd_ok f]
  rfl
end DL
set_option Elab.async false
set_option linter.all false
set_option maxRecDepth 100000
set_option maxHeartbeats 4000001
/-! DLY: types, their values and places. -/
namespace DL
open PySem PyProof.Rows PySem.Spec L2 RZ StX
variable [Tbs]
inductive Ty where
  | lot (ws : List Str)
  | cnt (n : Int)
  | pair (a b : Ty)
def Ty.d : Ty → D
  | .lot ws => .tup [.str "lot", .tup (ws.map .str)]
  | .cnt n => .tup [.str "count", .int n]
  | .pair a b => .tup [.str "pair", a.d, b.d]
def Ty.many : Ty → Int
  | .lot ws => ws.length
  | .cnt n => n
  | .pair a b => a.many * b.many
def Ty.deep : Ty → Nat
  | .pair a b => max a.deep b.deep + 1
  | _ => 0
/-- not too great -/
def Ty.small : Ty → Prop
  | .lot ws => 1 ≤ ws.length ∧ ws.length ≤ 1000
  | .cnt n => 1 ≤ n ∧ n ≤ 1000
  | .pair a b => a.small ∧ b.small ∧ a.many * b.many ≤ 100000
theorem Ty.many_le : ∀ (t : Ty), t.small → 1 ≤ t.many ∧ t.many ≤ 100000
  | .lot ws, h => ⟨by show (1 : Int) ≤ (ws.length : Nat); have := h.1; omega, by show ((ws.length : Nat) : Int) ≤ 100000; have := h.2; omega⟩
  | .cnt n, h => ⟨h.1, by show n ≤ 100000; have := h.2; omega⟩
  | .pair a b, h => by
    obtain ⟨ha, hb, hm⟩ := h
    have h1 := Ty.many_le a ha
    have h2 := Ty.many_le b hb
    refine ⟨?_, hm⟩
    show 1 ≤ a.many * b.many
    have := Int.mul_le_mul h1.1 h2.1 (by decide) (by omega)
    simpa using this
theorem inB_small {i : Int} (h : -1000000 ≤ i ∧ i ≤ 1000000) : inB i = true := by
  unfold inB
  rw [Bool.and_eq_true,
        decide_eq_true_eq, decide_eq_true_eq]
  omega
def countM (c : Fn1) : M Fl := (mSeq (mIte (mBinT eqD (mBin ixD (getS 0) (ret (.int 0))) (ret (.str "pair"))) (mRet (mBin mulD (mCall 1 c (mCons (mBin ixD (getS 0) (ret (.int 1))) mNil)) (mCall 1 c (mCons (mBin ixD (getS 0) (ret (.int 2))) mNil)))) (ret .nx)) (mSeq (mIte (mBinT eqD (mBin ixD (getS 0) (ret (.int 0))) (ret (.str "lot"))) (mRet (bnd (mCons (mBin ixD (getS 0) (ret (.int 1))) mNil) fun ds => lft (lenD ds))) (ret .nx)) (mRet (mBin ixD (getS 0) (ret (.int 1))))))
theorem at0 (a : D) (r : List D) : atI (a :: r) 0 = some a := atI_nat (j := 0) rfl
theorem at1 (a b : D) (r : List D) : atI (a :: b :: r) 1 = some b := atI_nat (j := 1) rfl
theorem at2 (a b c : D) (r : List D) : atI (a :: b :: c :: r) 2 = some c := atI_nat (j := 2) rfl
theorem eq_str (x y : Str) : eqD (.str x) (.str y) = some (.bl (x == y)) := by
  simp [eqD, dat, deq]
theorem s1 : ((Str.ofString "lot") == (Str.ofString "pair")) = false := by decide +kernel
theorem s2 : ((Str.ofString "count") == (Str.ofString "pair")) = false := by decide +kernel
theorem s3 : ((Str.ofString "count") == (Str.ofString "lot")) = false := by decide +kernel
theorem s4 : ((Str.ofString "pair") == (Str.ofString "pair")) = true := by decide +kernel
theorem s5 : ((Str.ofString "lot") == (Str.ofString "lot")) = true := by decide +kernel
theorem count_spec {c : Nat → Fn1} (hc : ∀ n, c (n + 1) = gOf 1 1 (countM (c n))) (w : Wo) : ∀ (t : Ty), t.small → ∀ n, t.deep < n → c n [t.d] w = some (.ok (.int t.many) w)
  | _, _, 0, h => absurd h (Nat.not_lt_zero _)
  | .lot ws, hs, n + 1, h => by
    rw [hc]
    simp [gOf, countM, mSeq, mIte, mRet, mBinT, mBin, bnd, getS, ret, ixD, lft, Ty.d, Ty.many, at0, at1, eq_str, asB, mCons, mNil, lenD, s1, s5]
  | .cnt k, hs, n + 1, h => by
    rw [hc]
    simp [gOf, countM, mSeq, mIte, mRet, mBinT, mBin, bnd, getS, ret, ixD, lft, Ty.d, Ty.many, at0, at1, eq_str, asB, mCons, mNil, lenD, s2, s3]
  | .pair a b, hs, n + 1, h => by
    have hd : max a.deep b.deep + 1 < n + 1 := h
    have ea := count_spec hc w a hs.1 n (by omega)
    have eb := count_spec hc w b hs.2.1 n (by omega)
    have ib : inB a.many = true := inB_small (by have := a.many_le hs.1; omega)
    rw [hc]
    simp [gOf, countM, mSeq, mIte, mRet, mBinT, mBin, bnd, getS, ret, ixD, lft, Ty.d, Ty.many, at0, at1, at2, eq_str, asB, mCons, mNil, mCall, s4, ea, eb, mulD, ib]
/-! ### all values of a type -/
def Ty.vals : Ty → List D
  | .lot ws => ws.map .str
  | .cnt n => rgs 0 n.toNat
  | .pair a b => a.vals.flatMap fun x => b.vals.map fun y => .tup [x, y]
theorem Ty.vals_len : ∀ (t : Ty), t.small → (t.vals.length : Int) = t.many
  | .lot ws, _ => by simp [Ty.vals, Ty.many]
  | .cnt n, h => by
    have := h.1
    simp [Ty.vals, Ty.many, rgs]
    omega
  | .pair a b, h => by
    have ha := a.vals_len h.1
    have hb := b.vals_len h.2.1
    show (((a.vals.flatMap fun x => b.vals.map fun y => D.tup [x, y]).length : Nat) : Int) = a.many * b.many
    rw [← ha, ← hb]
    have e : ∀ l : List D, (l.flatMap fun x => b.vals.map fun y => D.tup [x, y]).length = l.length * b.vals.length := fun l => by
      induction l with
      | nil => simp
      | cons x l ih => rw [List.flatMap_cons, List.length_append, ih, List.length_map, List.length_cons, Nat.succ_mul, Nat.add_comm]
    rw [e]
    exact Int.natCast_mul _ _
def valuesM (c : Fn1) : M Fl := (mSeq (mIte (mBinT eqD (mBin ixD (getS 0) (ret (.int 0))) (ret (.str "lot"))) (mRet (bnd (mCons (mBin ixD (getS 0) (ret (.int 1))) mNil) fun ds => lft (listD ds))) (ret .nx)) (mSeq (mIte (mBinT eqD (mBin ixD (getS 0) (ret (.int 0))) (ret (.str "count"))) (mRet (mLRange1 (mBin ixD (getS 0) (ret (.int 1))))) (ret .nx)) (mSeq (mPar 1 2 (mCons (mLst mNil) (mCons (mCall 1 c (mCons (mBin ixD (getS 0) (ret (.int 2))) mNil)) mNil))) (mSeq (mFor (bnd (mCall 1 c (mCons (mBin ixD (getS 0) (ret (.int 1))) mNil)) fun d => lft (itemsD d)) (bName 3) (mSet 1 (mBin addD (getS 1) (mLc [4] (bnd (getS 2) fun d => lft (itemsD d)) (bName 4) (ret true) (mTup (mCons (getS 3) (mCons (getS 4) mNil))))))) (mRet (getS 1))))))
def valB : M Fl := mSet 1 (mBin addD (getS 1) (mLc [4] (bnd (getS 2) fun d => lft (itemsD d)) (bName 4) (ret true) (mTup (mCons (getS 3) (mCons (getS 4) mNil)))))
theorem valB_run (T u : Slot) (acc ys : List D) (x : D) (w : Wo) (h : acc.length + ys.length ≤ 100000) : valB [T, .val (.lst acc), .val (.lst ys), .val x, u] w = some (.ok .nx [T, .val (.lst (acc ++ ys.map fun y => .tup [x, y])), .val (.lst ys), .val x, .free] w) := by
  obtain ⟨zs, w', e, p, ew⟩ := mLc_inv (i := 4) (mi := bnd (getS 2) fun d => lft (itemsD d)) (me := mTup (mCons (getS 3) (mCons (getS 4) mNil))) (ρ := [T, .val (.lst acc), .val (.lst ys), .val x, u]) (w0 := w) (w := w) (ds := ys) (I := fun v => v = w) (P := fun d y => y = .tup [x, d])
    (by simp [bnd, getS, lft, itemsD]) (by omega) rfl (fun d _ v hv => ⟨.tup [x, d], v, by simp [mTup, bnd, mCons, mNil, getS, ret], rfl, hv⟩)
  subst ew
  have ez := p.eq
  subst ez
  have hl : acc.length + (ys.map fun d => D.tup [x, d]).length ≤ 100000 := by rw [List.length_map]; exact h
  unfold valB mSet mBin
  have g1 : getS 1 [T, .val (.lst acc), .val (.lst ys), .val x, u] w' = some (.ok (.lst acc) [T, .val (.lst acc), .val (.lst ys), .val x, u] w') := rfl
  have e2 : bnd (getS 1) (fun a => bnd (mLc [4] (bnd (getS 2) fun d => lft (itemsD d)) (bName 4) (ret true) (mTup (mCons (getS 3) (mCons (getS 4) mNil)))) fun b => lft (addD a b)) [T, .val (.lst acc), .val (.lst ys), .val x, u] w' = some (.ok (.lst (acc ++ ys.map fun d => .tup [x, d])) [T, .val (.lst acc), .val (.lst ys), .val x, .free] w') := by
    rw [bnd_ok g1, bnd_ok e]
    simp only [lft, addD]
    rw [if_pos hl]
    rfl
  rw [bnd_ok e2]
  rfl
theorem valF_run (T : Slot) (ys : List D) (w : Wo) : ∀ (xs acc : List D) (v u : Slot), acc.length + xs.length * ys.length ≤ 100000 → ∃ v' u', forL (bName 3) valB xs [T, .val (.lst acc), .val (.lst ys), v, u] w =
    some (.ok .nx [T, .val (.lst (acc ++ xs.flatMap fun x => ys.map fun y => .tup [x, y])), .val (.lst ys), v', u'] w)
  | [], acc, v, u, _ => ⟨v, u, by simp [forL]⟩
  | x :: xs, acc, v, u, h => by
    rw [List.length_cons, Nat.succ_mul] at h
    obtain ⟨v', u', e⟩ := valF_run T ys w xs (acc ++ ys.map fun y => .tup [x, y]) (.val x) .free (by rw [List.length_append, List.length_map]; omega)
    refine ⟨v', u', ?_⟩
    unfold forL
    show (match valB [T, .val (.lst acc), .val (.lst ys), .val x, u] w with
      | some (.ok .nx ρ1 w1) => forL (bName 3) valB xs ρ1 w1
      | some (.ok .ct ρ1 w1) => forL (bName 3) valB xs ρ1 w1
      | some (.ok .br ρ1 w1) => some (.ok .nx ρ1 w1)
      | some (.ok (.rt d') ρ1 w1) => some (.ok (.rt d') ρ1 w1)
      | some (.exc x ρ1 w1) => some (.exc x ρ1 w1)
      | none => none) = _
    rw [valB_run T u acc ys x w (by omega)]
    dsimp only
    rw [e, List.flatMap_cons, List.append_assoc]
theorem s6 : ((Str.ofString "count") == (Str.ofString "count")) = true := by decide +kernel
theorem s7 : ((Str.ofString "pair") == (Str.ofString "lot")) = false := by decide +kernel
theorem s8 : ((Str.ofString "pair") == (Str.ofString "count")) = false := by decide +kernel
theorem values_spec {c : Nat → Fn1} (hc : ∀ n, c (n + 1) = gOf 1 5 (valuesM (c n))) (w : Wo) : ∀ (t : Ty), t.small → ∀ n, t.deep < n → c n [t.d] w = some (.ok (.lst t.vals) w)
  | _, _, 0, h => absurd h (Nat.not_lt_zero _)
  | .lot ws, hs, n + 1, h => by
    rw [hc]
    simp [gOf, valuesM, mSeq, mIte, mRet, mBinT, mBin, bnd, getS, ret, ixD, lft, Ty.d, Ty.vals, at0, at1, eq_str, asB, mCons, mNil, listD, s5]
  | .cnt k, hs, n + 1, h => by
    have hk := hs
    unfold Ty.small at hk
    have hb : 0 ≤ k ∧ k ≤ 100000 := by omega
    have e0 : (-100000 : Int) ≤ 0 ∧ (0 : Int) ≤ 100000 ∧ -100000 ≤ k ∧ k ≤ 100000 := by omega
    rw [hc]
    simp [gOf, valuesM, mSeq, mIte, mRet, mBinT, mBin, bnd, getS, ret, ixD, lft, Ty.d, Ty.vals, at0, at1, eq_str, asB, mCons, mNil, mLRange1, nLr1, kInt, kLr, s3, s6, e0]
  | .pair a b, hs, n + 1, h => by
    have hd : max a.deep b.deep + 1 < n + 1 := h
    have ea := values_spec hc w a hs.1 n (by omega)
    have eb := values_spec hc w b hs.2.1 n (by omega)
    have la := a.vals_len hs.1
    have lb := b.vals_len hs.2.1
    have lm := hs.2.2
    obtain ⟨v', u', ef⟩ := valF_run (.val (Ty.pair a b).d) b.vals w a.vals [] .free .free (by
      rw [← la, ← lb, ← Int.natCast_mul] at lm
      simp only [List.length_nil, Nat.zero_add]
      omega)
    rw [List.nil_append] at ef
    have e1 : mPar 1 2 (mCons (mLst mNil) (mCons (mCall 1 (c n) (mCons (mBin ixD (getS 0) (ret (.int 2))) mNil)) mNil)) [.val (Ty.pair a b).d, .free, .free, .free, .free] w = some (.ok .nx [.val (Ty.pair a b).d, .val (.lst []), .val (.lst b.vals), .free, .free] w) := by
      simp [mPar, kPar, bnd, mCons, mLst, mNil, mCall, mBin, getS, ret, Ty.d, ixD, at2, lft, eb]
    have e2 : (bnd (mCall 1 (c n) (mCons (mBin ixD (getS 0) (ret (.int 1))) mNil)) fun d => lft (itemsD d)) [.val (Ty.pair a b).d, .val (.lst []), .val (.lst b.vals), .free, .free] w = some (.ok a.vals [.val (Ty.pair a b).d, .val (.lst []), .val (.lst b.vals), .free, .free] w) := by
      simp [bnd, mCons, mNil, mCall, mBin, getS, ret, Ty.d, ixD, at1, lft, ea, itemsD]
    have e3 : (mFor (bnd (mCall 1 (c n) (mCons (mBin ixD (getS 0) (ret (.int 1))) mNil)) fun d => lft (itemsD d)) (bName 3) valB) [.val (Ty.pair a b).d, .val (.lst []), .val (.lst b.vals), .free, .free] w = some (.ok .nx [.val (Ty.pair a b).d, .val (.lst (Ty.pair a b).vals), .val (.lst b.vals), v', u'] w) := by
      unfold mFor
      rw [bnd_ok e2]
      exact ef
    rw [hc]
    have e0 : valuesM (c n) [.val (Ty.pair a b).d, .free, .free, .free, .free] w = some (.ok (.rt (.lst (Ty.pair a b).vals)) [.val (Ty.pair a b).d, .val (.lst (Ty.pair a b).vals), .val (.lst b.vals), v', u'] w) := by
      unfold valuesM
      rw [seq_nx (ρ' := [.val (Ty.pair a b).d, .free, .free, .free, .free]) (w' := w) (by simp [mIte, mBinT, mBin, bnd, getS, ret, ixD, lft, Ty.d, at0, eq_str, asB, s7])]
      rw [seq_nx (ρ' := [.val (Ty.pair a b).d, .free, .free, .free, .free]) (w' := w) (by simp [mIte, mBinT, mBin, bnd, getS, ret, ixD, lft, Ty.d, at0, eq_str, asB, s8])]
      rw [seq_nx e1]
      have e3' := e3
      unfold valB at e3'
      rw [seq_nx e3']
      rfl
    show (match valuesM (c n) [.val (Ty.pair a b).d, .free, .free, .free, .free] w with
      | some (.ok .nx _ w') => some (Fr.ok .non w')
      | some (.ok (.rt d) _ w') => some (.ok d w')
      | some (.exc x _ w') => some (.exc x w')
      | _ => none) = _
    rw [e0]
end DL
set_option Elab.async false
set_option linter.all false
set_option maxRecDepth 100000
set_option maxHeartbeats 4000001
/-! DLS: standings. -/
namespace DL
open PySem PyProof.Rows PySem.Spec L2 RZ StX
variable [Tbs]
mutual
theorem datU : ∀ (n : Nat) (d : D), dat n d = true → dat (n + 1) d = true
  | n, .non, _ => by simp [dat]
  | n, .bl _, _ => by simp [dat]
  | n, .int _, _ => by simp [dat]
  | n, .str _, _ => by simp [dat]
  | 0, .lst _, h => by simp [dat] at h
  | 0, .tup _, h => by simp [dat] at h
  | n + 1, .lst a, h => by
    simp only [dat] at h ⊢
    exact datsU n a h
  | n + 1, .tup a, h => by
    simp only [dat] at h ⊢
    exact datsU n a h
  | n, .dct _ _, h => by cases n <;> simp [dat] at h
  | n, .raw _, h => by cases n <;> simp [dat] at h
  | n, .fn _, h => by cases n <;> simp [dat] at h
  | n, .pr _ _, h => by cases n <;> simp [dat] at h
  | n, .rol _, h => by cases n <;> simp [dat] at h
theorem datsU : ∀ (n : Nat) (d : List D), dats n d = true → dats (n + 1) d = true
  | n, [], _ => by simp [dats]
  | n, d :: ds, h => by
    simp only [dats, Bool.and_eq_true] at h ⊢
    exact ⟨datU n d h.1, datsU n ds h.2⟩
end
theorem dat_to {n m : Nat} {d : D} (h : dat n d = true) (l : n ≤ m) : dat m d = true := by
  induction l with
  | refl => exact h
  | step _ ih => exact datU _ _ ih
mutual
theorem deq_refl : ∀ (n : Nat) (d : D), dat n d = true → deq d d = true
  | n, .non, _ => by simp [deq]
  | n, .bl _, _ => by simp [deq]
  | n, .int _, _ => by simp [deq]
  | n, .str _, _ => by simp [deq]
  | 0, .lst _, h => by simp [dat] at h
  | 0, .tup _, h => by simp [dat] at h
  | n + 1, .lst a, h => by
    simp only [dat] at h
    simp only [deq]
    exact deqs_refl n a h
  | n + 1, .tup a, h => by
    simp only [dat] at h
    simp only [deq]
    exact deqs_refl n a h
  | n, .dct _ _, h => by cases n <;> simp [dat] at h
  | n, .raw _, h => by cases n <;> simp [dat] at h
  | n, .fn _, h => by cases n <;> simp [dat] at h
  | n, .pr _ _, h => by cases n <;> simp [dat] at h
  | n, .rol _, h => by cases n <;> simp [dat] at h
theorem deqs_refl : ∀ (n : Nat) (d : List D), dats n d = true → deqs d d = true
  | n, [], _ => by simp [deqs]
  | n, d :: ds, h => by
    simp only [dats, Bool.and_eq_true] at h
    simp only [deqs, Bool.and_eq_true]
    exact ⟨deq_refl n d h.1, deqs_refl n ds h.2⟩
end
inductive St where
  | unk | abs | thr | cla | val (d : D)
def St.d : St → D
  | .unk => .tup [.str "unknown"]
  | .abs => .tup [.str "absent"]
  | .thr => .tup [.str "there"]
  | .cla => .tup [.str "clash"]
  | .val d => .tup [.str "value", d]
/-- its value is data, not too deep -/
def St.ok : St → Prop
  | .val d => dat 50 d = true
  | _ => True
def St.isAbs : St → Bool
  | .abs => true
  | _ => false
def St.isCla : St → Bool
  | .cla => true
  | _ => false
def St.isVal : St → Bool
  | .val _ => true
  | _ => false
def St.isUnk : St → Bool
  | .unk => true
  | _ => false
def St.isThr : St → Bool
  | .thr => true
  | _ => false
def St.here : St → Bool
  | .thr => true
  | .val _ => true
  | _ => false
theorem St.dat58 (s : St) (h : s.ok) : dat 59 s.d = true := by
  cases s with
  | val d => simp [St.d, dat, dats, dat_to h (by decide : 50 ≤ 58)]
  | _ => simp [St.d, dat, dats]
theorem St.dat60 (s : St) (h : s.ok) : dat 60 s.d = true := datU _ _ (s.dat58 h)
theorem eqSt (s t : St) (hs : s.ok) (ht : t.ok) : eqD s.d t.d = some (.bl (deq s.d t.d)) := by
  unfold eqD
  rw [s.dat60 hs, t.dat60 ht]
  rfl
theorem w1 : ((Str.ofString "absent") == (Str.ofString "unknown")) = false := by decide +kernel
theorem w2 : ((Str.ofString "there") == (Str.ofString "unknown")) = false := by decide +kernel
theorem w3 : ((Str.ofString "clash") == (Str.ofString "unknown")) = false := by decide +kernel
theorem w4 : ((Str.ofString "value") == (Str.ofString "unknown")) = false := by decide +kernel
theorem w5 : ((Str.ofString "unknown") == (Str.ofString "absent")) = false := by decide +kernel
theorem w6 : ((Str.ofString "there") == (Str.ofString "absent")) = false := by decide +kernel
theorem w7 : ((Str.ofString "clash") == (Str.ofString "absent")) = false := by decide +kernel
theorem w8 : ((Str.ofString "value") == (Str.ofString "absent")) = false := by decide +kernel
theorem w9 : ((Str.ofString "unknown") == (Str.ofString "there")) = false := by decide +kernel
theorem w10 : ((Str.ofString "absent") == (Str.ofString "there")) = false := by decide +kernel
theorem w11 : ((Str.ofString "clash") == (Str.ofString "there")) = false := by decide +kernel
theorem w12 : ((Str.ofString "value") == (Str.ofString "there")) = false := by decide +kernel
theorem w13 : ((Str.ofString "unknown") == (Str.ofString "clash")) = false := by decide +kernel
theorem w14 : ((Str.ofString "absent") == (Str.ofString "clash")) = false := by decide +kernel
theorem w15 : ((Str.ofString "there") == (Str.ofString "clash")) = false := by decide +kernel
theorem w16 : ((Str.ofString "value") == (Str.ofString "clash")) = false := by decide +kernel
theorem w17 : ((Str.ofString "unknown") == (Str.ofString "value")) = false := by decide +kernel
theorem w18 : ((Str.ofString "absent") == (Str.ofString "value")) = false := by decide +kernel
theorem w19 : ((Str.ofString "there") == (Str.ofString "value")) = false := by decide +kernel
theorem w20 : ((Str.ofString "clash") == (Str.ofString "value")) = false := by decide +kernel
theorem dq_unk (s : St) : deq s.d (St.d .unk) = s.isUnk := by cases s <;> simp [St.d, St.isUnk, deq, deqs, w1, w2, w3, w4]
theorem dq_abs (s : St) : deq s.d (St.d .abs) = s.isAbs := by cases s <;> simp [St.d, St.isAbs, deq, deqs, w5, w6, w7, w8]
theorem dq_thr (s : St) : deq s.d (St.d .thr) = s.isThr := by cases s <;> simp [St.d, St.isThr, deq, deqs, w9, w10, w11, w12]
theorem dq_cla (s : St) : deq s.d (St.d .cla) = s.isCla := by cases s <;> simp [St.d, St.isCla, deq, deqs, w13, w14, w15, w16]
theorem head_val (s : St) : ∃ x r, s.d = .tup (.str x :: r) ∧ (x == (Str.ofString "value")) = s.isVal := by
  cases s with
  | unk => exact ⟨_, _, rfl, w17⟩
  | abs => exact ⟨_, _, rfl, w18⟩
  | thr => exact ⟨_, _, rfl, w19⟩
  | cla => exact ⟨_, _, rfl, w20⟩
  | val d => exact ⟨_, _, rfl, by simp [St.isVal]⟩
/-- below: what may rise to what -/
def St.le : St → St → Prop
  | .unk, _ => True
  | .abs, t => t = .abs ∨ t = .cla
  | .thr, t => t = .thr ∨ t = .cla ∨ ∃ d, t = .val d
  | .cla, t => t = .cla
  | .val d, t => t = .val d ∨ t = .cla
theorem St.le_refl (s : St) : s.le s := by cases s <;> simp [St.le]
theorem St.le_cla (s : St) : s.le .cla := by cases s <;> simp [St.le]
def belowM : M Fl := (mSeq (mIte (mOr (mBinT eqD (getS 0) (getS 1)) (mOr (mBinT eqD (getS 0) (ret (St.d .unk))) (mBinT eqD (getS 1) (ret (St.d .cla))))) (mRet (ret (.bl true))) (ret .nx)) (mRet (mAndV (mBin eqD (getS 0) (ret (St.d .thr))) (mBin eqD (mBin ixD (getS 1) (ret (.int 0))) (ret (.str "value"))))))
theorem below_spec (s t : St) (hs : s.ok) (ht : t.ok) (h : s.le t) (w : Wo) : gOf 2 2 belowM [s.d, t.d] w = some (.ok (.bl true) w) := by
  have e1 := eqSt s t hs ht
  have e2 : eqD s.d (St.d .unk) = some (.bl (deq s.d (St.d .unk))) := eqSt s .unk hs trivial
  have e3 : eqD t.d (St.d .cla) = some (.bl (deq t.d (St.d .cla))) := eqSt t .cla ht trivial
  have e4 : eqD s.d (St.d .thr) = some (.bl (deq s.d (St.d .thr))) := eqSt s .thr hs trivial
  have key : deq s.d t.d = true ∨ deq s.d (St.d .unk) = true ∨ deq t.d (St.d .cla) = true ∨ (deq s.d (St.d .thr) = true ∧ ∃ d, t = .val d) := by
    cases s with
    | unk => exact .inr (.inl (by rw [dq_unk]; rfl))
    | abs =>
      rcases h with e | e
      · subst e; exact .inl (deq_refl 60 _ (St.dat60 .abs trivial))
      · subst e; exact .inr (.inr (.inl (by rw [dq_cla]; rfl)))
    | thr =>
      rcases h with e | e | ⟨d, e⟩
      · subst e; exact .inl (deq_refl 60 _ (St.dat60 .thr trivial))
      · subst e; exact .inr (.inr (.inl (by rw [dq_cla]; rfl)))
      · exact .inr (.inr (.inr ⟨by rw [dq_thr]; rfl, d, e⟩))
    | cla =>
      have e : t = .cla := h
      subst e
      exact .inr (.inr (.inl (by rw [dq_cla]; rfl)))
    | val d =>
      rcases h with e | e
      · subst e; exact .inl (deq_refl 60 _ (St.dat60 (.val d) hs))
      · subst e; exact .inr (.inr (.inl (by rw [dq_cla]; rfl)))
  by_cases c1 : deq s.d t.d = true
  · simp [gOf, belowM, mSeq, mIte, mOr, mRet, mBinT, bnd, getS, ret, asB, e1, c1]
  · rw [Bool.not_eq_true] at c1
    by_cases c2 : deq s.d (St.d .unk) = true
    · simp [gOf, belowM, mSeq, mIte, mOr, mRet, mBinT, bnd, getS, ret, asB, e1, c1, e2, c2]
    · rw [Bool.not_eq_true] at c2
      by_cases c3 : deq t.d (St.d .cla) = true
      · simp [gOf, belowM, mSeq, mIte, mOr, mRet, mBinT, bnd, getS, ret, asB, e1, c1, e2, c2, e3, c3]
      · rw [Bool.not_eq_true] at c3
        rcases key with k | k | k | ⟨k, d, e⟩
        · rw [k] at c1; cases c1
        · rw [k] at c2; cases c2
        · rw [k] at c3; cases c3
        · subst e
          have c3' : deq (D.tup [.str "value", d]) (St.d .cla) = false := c3
          have e3' : eqD (D.tup [.str "value", d]) (St.d .cla) = some (.bl (deq (D.tup [.str "value", d]) (St.d .cla))) := e3
          have e1' : eqD s.d (D.tup [.str "value", d]) = some (.bl (deq s.d (D.tup [.str "value", d]))) := e1
          have c1' : deq s.d (D.tup [.str "value", d]) = false := c1
          show gOf 2 2 belowM [s.d, .tup [.str "value", d]] w = _
          simp [gOf, belowM, mSeq, mIte, mOr, mRet, mBinT, mBin, bnd, getS, ret, asB, e1', c1', e2, c2, e3', c3', e4, k, lft, mAndV, kBool, ixD, at0, eq_str]
end DL
set_option Elab.async false
set_option linter.all false
set_option maxRecDepth 100000
set_option maxHeartbeats 4000001
/-! DLR: standings by their rules. -/
namespace DL
open PySem PyProof.Rows PySem.Spec L2 RZ StX
variable [Tbs]
theorem cons_ok {m : M D} {ms : M (List D)} {ρ ρ1 ρ2 : Rho} {w w1 w2 : Wo} {d : D} {ds : List D} (h : m ρ w = some (.ok d ρ1 w1)) (hs : ms ρ1 w1 = some (.ok ds ρ2 w2)) : mCons m ms ρ w = some (.ok (d :: ds) ρ2 w2) := by
  unfold mCons
  rw [bnd_ok h, bnd_ok hs]
  rfl
/-! ### comprehensions that reckon -/
theorem lc_map {α : Type} {own : List Nat} {bind : D → Rho → Option Rho} {me : M D} {ρ : Rho} {w : Wo} {e f : α → D} : ∀ (xs : List α), (∀ x ∈ xs, ∃ ρ0 ρ2, bind (e x) (wipeR ρ own) = some ρ0 ∧ me ρ0 w = some (.ok (f x) ρ2 w) ∧ wipeR ρ2 own = wipeR ρ own) →
    ∀ ρ1, wipeR ρ1 own = wipeR ρ own → ∃ ρ', lcLoop own bind (ret true) me (xs.map e) ρ1 w = some (xs.map f, ρ', w) ∧ wipeR ρ' own = wipeR ρ own
  | [], _, ρ1, h => ⟨ρ1, rfl, h⟩
  | x :: xs, g, ρ1, h => by
    obtain ⟨ρ0, ρ2, e1, e2, e3⟩ := g x List.mem_cons_self
    obtain ⟨ρ', e4, e5⟩ := lc_map xs (fun y hy => g y (List.mem_cons_of_mem _ hy)) ρ2 e3
    refine ⟨ρ', ?_, e5⟩
    rw [List.map_cons,
          List.map_cons]
    unfold lcLoop
    rw [h, e1]
    show (match me ρ0 w with
      | some (.ok y ρ2 w2) => (lcLoop own bind (ret true) me (xs.map e) ρ2 w2).map fun (z : List D × Rho × Wo) => (y :: z.1, z.2)
      | _ => none) = _
    rw [e2]
    dsimp only
    rw [e4]
    rfl
theorem mLc_map {α : Type} {own : List Nat} {bind : D → Rho → Option Rho} {mi : M (List D)} {me : M D} {ρ : Rho} {w0 w : Wo} {e f : α → D} (xs : List α) (h0 : mi ρ w0 = some (.ok (xs.map e) ρ w)) (hl : xs.length ≤ 100000)
    (h : ∀ x ∈ xs, ∃ ρ0 ρ2, bind (e x) (wipeR ρ own) = some ρ0 ∧ me ρ0 w = some (.ok (f x) ρ2 w) ∧ wipeR ρ2 own = wipeR ρ own) : mLc own mi bind (ret true) me ρ w0 = some (.ok (.lst (xs.map f)) (wipeR ρ own) w) := by
  obtain ⟨ρ', e1, e2⟩ := lc_map xs h ρ rfl
  have g : nLc own mi bind (ret true) me ρ w0 = some (.ok (xs.map f) (wipeR ρ own) w) := by
    unfold nLc
    rw [bnd_ok h0]
    rw [if_pos (by rw [List.length_map]; exact hl), e1]
    show some (Rs.ok (xs.map f) (wipeR ρ' own) w) = _
    rw [e2]
  unfold mLc
  rw [bnd_ok g]
  rfl
theorem bools_map {α : Type} (p : α → Bool) : ∀ xs : List α, bools (xs.map fun x => D.bl (p x)) = some (xs.map p)
  | [] => rfl
  | x :: xs => by
    have ih := bools_map p xs
    simp [bools, ih]
/-! ### lists of standings -/
def stL (l : List St) : D := .lst (l.map St.d)
theorem sts_dats : ∀ (l : List St), (∀ s ∈ l, s.ok) → dats 59 (l.map St.d) = true
  | [], _ => by simp [dats]
  | s :: l, h => by
    rw [List.map_cons]
    simp only [dats, Bool.and_eq_true]
    exact ⟨s.dat58 (h s List.mem_cons_self), sts_dats l fun t ht => h t (List.mem_cons_of_mem _ ht)⟩
theorem mem_abs : ∀ l : List St, memD (St.d .abs) (l.map St.d) = l.any St.isAbs
  | [] => rfl
  | s :: l => by
    rw [List.map_cons, List.any_cons]
    show (deq s.d (St.d .abs) || memD (St.d .abs) (l.map St.d)) = _
    rw [dq_abs, mem_abs l]
theorem mem_cla : ∀ l : List St, memD (St.d .cla) (l.map St.d) = l.any St.isCla
  | [] => rfl
  | s :: l => by
    rw [List.map_cons, List.any_cons]
    show (deq s.d (St.d .cla) || memD (St.d .cla) (l.map St.d)) = _
    rw [dq_cla, mem_cla l]
theorem in_abs (l : List St) (h : ∀ s ∈ l, s.ok) : inD (St.d .abs) (stL l) = some (.bl (l.any St.isAbs)) := by
  unfold inD stL
  simp only
  rw [St.dat60 .abs trivial, sts_dats l h, mem_abs]
  rfl
theorem in_cla (l : List St) (h : ∀ s ∈ l, s.ok) : inD (St.d .cla) (stL l) = some (.bl (l.any St.isCla)) := by
  unfold inD stL
  simp only
  rw [St.dat60 .cla trivial, sts_dats l h, mem_cla]
  rfl
theorem ix_head (s : St) : ∃ x, ixD s.d (.int 0) = some (.str x) ∧ (x == (Str.ofString "value")) = s.isVal := by
  obtain ⟨x, r, e, h⟩ := head_val s
  refine ⟨x, ?_, h⟩
  rw [e]
  exact at0 _ _
def hereM : M Fl := (mRet (mOrV (mBin eqD (getS 0) (ret (St.d .thr))) (mBin eqD (mBin ixD (getS 0) (ret (.int 0))) (ret (.str "value")))))
theorem here_spec (s : St) (hs : s.ok) (w : Wo) : gOf 1 1 hereM [s.d] w = some (.ok (.bl s.here) w) := by
  have e1 : eqD s.d (St.d .thr) = some (.bl (deq s.d (St.d .thr))) := eqSt s .thr hs trivial
  obtain ⟨x, e2, e3⟩ := ix_head s
  have e4 : deq s.d (St.d .thr) = s.isThr := dq_thr s
  cases s with
  | thr => simp [gOf, hereM, mRet, mOrV, mBin, bnd, getS, ret, lft, e1, e4, kBool, St.here, St.isThr]
  | _ => simp [gOf, hereM, mRet, mOrV, mBin, bnd, getS, ret, lft, e1, e4, kBool, St.here, St.isThr, e2, eq_str, e3, St.isVal]
/-- is_here, as it is called -/
def HereOk (c : Fn1) : Prop := ∀ (s : St), s.ok → ∀ w, c [s.d] w = some (.ok (.bl s.here) w)
theorem anyHere {c : Fn1} (hc : HereOk c) {i : Nat} {mi : M (List D)} {ρ : Rho} {w0 w : Wo} (l : List St) (hl : l.length ≤ 1000) (ho : ∀ s ∈ l, s.ok) (h0 : mi ρ w0 = some (.ok (l.map St.d) ρ w)) (hi : i < ρ.length) :
    (bnd (mCons (mLc [i] mi (bName i) (ret true) (mCall 1 c (mCons (getS i) mNil))) mNil) fun ds => lft (anyD ds)) ρ w0 = some (.ok (.bl (l.any St.here)) (ρ.set i .free) w) := by
  have e := mLc_map (own := [i]) (bind := bName i) (mi := mi) (me := mCall 1 c (mCons (getS i) mNil)) (ρ := ρ) (w0 := w0) (w := w) (e := St.d) (f := fun s => D.bl s.here) l h0 (by omega) fun s hs => by
    refine ⟨(ρ.set i .free).set i (.val s.d), (ρ.set i .free).set i (.val s.d), rfl, ?_, ?_⟩
    · have g : getS i ((ρ.set i .free).set i (.val s.d)) w = some (.ok s.d ((ρ.set i .free).set i (.val s.d)) w) := by
        unfold getS
        rw [List.getElem?_set_self (by rw [List.length_set]; exact hi)]
      have g2 : mCons (getS i) mNil ((ρ.set i .free).set i (.val s.d)) w = some (.ok [s.d] ((ρ.set i .free).set i (.val s.d)) w) := cons_ok g rfl
      unfold mCall
      rw [bnd_ok g2]
      show (match c [s.d] w with
        | some (.ok d w') => some (Rs.ok d _ w')
        | some (.exc x w') => some (.exc x _ w')
        | none => none) = _
      rw [hc s (ho s hs) w]
    · show ((ρ.set i .free).set i (.val s.d)).set i .free = ρ.set i .free
      rw [List.set_set, List.set_set]
  have e2 : mCons (mLc [i] mi (bName i) (ret true) (mCall 1 c (mCons (getS i) mNil))) mNil ρ w0 = some (.ok [.lst (l.map fun s => D.bl s.here)] (ρ.set i .free) w) := cons_ok e rfl
  rw [bnd_ok e2]
  unfold lft anyD
  simp only [bools_map]
  simp [List.any_map, Function.comp_def]
def partM (c : Fn1) : M Fl := (mRet (mAndV (mBin inD (ret (St.d .abs)) (getS 0)) (bnd (mCons (mLc [1] (bnd (getS 0) fun d => lft (itemsD d)) (bName 1) (ret true) (mCall 1 c (mCons (getS 1) mNil))) mNil) fun ds => lft (anyD ds))))
def part (l : List St) : Bool := l.any St.isAbs && l.any St.here
def PartOk (c : Fn1) : Prop := ∀ (l : List St), l.length ≤ 1000 → (∀ s ∈ l, s.ok) → ∀ w, c [stL l] w = some (.ok (.bl (part l)) w)
theorem part_spec {c : Fn1} (hc : HereOk c) : PartOk (gOf 1 2 (partM c)) := fun l hl ho w => by
  have e1 := in_abs l ho
  have e2 := anyHere hc (i := 1) (mi := bnd (getS 0) fun d => lft (itemsD d)) (ρ := [.val (stL l), .free]) (w0 := w) (w := w) l hl ho (by simp [bnd, getS, lft, itemsD, stL]) (by show 1 < 2; decide)
  have e0 : mBin inD (ret (St.d .abs)) (getS 0) [.val (stL l), .free] w = some (.ok (.bl (l.any St.isAbs)) [.val (stL l), .free] w) := by
    simp [mBin, bnd, ret, getS, lft, e1]
  show (match partM c [.val (stL l), .free] w with
    | some (.ok .nx _ w') => some (Fr.ok .non w')
    | some (.ok (.rt d) _ w') => some (.ok d w')
    | some (.exc x _ w') => some (.exc x w')
    | _ => none) = _
  unfold partM mRet mAndV part
  cases ha : l.any St.isAbs with
  | false =>
    rw [ha] at e0
    have e3 : bnd (mBin inD (ret (St.d .abs)) (getS 0)) (kBool fun c_1 => if c_1 = true then (bnd (mCons (mLc [1] (bnd (getS 0) fun d => lft (itemsD d)) (bName 1) (ret true) (mCall 1 c (mCons (getS 1) mNil))) mNil) fun ds => lft (anyD ds)) else ret (.bl false)) [.val (stL l), .free] w = some (.ok (.bl false) [.val (stL l), .free] w) := by
      rw [bnd_ok e0]
      rfl
    rw [bnd_ok e3]
    rfl
  | true =>
    rw [ha] at e0
    have e3 : bnd (mBin inD (ret (St.d .abs)) (getS 0)) (kBool fun c_1 => if c_1 = true then (bnd (mCons (mLc [1] (bnd (getS 0) fun d => lft (itemsD d)) (bName 1) (ret true) (mCall 1 c (mCons (getS 1) mNil))) mNil) fun ds => lft (anyD ds)) else ret (.bl false)) [.val (stL l), .free] w = some (.ok (.bl (l.any St.here)) [.val (stL l), .free] w) := by
      rw [bnd_ok e0]
      exact e2
    rw [bnd_ok e3]
    rfl
end DL
set_option Elab.async false
set_option linter.all false
set_option maxRecDepth 100000
set_option maxHeartbeats 4000001
/-! DLV: the rules of standings as functions; they rise. -/
namespace DL
open PySem PyProof.Rows PySem.Spec L2 RZ StX
variable [Tbs]
/-! ### lists that rise -/
abbrev Up := All2 St.le
theorem St.le_here {s t : St} (h : s.le t) (c : t.isCla = false) (e : s.here = true) : t.here = true := by
  cases s with
  | thr =>
    rcases h with q | q | ⟨d, q⟩
    · subst q; rfl
    · subst q; cases c
    · subst q; rfl
  | val d =>
    rcases h with q | q
    · subst q; rfl
    · subst q; cases c
  | _ => cases e
theorem St.le_abs {s t : St} (h : s.le t) (c : t.isCla = false) (e : s.isAbs = true) : t = .abs := by
  cases s with
  | abs =>
    rcases h with q | q
    · exact q
    · subst q; cases c
  | _ => cases e
theorem St.le_val {s t : St} {d : D} (h : s.le t) (c : t.isCla = false) (e : s = .val d) : t = .val d := by
  subst e
  rcases h with q | q
  · exact q
  · subst q; cases c
theorem St.le_isCla {s t : St} (h : s.le t) (e : s.isCla = true) : t.isCla = true := by
  cases s with
  | cla =>
    have q : t = .cla := h
    subst q
    rfl
  | _ => cases e
theorem up_here : ∀ {l m : List St}, Up l m → m.any St.isCla = false → l.any St.here = true → m.any St.here = true
  | _, _, .nil, _, h => h
  | _, _, .cons (a := s) (b := t) (as := as) (bs := bs) hst r, c, h => by
    rw [List.any_cons, Bool.or_eq_false_iff] at c
    rw [List.any_cons, Bool.or_eq_true] at h ⊢
    rcases h with h | h
    · exact .inl (St.le_here hst c.1 h)
    · exact .inr (up_here r c.2 h)
theorem up_abs : ∀ {l m : List St}, Up l m → m.any St.isCla = false → l.any St.isAbs = true → m.any St.isAbs = true
  | _, _, .nil, _, h => h
  | _, _, .cons (a := s) (b := t) (as := as) (bs := bs) hst r, c, h => by
    rw [List.any_cons, Bool.or_eq_false_iff] at c
    rw [List.any_cons, Bool.or_eq_true] at h ⊢
    rcases h with h | h
    · exact .inl (by rw [St.le_abs hst c.1 h]; rfl)
    · exact .inr (up_abs r c.2 h)
theorem up_cla : ∀ {l m : List St}, Up l m → l.any St.isCla = true → m.any St.isCla = true
  | _, _, .nil, h => h
  | _, _, .cons (a := s) (b := t) (as := as) (bs := bs) hst r, h => by
    rw [List.any_cons, Bool.or_eq_true] at h ⊢
    rcases h with h | h
    · exact .inl (St.le_isCla hst h)
    · exact .inr (up_cla r h)
theorem up_part {l m : List St} (u : Up l m) (c : m.any St.isCla = false) (h : part l = true) : part m = true := by
  unfold part at h ⊢
  rw [Bool.and_eq_true] at h ⊢
  exact ⟨up_abs u c h.1, up_here u c h.2⟩
theorem up_vals : ∀ {l m : List St}, Up l m → m.any St.isCla = false → l.all St.isVal = true → m = l
  | _, _, .nil, _, _ => rfl
  | _, _, .cons (a := s) (b := t) (as := as) (bs := bs) hst r, c, h => by
    rw [List.any_cons, Bool.or_eq_false_iff] at c
    rw [List.all_cons,
          Bool.and_eq_true] at h
    rw [up_vals r c.2 h.2]
    cases s with
    | val d => rw [St.le_val hst c.1 rfl]
    | _ => cases h.1
theorem part_of {l : List St} (a : l.any St.isAbs = true) (h : l.any St.here = true) : part l = true := by
  unfold part
  rw [a, h]
  rfl
theorem all_here : ∀ {l : List St}, l ≠ [] → l.all St.isVal = true → l.any St.here = true
  | [], n, _ => absurd rfl n
  | s :: l, _, h => by
    rw [List.all_cons,
          Bool.and_eq_true] at h
    rw [List.any_cons]
    cases s with
    | val d => rfl
    | _ => cases h.1
/-! ### the rules -/
abbrev Rl := List St → St
def Rises (r : Rl) : Prop := ∀ l m, Up l m → m.any St.isCla = false → (r l).le (r m)
def ofConst (v : D) : Rl
  | s :: _ => if s.here = true then .val v else s
  | [] => .unk
theorem rises_const (v : D) : Rises (ofConst v) := fun l m u c => by
  cases u with
  | nil => exact St.le_refl _
  | cons h r =>
    rename_i s t as bs
    rw [List.any_cons, Bool.or_eq_false_iff] at c
    show (if s.here = true then St.val v else s).le (if t.here = true then St.val v else t)
    by_cases hs : s.here = true
    · rw [if_pos hs, if_pos (St.le_here h c.1 hs)]
      exact St.le_refl _
    · rw [if_neg hs]
      cases s with
      | unk => exact trivial
      | abs =>
        rw [St.le_abs h c.1 rfl]
        exact St.le_refl _
      | cla =>
        have q : t = .cla := h
        subst q
        cases c.1
      | _ => exact absurd rfl hs
def ofHeld (m : D) : Rl
  | [a, b] => if part [a, b] = true then .cla else if b.here = true then .val m else b
  | _ => .unk
theorem rises_held (v : D) : Rises (ofHeld v) := fun l m u c => by
  cases u with
  | nil => exact St.le_refl _
  | cons h1 r =>
    cases r with
    | nil => exact St.le_refl _
    | cons h2 r =>
      cases r with
      | cons h3 r => exact St.le_refl _
      | nil =>
        rename_i a a' b b'
        have u : Up [a, b] [a', b'] := .cons h1 (.cons h2 .nil)
        have cb : b'.isCla = false := by
          simp only [List.any_cons, List.any_nil, Bool.or_false, Bool.or_eq_false_iff] at c
          exact c.2
        show (if part [a, b] = true then St.cla else if b.here = true then .val v else b).le (if part [a', b'] = true then St.cla else if b'.here = true then .val v else b')
        by_cases p' : part [a', b'] = true
        · rw [if_pos p']
          exact St.le_cla _
        · rw [if_neg p', if_neg fun p => p' (up_part u c p)]
          by_cases hb : b.here = true
          · rw [if_pos hb, if_pos (St.le_here h2 cb hb)]
            exact St.le_refl _
          · rw [if_neg hb]
            cases b with
            | unk => exact trivial
            | abs =>
              rw [St.le_abs h2 cb rfl]
              exact St.le_refl _
            | cla =>
              have q : b' = .cla := h2
              subst q
              cases cb
            | _ => exact absurd rfl hb
def St.v : St → D
  | .val d => d
  | _ => .non
def ofVals (f : List D → D) : Rl := fun l => if part l = true then .cla else if l.any St.isAbs = true then .abs else if l.all St.isVal = true then .val (f (l.map St.v)) else if l.any St.here = true then .thr else .unk
theorem rises_vals (f : List D → D) : Rises (ofVals f) := fun l m u c => by
  unfold ofVals
  by_cases p' : part m = true
  · rw [if_pos p']
    exact St.le_cla _
  · rw [if_neg p', if_neg fun p => p' (up_part u c p)]
    by_cases a : l.any St.isAbs = true
    · rw [if_pos a, if_pos (up_abs u c a)]
      exact St.le_refl _
    · rw [if_neg a]
      by_cases v : l.all St.isVal = true
      · rw [if_pos v, up_vals u c v, if_neg a, if_pos v]
        exact St.le_refl _
      · rw [if_neg v]
        by_cases h : l.any St.here = true
        · rw [if_pos h]
          have h' := up_here u c h
          by_cases a' : m.any St.isAbs = true
          · exact absurd (part_of a' h') p'
          · rw [if_neg a']
            by_cases v' : m.all St.isVal = true
            · rw [if_pos v']
              exact .inr (.inr ⟨_, rfl⟩)
            · rw [if_neg v', if_pos h']
              exact St.le_refl _
        · rw [if_neg h]
          exact trivial
def ofArg (k : Nat) : Rl := fun l => match l[k]? with
  | none => .unk
  | some o => if part l = true then .cla else if l.any St.isAbs = true then .abs else if o.isVal = true then o else if l.any St.here = true then .thr else .unk
theorem up_at : ∀ {l m : List St} {k : Nat} {s : St}, Up l m → l[k]? = some s → ∃ t, m[k]? = some t ∧ s.le t
  | _, _, k, _, .nil, h => by simp at h
  | _, _, 0, _, .cons h _, e => by
    cases e
    exact ⟨_, rfl, h⟩
  | _, _, k + 1, _, .cons _ r, e => up_at (k := k) r e
theorem any_at {p : St → Bool} : ∀ {l : List St} {k : Nat} {s : St}, l[k]? = some s → l.any p = false → p s = false
  | [], k, _, h, _ => by simp at h
  | x :: l, 0, _, h, c => by
    cases h
    rw [List.any_cons, Bool.or_eq_false_iff] at c
    exact c.1
  | x :: l, k + 1, _, h, c => by
    rw [List.any_cons, Bool.or_eq_false_iff] at c
    exact any_at (l := l) (k := k) h c.2
theorem any_of_at {p : St → Bool} {l : List St} {k : Nat} {s : St} (h : l[k]? = some s) (e : p s = true) : l.any p = true := by
  cases q : l.any p with
  | true => rfl
  | false => rw [any_at h q] at e; cases e
theorem rises_arg (k : Nat) : Rises (ofArg k) := fun l m u c => by
  unfold ofArg
  cases hk : l[k]? with
  | none => exact trivial
  | some o =>
    obtain ⟨o', hk', ho⟩ := up_at u hk
    rw [hk']
    dsimp only
    by_cases p' : part m = true
    · rw [if_pos p']
      exact St.le_cla _
    · rw [if_neg p', if_neg fun p => p' (up_part u c p)]
      by_cases a : l.any St.isAbs = true
      · rw [if_pos a, if_pos (up_abs u c a)]
        exact St.le_refl _
      · rw [if_neg a]
        by_cases v : o.isVal = true
        · rw [if_pos v]
          cases o with
          | val d =>
            have e := St.le_val ho (any_at hk' c) rfl
            subst e
            have h' : m.any St.here = true := any_of_at hk' rfl
            by_cases a' : m.any St.isAbs = true
            · exact absurd (part_of a' h') p'
            · rw [if_neg a', if_pos v]
              exact St.le_refl _
          | _ => cases v
        · rw [if_neg v]
          by_cases h : l.any St.here = true
          · rw [if_pos h]
            have h' := up_here u c h
            by_cases a' : m.any St.isAbs = true
            · exact absurd (part_of a' h') p'
            · rw [if_neg a']
              by_cases v' : o'.isVal = true
              · rw [if_pos v']
                cases o' with
                | val d => exact .inr (.inr ⟨_, rfl⟩)
                | _ => cases v'
              · rw [if_neg v', if_pos h']
                exact St.le_refl _
          · rw [if_neg h]
            exact trivial
def ofWhen (x : D) : Rl
  | [s, c] => if part [s, c] = true then .cla else if [s, c].any St.isAbs = true then .abs else if c.isVal = false then .unk else if deq c.v x = true then s else .abs
  | _ => .unk
theorem rises_when (x : D) : Rises (ofWhen x) := fun l m u cm => by
  cases u with
  | nil => exact trivial
  | cons h1 r =>
    cases r with
    | nil => exact trivial
    | cons h2 r =>
      cases r with
      | cons h3 r => exact trivial
      | nil =>
        rename_i s s' c c'
        have u : Up [s, c] [s', c'] := .cons h1 (.cons h2 .nil)
        have cc : s'.isCla = false ∧ c'.isCla = false := by
          simp only [List.any_cons, List.any_nil, Bool.or_false, Bool.or_eq_false_iff] at cm
          exact cm
        show (if part [s, c] = true then St.cla else if [s, c].any St.isAbs = true then .abs else if c.isVal = false then .unk else if deq c.v x = true then s else .abs).le (if part [s', c'] = true then St.cla else if [s', c'].any St.isAbs = true then .abs else if c'.isVal = false then .unk else if deq c'.v x = true then s' else .abs)
        by_cases p' : part [s', c'] = true
        · rw [if_pos p']
          exact St.le_cla _
        · rw [if_neg p', if_neg fun p => p' (up_part u cm p)]
          by_cases a : [s, c].any St.isAbs = true
          · rw [if_pos a, if_pos (up_abs u cm a)]
            exact St.le_refl _
          · rw [if_neg a]
            by_cases v : c.isVal = false
            · rw [if_pos v]
              exact trivial
            · rw [if_neg v]
              cases c with
              | val d =>
                have e := St.le_val h2 cc.2 rfl
                subst e
                have h' : [s', St.val d].any St.here = true := any_of_at (k := 1) rfl rfl
                by_cases a' : [s', St.val d].any St.isAbs = true
                · exact absurd (part_of a' h') p'
                · rw [if_neg a', if_neg v]
                  by_cases q : deq (St.val d).v x = true
                  · rw [if_pos q, if_pos q]
                    exact h1
                  · rw [if_neg q, if_neg q]
                    exact St.le_refl _
              | _ => exact absurd rfl v
def ofAs : Rl
  | s :: _ => s
  | [] => .unk
theorem rises_as : Rises ofAs := fun l m u _ => by
  cases u with
  | nil => exact trivial
  | cons h r => exact h
/-- at: the place of a value among the words of the cond -/
def ofCh (at' : D → Nat) (c : St) (bs : List St) : St := if c.isAbs = true then (if part (c :: bs) = true then .cla else .abs) else if c.isVal = false then c else
  match bs[at' c.v]? with
  | none => .cla
  | some o => if (o.isAbs || (bs.eraseIdx (at' c.v)).any St.here) = true then .cla else if o.isVal = true then o else .thr
def ofChoose (at' : D → Nat) : Rl
  | c :: bs => ofCh at' c bs
  | [] => .unk
theorem up_erase : ∀ {l m : List St} (k : Nat), Up l m → Up (l.eraseIdx k) (m.eraseIdx k)
  | _, _, _, .nil => .nil
  | _, _, 0, .cons _ r => r
  | _, _, k + 1, .cons h r => .cons h (up_erase k r)
theorem any_erase {p : St → Bool} : ∀ {l : List St} (k : Nat), l.any p = false → (l.eraseIdx k).any p = false
  | [], _, h => by simpa using h
  | x :: l, 0, h => by
    rw [List.any_cons, Bool.or_eq_false_iff] at h
    exact h.2
  | x :: l, k + 1, h => by
    rw [List.any_cons, Bool.or_eq_false_iff] at h
    rw [List.eraseIdx_cons_succ, List.any_cons, h.1, any_erase k h.2]
    rfl
theorem rises_choose (at' : D → Nat) : Rises (ofChoose at') := fun l m u cm => by
  have u0 := u
  cases u with
  | nil => exact trivial
  | cons h1 r =>
    rename_i c c' bs bs'
    have cm0 := cm
    rw [List.any_cons, Bool.or_eq_false_iff] at cm
    show (ofCh at' c bs).le (ofCh at' c' bs')
    unfold ofCh
    by_cases a : c.isAbs = true
    · have e := St.le_abs h1 cm.1 a
      subst e
      rw [if_pos a, if_pos (show St.isAbs .abs = true from rfl)]
      by_cases p' : part (.abs :: bs') = true
      · rw [if_pos p']
        exact St.le_cla _
      · rw [if_neg p', if_neg fun p => p' (up_part u0 cm0 p)]
        exact St.le_refl _
    · rw [if_neg a]
      by_cases v : c.isVal = false
      · rw [if_pos v]
        cases c with
        | unk => exact trivial
        | thr =>
          rcases h1 with q | q | ⟨d, q⟩
          · subst q
            exact St.le_refl _
          · subst q
            cases cm.1
          · subst q
            rw [if_neg (fun z : St.isAbs (.val d) = true => Bool.noConfusion z), if_neg (fun z : St.isVal (.val d) = false => Bool.noConfusion z)]
            cases bs'[at' (St.val d).v]? with
            | none => exact St.le_cla _
            | some o =>
              dsimp only
              by_cases y : (o.isAbs || (bs'.eraseIdx (at' (St.val d).v)).any St.here) = true
              · rw [if_pos y]
                exact St.le_cla _
              · rw [if_neg y]
                cases o with
                | val z => exact .inr (.inr ⟨z, rfl⟩)
                | _ => exact St.le_refl _
        | cla =>
          have q : c' = .cla := h1
          subst q
          cases cm.1
        | abs => exact absurd rfl a
        | val d => cases v
      · rw [if_neg v]
        cases c with
        | val d =>
          have e := St.le_val h1 cm.1 rfl
          subst e
          rw [if_neg a, if_neg v]
          cases hk : bs[at' (St.val d).v]? with
          | none =>
            have hl := r.length
            have hk' : bs'[at' (St.val d).v]? = none := by
              rw [List.getElem?_eq_none_iff] at hk ⊢
              omega
            rw [hk']
            exact St.le_refl _
          | some o =>
            obtain ⟨o', hk', ho⟩ := up_at r hk
            rw [hk']
            dsimp only
            by_cases x' : (o'.isAbs || (bs'.eraseIdx (at' (St.val d).v)).any St.here) = true
            · rw [if_pos x']
              exact St.le_cla _
            · have x : ¬ (o.isAbs || (bs.eraseIdx (at' (St.val d).v)).any St.here) = true := fun x => by
                rw [Bool.or_eq_true] at x x'
                rcases x with x | x
                · exact x' (.inl (by rw [St.le_abs ho (any_at hk' cm.2) x]; rfl))
                · exact x' (.inr (up_here (up_erase _ r) (any_erase _ cm.2) x))
              rw [if_neg x', if_neg x]
              by_cases w : o.isVal = true
              · cases o with
                | val z =>
                  have e := St.le_val ho (any_at hk' cm.2) rfl
                  subst e
                  exact St.le_refl _
                | _ => cases w
              · rw [if_neg w]
                by_cases w' : o'.isVal = true
                · rw [if_pos w']
                  cases o' with
                  | val z => exact .inr (.inr ⟨_, rfl⟩)
                  | _ => cases w'
                · rw [if_neg w']
                  exact St.le_refl _
        | _ => exact absurd rfl v
/-- a clash of an operand is a clash -/
def stand (r : Rl) : Rl := fun l => if l.any St.isCla = true then .cla else r l
theorem stand_rises {r : Rl} (h : Rises r) {l m : List St} (u : Up l m) : (stand r l).le (stand r m) := by
  unfold stand
  by_cases c : m.any St.isCla = true
  · rw [if_pos c]
    exact St.le_cla _
  · rw [if_neg c, if_neg fun q => c (up_cla u q)]
    exact h l m u (by rw [← Bool.not_eq_true]; exact c)
end DL
set_option Elab.async false
set_option linter.all false
set_option maxRecDepth 100000
set_option maxHeartbeats 4000001
/-! DLW: the rules of standings as they run. -/
namespace DL
open PySem PyProof.Rows PySem.Spec L2 RZ StX
variable [Tbs]
theorem ixt0 (a : D) (r : List D) : ixD (.tup (a :: r)) (.int 0) = some a := at0 a r
theorem ixt1 (a b : D) (r : List D) : ixD (.tup (a :: b :: r)) (.int 1) = some b := at1 a b r
theorem valD (v : D) : St.d (.val v) = .tup [.str "value", v] := rfl
/-- a rule's def comes to r, for these right side, kinds, memory -/
def RunsTo (g : Fn1) (R Ks m : D) (r : Rl) (l : List St) : Prop := ∀ w, g [R, Ks, stL l, m] w = some (.ok (r l).d w)
abbrev Good (l : List St) : Prop := l.length ≤ 1000 ∧ ∀ s ∈ l, s.ok
def constM (c : Fn1) : M Fl := (mSeq (mSet 4 (mBin ixD (getS 2) (ret (.int 0)))) (mRet (mIte (mVal (mCall 1 c (mCons (getS 4) mNil))) (mTup (mCons (ret (.str "value")) (mCons (mBin ixD (getS 0) (ret (.int 2))) mNil))) (getS 4))))
theorem st0 (s : St) (r : List St) : ixD (stL (s :: r)) (.int 0) = some s.d := at0 _ _
theorem st1 (s t : St) (r : List St) : ixD (stL (s :: t :: r)) (.int 1) = some t.d := at1 _ _ _
theorem const_runs {c : Fn1} (hc : HereOk c) {R Ks m v : D} (hv : ixD R (.int 2) = some v) {s : St} {r : List St} (hs : s.ok) : RunsTo (gOf 4 5 (constM c)) R Ks m (ofConst v) (s :: r) := fun w => by
  have h := hc s hs w
  have e0 := st0 s r
  show gOf 4 5 (constM c) [R, Ks, stL (s :: r), m] w = some (.ok (if s.here = true then St.val v else s).d w)
  by_cases b : s.here = true
  · rw [if_pos b]
    rw [b] at h
    simp [gOf, constM, mSeq, mSet, setS, mRet, mIte, mVal, mCall, mTup, mBin, mCons, mNil, bnd, getS, ret, lft, asB, e0, h, hv, valD]
  · rw [if_neg b]
    rw [Bool.not_eq_true] at b
    rw [b] at h
    simp [gOf, constM, mSeq, mSet, setS, mRet, mIte, mVal, mCall, mTup, mBin, mCons, mNil, bnd, getS, ret, lft, asB, e0, h]
def heldM (p c : Fn1) : M Fl := (mSeq (mSet 4 (mBin ixD (getS 2) (ret (.int 1)))) (mSeq (mIte (mVal (mCall 1 p (mCons (getS 2) mNil))) (mRet (ret (St.d .cla))) (ret .nx)) (mRet (mIte (mVal (mCall 1 c (mCons (getS 4) mNil))) (mTup (mCons (ret (.str "value")) (mCons (getS 3) mNil))) (getS 4)))))
theorem held_runs {p c : Fn1} (hp : PartOk p) (hc : HereOk c) {R Ks m : D} {a b : St} (ha : a.ok) (hb : b.ok) : RunsTo (gOf 4 5 (heldM p c)) R Ks m (ofHeld m) [a, b] := fun w => by
  have h1 := hp [a, b] (by show 2 ≤ 1000; decide) (fun s hs => by
    rcases List.mem_cons.mp hs with q | q
    · rw [q]; exact ha
    · rcases List.mem_cons.mp
          q with q | q
      · rw [q]; exact hb
      · cases q) w
  have h2 := hc b hb w
  have e0 := st1 a b []
  show gOf 4 5 (heldM p c) [R, Ks, stL [a, b], m] w = some (.ok (if part [a, b] = true then St.cla else if b.here = true then .val m else b).d w)
  by_cases q : part [a, b] = true
  · rw [if_pos q]
    rw [q] at h1
    simp [gOf, heldM, mSeq, mSet, setS, mRet, mIte, mVal, mCall, mTup, mBin, mCons, mNil, bnd, getS, ret, lft, asB, e0, h1]
  · rw [if_neg q]
    rw [Bool.not_eq_true] at q
    rw [q] at h1
    by_cases x : b.here = true
    · rw [if_pos x]
      rw [x] at h2
      simp [gOf, heldM, mSeq, mSet, setS, mRet, mIte, mVal, mCall, mTup, mBin, mCons, mNil, bnd, getS, ret, lft, asB, e0, h1, h2, valD]
    · rw [if_neg x]
      rw [Bool.not_eq_true] at x
      rw [x] at h2
      simp [gOf, heldM, mSeq, mSet, setS, mRet, mIte, mVal, mCall, mTup, mBin, mCons, mNil, bnd, getS, ret, lft, asB, e0, h1, h2]
def asM : M Fl := (mRet (mBin ixD (getS 2) (ret (.int 0))))
theorem as_runs {R Ks m : D} {s : St} {r : List St} : RunsTo (gOf 4 4 asM) R Ks m ofAs (s :: r) := fun w => by
  have e0 := st0 s r
  show gOf 4 4 asM [R, Ks, stL (s :: r), m] w = some (.ok s.d w)
  simp [gOf, asM, mRet, mBin, bnd, getS, ret, lft, e0]
def argM (p c : Fn1) : M Fl := (mSeq (mSet 4 (mBin ixD (getS 2) (mBin ixD (getS 0) (ret (.int 2))))) (mSeq (mIte (mVal (mCall 1 p (mCons (getS 2) mNil))) (mRet (ret (St.d .cla))) (ret .nx)) (mSeq (mIte (mBinT inD (ret (St.d .abs)) (getS 2)) (mRet (ret (St.d .abs))) (ret .nx)) (mSeq (mIte (mBinT eqD (mBin ixD (getS 4) (ret (.int 0))) (ret (.str "value"))) (mRet (getS 4)) (ret .nx)) (mSeq (mIte (mVal (bnd (mCons (mLc [5] (bnd (getS 2) fun d => lft (itemsD d)) (bName 5) (ret true) (mCall 1 c (mCons (getS 5) mNil))) mNil) fun ds => lft (anyD ds))) (mRet (ret (St.d .thr))) (ret .nx)) (mRet (ret (St.d .unk))))))))
theorem st_at {l : List St} {k : Nat} {s : St} (h : l[k]? = some s) : ixD (stL l) (.int (k : Nat)) = some s.d := by
  show atI (l.map St.d) (k : Nat) = some s.d
  exact atI_nat (by rw [List.getElem?_map, h]; rfl)
theorem arg_runs {p c : Fn1} (hp : PartOk p) (hc : HereOk c) {R Ks m : D} {l : List St} (g : Good l) {k : Nat} {o : St} (hR : ixD R (.int 2) = some (.int (k : Nat))) (ho : l[k]? = some o) : RunsTo (gOf 4 6 (argM p c)) R Ks m (ofArg k) l := fun w => by
  have h1 := hp l g.1 g.2 w
  have e0 := st_at ho
  have e1 := in_abs l g.2
  obtain ⟨x, e2, e3⟩ := ix_head o
  have e4 := anyHere hc (i := 5) (mi := bnd (getS 2) fun d => lft (itemsD d)) (ρ := [.val R, .val Ks, .val (stL l), .val m, .val o.d, .free]) (w0 := w) (w := w) l g.1 g.2 (by simp [bnd, getS, lft, itemsD, stL]) (by show 5 < 6; decide)
  show gOf 4 6 (argM p c) [R, Ks, stL l, m] w = some (.ok (ofArg k l).d w)
  unfold ofArg
  rw [ho]
  dsimp only
  by_cases q : part l = true
  · rw [if_pos q]
    rw [q] at h1
    simp [gOf, argM, mSeq, mSet, setS, mRet, mIte, mVal, mCall, mBin, mCons, mNil, bnd, getS, ret, lft, asB, e0, hR, h1]
  · rw [if_neg q]
    rw [Bool.not_eq_true] at q
    rw [q] at h1
    by_cases a : l.any St.isAbs = true
    · rw [if_pos a]
      rw [a] at e1
      simp [gOf, argM, mSeq, mSet, setS, mRet, mIte, mVal, mCall, mBin, mBinT, mCons, mNil, bnd, getS, ret, lft, asB, e0, hR, h1, e1]
    · rw [if_neg a]
      rw [Bool.not_eq_true] at a
      rw [a] at e1
      by_cases v : o.isVal = true
      · rw [if_pos v]
        rw [v] at e3
        simp [gOf, argM, mSeq, mSet, setS, mRet, mIte, mVal, mCall, mBin, mBinT, mCons, mNil, bnd, getS, ret, lft, asB, e0, hR, h1, e1, e2, eq_str, e3]
      · rw [if_neg v]
        rw [Bool.not_eq_true] at v
        rw [v] at e3
        have pre : ∀ k : M Fl, (mSeq (mSet 4 (mBin ixD (getS 2) (mBin ixD (getS 0) (ret (.int 2))))) (mSeq (mIte (mVal (mCall 1 p (mCons (getS 2) mNil))) (mRet (ret (St.d .cla))) (ret .nx)) (mSeq (mIte (mBinT inD (ret (St.d .abs)) (getS 2)) (mRet (ret (St.d .abs))) (ret .nx)) (mSeq (mIte (mBinT eqD (mBin ixD (getS 4) (ret (.int 0))) (ret (.str "value"))) (mRet (getS 4)) (ret .nx)) k)))) [.val R, .val Ks, .val (stL l), .val m, .free, .free] w = k [.val R, .val Ks, .val (stL l), .val m, .val o.d, .free] w := fun k => by
          simp [mSeq, mSet, setS, mRet, mIte, mVal, mCall, mBin, mBinT, mCons, mNil, bnd, getS, ret, lft, asB, e0, hR, h1, e1, e2, eq_str, e3]
        have run : argM p c [.val R, .val Ks, .val (stL l), .val m, .free, .free] w = some (.ok (.rt (if l.any St.here = true then St.thr else St.unk).d) [.val R, .val Ks, .val (stL l), .val m, .val o.d, .free] w) := by
          unfold argM
          rw [pre]
          cases b : l.any St.here with
          | true =>
            rw [b] at e4
            refine seq_rt ((ite_run (b := true) (ρ' := [.val R, .val Ks, .val (stL l), .val m, .val o.d, .free]) (w' := w) ?_).trans rfl)
            unfold mVal
            rw [bnd_ok e4]
            rfl
          | false =>
            rw [b] at e4
            rw [seq_nx (ρ' := [.val R, .val Ks, .val (stL l), .val m, .val o.d, .free]) (w' := w) ((ite_run (b := false) (ρ' := [.val R, .val Ks, .val (stL l), .val m, .val o.d, .free]) (w' := w) (by
              unfold mVal
              rw [bnd_ok e4]
              rfl)).trans rfl)]
            rfl
        show (match argM p c [.val R, .val Ks, .val (stL l), .val m, .free, .free] w with
          | some (.ok .nx _ w') => some (Fr.ok .non w')
          | some (.ok (.rt d) _ w') => some (.ok d w')
          | some (.exc x _ w') => some (.exc x w')
          | _ => none) = _
        rw [run]
def whenM (p : Fn1) : M Fl := (mSeq (mAsg (getS 2) (bTup 2 (bCons (bName 4) (bCons (bName 5) bNil)))) (mSeq (mIte (mVal (mCall 1 p (mCons (getS 2) mNil))) (mRet (ret (St.d .cla))) (ret .nx)) (mSeq (mIte (mBinT inD (ret (St.d .abs)) (getS 2)) (mRet (ret (St.d .abs))) (ret .nx)) (mSeq (mIte (mBinT neD (mBin ixD (getS 5) (ret (.int 0))) (ret (.str "value"))) (mRet (ret (St.d .unk))) (ret .nx)) (mRet (mIte (mBinT eqD (mBin ixD (getS 5) (ret (.int 1))) (mBin ixD (getS 0) (ret (.int 3)))) (getS 4) (ret (St.d .abs))))))))
theorem ne_str (x y : Str) : neD (.str x) (.str y) = some (.bl (!(x == y))) := by
  simp [neD, dat, deq]
theorem when_runs {p : Fn1} (hp : PartOk p) {R Ks m : D} {s c : St} (g : Good [s, c]) {x : D} (hR : ixD R (.int 3) = some x) (hx : dat 60 x = true) : RunsTo (gOf 4 6 (whenM p)) R Ks m (ofWhen x) [s, c] := fun w => by
  have h1 := hp [s, c] g.1 g.2 w
  have e1 := in_abs [s, c] g.2
  obtain ⟨y, e2, e3⟩ := ix_head c
  have e5 : stL [s, c] = .lst [s.d, c.d] := rfl
  show gOf 4 6 (whenM p) [R, Ks, stL [s, c], m] w = some (.ok (if part [s, c] = true then St.cla else if [s, c].any St.isAbs = true then .abs else if c.isVal = false then .unk else if deq c.v x = true then s else .abs).d w)
  rw [e5] at h1 e1 ⊢
  by_cases q : part [s, c] = true
  · rw [if_pos q]
    rw [q] at h1
    simp [gOf, whenM, mSeq, mAsg, bTup, bCons, bName, bNil, mRet, mIte, mVal, mCall, mCons, mNil, bnd, getS, ret, lft, asB, h1]
  · rw [if_neg q]
    rw [Bool.not_eq_true] at q
    rw [q] at h1
    by_cases a : [s, c].any St.isAbs = true
    · rw [if_pos a]
      rw [a] at e1
      simp [gOf, whenM, mSeq, mAsg, bTup, bCons, bName, bNil, mRet, mIte, mVal, mCall, mBinT, mCons, mNil, bnd, getS, ret, lft, asB, h1, e1]
    · rw [if_neg a]
      rw [Bool.not_eq_true] at a
      rw [a] at e1
      by_cases v : c.isVal = false
      · rw [if_pos v]
        rw [v] at e3
        simp [gOf, whenM, mSeq, mAsg, bTup, bCons, bName, bNil, mRet, mIte, mVal, mCall, mBin, mBinT, mCons, mNil, bnd, getS, ret, lft, asB, h1, e1, e2, ne_str, e3]
      · rw [if_neg v]
        cases c with
        | val d =>
          have hd : dat 60 d = true := dat_to (g.2 (.val d) (List.mem_cons_of_mem _ List.mem_cons_self)) (by decide)
          have e7 : eqD d x = some (.bl (deq d x)) := by
            unfold eqD
            rw [hd, hx]
            rfl
          have e6 : St.v (.val d) = d := rfl
          have e8 : St.d (.val d) = .tup [.str "value", d] := rfl
          rw [e8] at h1 e1 ⊢
          rw [e6]
          by_cases z : deq d x = true
          · rw [if_pos z]
            rw [z] at e7
            simp [gOf, whenM, mSeq, mAsg, bTup, bCons, bName, bNil, mRet, mIte, mVal, mCall, mBin, mBinT, mCons, mNil, bnd, getS, ret, lft, asB, h1, e1, ixt0, ixt1, ne_str, hR, e7]
          · rw [if_neg z]
            rw [Bool.not_eq_true] at z
            rw [z] at e7
            simp [gOf, whenM, mSeq, mAsg, bTup, bCons, bName, bNil, mRet, mIte, mVal, mCall, mBin, mBinT, mCons, mNil, bnd, getS, ret, lft, asB, h1, e1, ixt0, ixt1, ne_str, hR, e7]
        | _ => exact absurd rfl v
end DL
set_option Elab.async false
set_option linter.all false
set_option maxRecDepth 100000
set_option maxHeartbeats 4000001
/-! DLX: ops and tables, choose, standing_of. -/
namespace DL
open PySem PyProof.Rows PySem.Spec L2 RZ StX
variable [Tbs]
theorem setFree {i : Nat} {ρ : Rho} (h : ρ[i]? = some .free) : ρ.set i .free = ρ := by
  apply List.ext_getElem?
  intro j
  by_cases hj : i = j
  · subst hj
    rw [List.getElem?_set_self (List.getElem?_eq_some_iff.mp h).1, h]
  · rw [List.getElem?_set_ne hj]
theorem allVal {i : Nat} {mi : M (List D)} {ρ : Rho} {w0 w : Wo} (l : List St) (hl : l.length ≤ 1000) (h0 : mi ρ w0 = some (.ok (l.map St.d) ρ w)) (hi : i < ρ.length) :
    (bnd (mCons (mLc [i] mi (bName i) (ret true) (mBin eqD (mBin ixD (getS i) (ret (.int 0))) (ret (.str "value")))) mNil) fun ds => lft (allD ds)) ρ w0 = some (.ok (.bl (l.all St.isVal)) (ρ.set i .free) w) := by
  have e := mLc_map (own := [i]) (bind := bName i) (mi := mi) (me := mBin eqD (mBin ixD (getS i) (ret (.int 0))) (ret (.str "value"))) (ρ := ρ) (w0 := w0) (w := w) (e := St.d) (f := fun s => D.bl s.isVal) l h0 (by omega) fun s hs => by
    refine ⟨(ρ.set i .free).set i (.val s.d), (ρ.set i .free).set i (.val s.d), rfl, ?_, ?_⟩
    · have g : getS i ((ρ.set i .free).set i (.val s.d)) w = some (.ok s.d ((ρ.set i .free).set i (.val s.d)) w) := by
        unfold getS
        rw [List.getElem?_set_self (by rw [List.length_set]; exact hi)]
      obtain ⟨x, e2, e3⟩ := ix_head s
      have g1 : mBin ixD (getS i) (ret (.int 0)) ((ρ.set i .free).set i (.val s.d)) w = some (.ok (.str x) ((ρ.set i .free).set i (.val s.d)) w) := by
        unfold mBin
        rw [bnd_ok g]
        simp [bnd, ret, lft, e2]
      show bnd (mBin ixD (getS i) (ret (.int 0))) (fun a => bnd (ret (.str "value")) fun b => lft (eqD a b)) _ w = _
      rw [bnd_ok g1]
      simp [bnd, ret, lft, eq_str, e3]
    · show ((ρ.set i .free).set i (.val s.d)).set i .free = ρ.set i .free
      rw [List.set_set, List.set_set]
  have e2 : mCons (mLc [i] mi (bName i) (ret true) (mBin eqD (mBin ixD (getS i) (ret (.int 0))) (ret (.str "value")))) mNil ρ w0 = some (.ok [.lst (l.map fun s => D.bl s.isVal)] (ρ.set i .free) w) := cons_ok e rfl
  rw [bnd_ok e2]
  unfold lft allD
  simp only [bools_map]
  simp [List.all_map, Function.comp_def]
theorem vals_back : ∀ {l : List St}, l.all St.isVal = true → l = (l.map St.v).map .val
  | [], _ => rfl
  | s :: l, h => by
    rw [List.all_cons,
          Bool.and_eq_true] at h
    rw [List.map_cons, List.map_cons, ← vals_back h.2]
    cases s with
    | val d => rfl
    | _ => cases h.1
/-- what reckons an op's, a table's value -/
def ValueOk (v : Fn1) (R Ks : D) (f : List D → D) (vs : List D) : Prop := ∀ w, v [R, Ks, .lst vs] w = some (.ok (f vs) w)
def valsM (p c v : Fn1) : M Fl := (mSeq (mIte (mVal (mCall 1 p (mCons (getS 2) mNil))) (mRet (ret (St.d .cla))) (ret .nx)) (mSeq (mIte (mBinT inD (ret (St.d .abs)) (getS 2)) (mRet (ret (St.d .abs))) (ret .nx)) (mSeq (mIte (mVal (bnd (mCons (mLc [4] (bnd (getS 2) fun d => lft (itemsD d)) (bName 4) (ret true) (mBin eqD (mBin ixD (getS 4) (ret (.int 0))) (ret (.str "value")))) mNil) fun ds => lft (allD ds))) (mRet (mTup (mCons (ret (.str "value")) (mCons (mCall 3 v (mCons (getS 0) (mCons (getS 1) (mCons (mLc [5, 6] (bnd (getS 2) fun d => lft (itemsD d)) (bTup 2 (bCons (bName 5) (bCons (bName 6) bNil))) (ret true) (getS 6)) mNil)))) mNil)))) (ret .nx)) (mSeq (mIte (mVal (bnd (mCons (mLc [4] (bnd (getS 2) fun d => lft (itemsD d)) (bName 4) (ret true) (mCall 1 c (mCons (getS 4) mNil))) mNil) fun ds => lft (anyD ds))) (mRet (ret (St.d .thr))) (ret .nx)) (mRet (ret (St.d .unk)))))))
theorem mVal_ok {m : M D} {ρ ρ' : Rho} {w w' : Wo} {b : Bool} (h : m ρ w = some (.ok (.bl b) ρ' w')) : mVal m ρ w = some (.ok b ρ' w') := by
  unfold mVal
  rw [bnd_ok h]
  rfl
theorem ret_ok {m : M D} {ρ ρ' : Rho} {w w' : Wo} {d : D} (h : m ρ w = some (.ok d ρ' w')) : mRet m ρ w = some (.ok (.rt d) ρ' w') := by
  unfold mRet
  rw [bnd_ok h]
  rfl
theorem seq_if_no {mc : M Bool} {m k : M Fl} {ρ ρ' : Rho} {w w' : Wo} (h : mc ρ w = some (.ok false ρ' w')) : mSeq (mIte mc m (ret .nx)) k ρ w = k ρ' w' := seq_nx ((ite_run h).trans rfl)
theorem seq_if_yes {mc : M Bool} {m : M D} {k : M Fl} {ρ ρ' ρ2 : Rho} {w w' w2 : Wo} {d : D} (h : mc ρ w = some (.ok true ρ' w')) (g : m ρ' w' = some (.ok d ρ2 w2)) : mSeq (mIte mc (mRet m) (ret .nx)) k ρ w = some (.ok (.rt d) ρ2 w2) := seq_rt ((ite_run h).trans (ret_ok g))
theorem vals_runs {p c v : Fn1} (hp : PartOk p) (hc : HereOk c) {R Ks m : D} {l : List St} (g : Good l) {f : List D → D} (hv : l.all St.isVal = true → ValueOk v R Ks f (l.map St.v)) : RunsTo (gOf 4 7 (valsM p c v)) R Ks m (ofVals f) l := fun w => by
  let ρ : Rho := [.val R, .val Ks, .val (stL l), .val m, .free, .free, .free]
  have h1 : mVal (mCall 1 p (mCons (getS 2) mNil)) ρ w = some (.ok (part l) ρ w) := mVal_ok (by simp [ρ, mCall, bnd, mCons, mNil, getS, ret, hp l g.1 g.2 w])
  have h2 : mBinT inD (ret (St.d .abs)) (getS 2) ρ w = some (.ok (l.any St.isAbs) ρ w) := by simp [ρ, mBinT, bnd, ret, getS, asB, in_abs l g.2]
  have hi : (bnd (getS 2) fun d => lft (itemsD d)) ρ w = some (.ok (l.map St.d) ρ w) := by simp [ρ, bnd, getS, lft, itemsD, stL]
  have h3 := mVal_ok (allVal (i := 4) (mi := bnd (getS 2) fun d => lft (itemsD d)) (ρ := ρ) (w0 := w) (w := w) l g.1 hi (by show 4 < 7; decide))
  have h4 := mVal_ok (anyHere hc (i := 4) (mi := bnd (getS 2) fun d => lft (itemsD d)) (ρ := ρ) (w0 := w) (w := w) l g.1 g.2 hi (by show 4 < 7; decide))
  have fr : ρ.set 4 .free = ρ := rfl
  rw [fr] at h3 h4
  have run : valsM p c v ρ w = some (.ok (.rt (ofVals f l).d) ρ w) := by
    unfold valsM ofVals
    by_cases q : part l = true
    · rw [if_pos q]
      rw [q] at h1
      exact seq_if_yes h1 rfl
    · rw [if_neg q]
      rw [Bool.not_eq_true] at q
      rw [q] at h1
      rw [seq_if_no h1]
      by_cases a : l.any St.isAbs = true
      · rw [if_pos a]
        rw [a] at h2
        exact seq_if_yes h2 rfl
      · rw [if_neg a]
        rw [Bool.not_eq_true] at a
        rw [a] at h2
        rw [seq_if_no h2]
        by_cases b : l.all St.isVal = true
        · rw [if_pos b]
          rw [b] at h3
          have e := vals_back b
          have lc := mLc_map (own := [5, 6]) (bind := bTup 2 (bCons (bName 5) (bCons (bName 6) bNil))) (mi := bnd (getS 2) fun d => lft (itemsD d)) (me := getS 6) (ρ := ρ) (w0 := w) (w := w) (e := fun d => St.d (.val d)) (f := fun d => d) (l.map St.v) (by
              rw [hi]
              congr 2
              have := congrArg (List.map St.d) e
              rw [this, List.map_map, List.map_map]
              simp [Function.comp_def]) (by rw [List.length_map]; have := g.1; omega) fun d _ => ⟨[.val R, .val Ks, .val (stL l), .val m, .free, .val (.str "value"), .val d], [.val R, .val Ks, .val (stL l), .val m, .free, .val (.str "value"), .val d], rfl, rfl, rfl⟩
          rw [List.map_id'] at lc
          have fr2 : wipeR ρ [5, 6] = ρ := rfl
          rw [fr2] at lc
          have a1 : mCons (getS 0) (mCons (getS 1) (mCons (mLc [5, 6] (bnd (getS 2) fun d => lft (itemsD d)) (bTup 2 (bCons (bName 5) (bCons (bName 6) bNil))) (ret true) (getS 6)) mNil)) ρ w = some (.ok [R, Ks, .lst (l.map St.v)] ρ w) := cons_ok rfl (cons_ok rfl (cons_ok lc rfl))
          have a2 : mCall 3 v (mCons (getS 0) (mCons (getS 1) (mCons (mLc [5, 6] (bnd (getS 2) fun d => lft (itemsD d)) (bTup 2 (bCons (bName 5) (bCons (bName 6) bNil))) (ret true) (getS 6)) mNil))) ρ w = some (.ok (f (l.map St.v)) ρ w) := by
            unfold mCall
            rw [bnd_ok a1]
            show (match v [R, Ks, .lst (l.map St.v)] w with
              | some (.ok d w') => some (Rs.ok d ρ w')
              | some (.exc x w') => some (.exc x ρ w')
              | none => none) = _
            rw [hv b w]
          refine seq_if_yes h3 ?_
          unfold mTup
          rw [bnd_ok (cons_ok (rfl : ret (.str "value") ρ w = some (.ok (.str "value") ρ w)) (cons_ok a2 rfl))]
          rfl
        · rw [if_neg b]
          rw [Bool.not_eq_true] at b
          rw [b] at h3
          rw [seq_if_no h3]
          by_cases x : l.any St.here = true
          · rw [if_pos x]
            rw [x] at h4
            exact seq_if_yes h4 rfl
          · rw [if_neg x]
            rw [Bool.not_eq_true] at x
            rw [x] at h4
            rw [seq_if_no h4]
            rfl
  show (match valsM p c v ρ w with
    | some (.ok .nx _ w') => some (Fr.ok .non w')
    | some (.ok (.rt d) _ w') => some (.ok d w')
    | some (.exc x _ w') => some (.exc x w')
    | _ => none) = _
  rw [run]
end DL
set_option Elab.async false
set_option linter.all false
set_option maxRecDepth 100000
set_option maxHeartbeats 4000001
/-! DLXA: choose, standing_of. -/
namespace DL
open PySem PyProof.Rows PySem.Spec L2 RZ StX
variable [Tbs]
theorem cut_from (xs : List D) (k : Nat) : cutD xs (some (k : Nat)) none = xs.drop k := by
  unfold cutD
  rw [HT.sIx_nat, HT.sIx_none]
  apply List.ext_getElem?
  intro j
  rw [List.getElem?_take]
  by_cases h : k ≤ xs.length
  · rw [Nat.min_eq_left h]
    by_cases q : j < xs.length - k
    · rw [if_pos q]
    · rw [if_neg q, List.getElem?_drop, List.getElem?_eq_none (by omega)]
  · rw [Nat.min_eq_right (by omega), Nat.sub_self, if_neg (by omega), List.getElem?_drop, List.getElem?_eq_none (by omega)]
theorem cut_to (xs : List D) (k : Nat) : cutD xs none (some (k : Nat)) = xs.take k := by
  unfold cutD
  rw [HT.sIx_nat, HT.sIx_none, List.drop_zero, Nat.sub_zero]
  apply List.ext_getElem?
  intro j
  rw [List.getElem?_take, List.getElem?_take]
  by_cases h : k ≤ xs.length
  · rw [Nat.min_eq_left h]
  · rw [Nat.min_eq_right (by omega)]
    by_cases q : j < xs.length
    · rw [if_pos q, if_pos (by omega)]
    · rw [if_neg q, List.getElem?_eq_none (by omega)]
      split <;> rfl
theorem dstrs_map : ∀ ws : List Str, dstrs (ws.map .str) = some ws
  | [] => rfl
  | w :: ws => by
    show (dstrs (ws.map .str)).map (fun l => w :: l) = _
    rw [dstrs_map ws]
    rfl
abbrev othM (i j : Nat) : M D := mLst (mStar (mSl (getS i) (ret none) (bnd (getS j) (kInt fun i => ret (some i)))) (mStar (mSl (getS i) (bnd (mBin addD (getS j) (ret (.int 1))) (kInt fun i => ret (some i))) (ret none)) mNil))
def chooseM (p c : Fn1) : M Fl := (mSeq (mPar 4 5 (mCons (mBin ixD (getS 2) (ret (.int 0))) (mCons (mSl (getS 2) (bnd (ret (.int 1)) (kInt fun i => ret (some i))) (ret none)) mNil))) (mSeq (mIte (mBinT eqD (getS 4) (ret (St.d .abs))) (mRet (mIte (mVal (mCall 1 p (mCons (getS 2) mNil))) (ret (St.d .cla)) (ret (St.d .abs)))) (ret .nx)) (mSeq (mIte (mBinT neD (mBin ixD (getS 4) (ret (.int 0))) (ret (.str "value"))) (mRet (getS 4)) (ret .nx)) (mSeq (mSet 6 (mTM tixD (mBin ixD (mBin ixD (getS 1) (ret (.int 0))) (ret (.int 1))) (mCons (mBin ixD (getS 4) (ret (.int 1))) mNil))) (mSeq (mSet 7 (mBin ixD (getS 5) (getS 6))) (mSeq (mSet 8 (othM 5 6)) (mSeq (mIte (mOr (mBinT eqD (getS 7) (ret (St.d .abs))) (mVal (bnd (mCons (mLc [9] (bnd (getS 8) fun d => lft (itemsD d)) (bName 9) (ret true) (mCall 1 c (mCons (getS 9) mNil))) mNil) fun ds => lft (anyD ds)))) (mRet (ret (St.d .cla))) (ret .nx)) (mRet (mIte (mBinT eqD (mBin ixD (getS 7) (ret (.int 0))) (ret (.str "value"))) (getS 7) (ret (St.d .thr)))))))))))
/-- the place of a word -/
def atW (ws : List Str) : D → Nat
  | .str z => (firstAt z ws).getD 0
  | _ => 0
theorem choose_runs {p c : Fn1} (hp : PartOk p) (hc : HereOk c) {R m : D} {ks : List D} {ws : List Str} {q : St} {bs : List St} (g : Good (q :: bs)) (hz : ∀ d, q = .val d → ∃ z j, d = .str z ∧ firstAt z ws = some j ∧ j < bs.length) :
    RunsTo (gOf 4 10 (chooseM p c)) R (.lst (Ty.d (.lot ws) :: ks)) m (ofChoose (atW ws)) (q :: bs) := fun w => by
  have gq : q.ok := g.2 q List.mem_cons_self
  have gb : ∀ s ∈ bs, s.ok := fun s hs => g.2 s (List.mem_cons_of_mem _ hs)
  have lb : bs.length ≤ 1000 := by have := g.1; rw [List.length_cons] at this; omega
  let ρ0 : Rho := [.val R, .val (.lst (Ty.d (.lot ws) :: ks)), .val (stL (q :: bs)), .val m, .free, .free, .free, .free, .free, .free]
  let ρ1 : Rho := [.val R, .val (.lst (Ty.d (.lot ws) :: ks)), .val (stL (q :: bs)), .val m, .val q.d, .val (stL bs), .free, .free, .free, .free]
  have p1 : mPar 4 5 (mCons (mBin ixD (getS 2) (ret (.int 0))) (mCons (mSl (getS 2) (bnd (ret (.int 1)) (kInt fun i => ret (some i))) (ret none)) mNil)) ρ0 w = some (.ok .nx ρ1 w) := by
    have e1 : mBin ixD (getS 2) (ret (.int 0)) ρ0 w = some (.ok q.d ρ0 w) := by simp [ρ0, mBin, bnd, getS, ret, lft, st0]
    have e2 : mSl (getS 2) (bnd (ret (.int 1)) (kInt fun i => ret (some i))) (ret none) ρ0 w = some (.ok (stL bs) ρ0 w) := by
      have := cut_from ((q :: bs).map St.d) 1
      simp [ρ0, mSl, bnd, getS, ret, kInt, lft, slD, stL] at this ⊢
      exact this
    unfold mPar
    rw [bnd_ok (cons_ok e1 (cons_ok e2 rfl))]
    rfl
  have h2 : mBinT eqD (getS 4) (ret (St.d .abs)) ρ1 w = some (.ok q.isAbs ρ1 w) := by
    have e := eqSt q .abs gq trivial
    rw [dq_abs] at e
    simp [ρ1, mBinT, bnd, getS, ret, asB, e]
  have h3 : mVal (mCall 1 p (mCons (getS 2) mNil)) ρ1 w = some (.ok (part (q :: bs)) ρ1 w) := mVal_ok (by simp [ρ1, mCall, bnd, mCons, mNil, getS, ret, hp (q :: bs) g.1 g.2 w])
  obtain ⟨x, hx1, hx2⟩ := ix_head q
  have h4 : mBinT neD (mBin ixD (getS 4) (ret (.int 0))) (ret (.str "value")) ρ1 w = some (.ok (!q.isVal) ρ1 w) := by simp [ρ1, mBinT, mBin, bnd, getS, ret, asB, lft, hx1, ne_str, hx2]
  have run : ∃ ρ', chooseM p c ρ0 w = some (.ok (.rt (ofCh (atW ws) q bs).d) ρ' w) := by
    unfold chooseM ofCh
    rw [seq_nx p1]
    by_cases a : q.isAbs = true
    · rw [if_pos a]
      rw [a] at h2
      refine ⟨ρ1, seq_if_yes h2 ?_⟩
      by_cases b : part (q :: bs) = true
      · rw [if_pos b]
        rw [b] at h3
        unfold mIte
        rw [bnd_ok h3]
        rfl
      · rw [if_neg b]
        rw [Bool.not_eq_true] at b
        rw [b] at h3
        unfold mIte
        rw [bnd_ok h3]
        rfl
    · rw [if_neg a]
      rw [Bool.not_eq_true] at a
      rw [a] at h2
      rw [seq_if_no h2]
      by_cases v : q.isVal = false
      · rw [if_pos v]
        rw [v] at h4
        exact ⟨ρ1, seq_if_yes h4 rfl⟩
      · rw [if_neg v]
        rw [Bool.not_eq_false] at v
        rw [v] at h4
        rw [seq_if_no h4]
        cases q with
        | val d =>
          obtain ⟨z, j, ed, hj, lj⟩ := hz d rfl
          subst ed
          obtain ⟨o, ho⟩ : ∃ o, bs[j]? = some o := ⟨bs[j], List.getElem?_eq_getElem lj⟩
          have go : o.ok := gb o (List.mem_of_getElem? ho)
          have ej : atW ws (St.v (.val (.str z))) = j := by
            show (firstAt z ws).getD 0 = j
            rw [hj]
            rfl
          rw [ej, ho]
          dsimp only
          let ρ2 : Rho := [.val R, .val (.lst (Ty.d (.lot ws) :: ks)), .val (stL (.val (.str z) :: bs)), .val m, .val (St.d (.val (.str z))), .val (stL bs), .val (.int (j : Nat)), .free, .free, .free]
          let ρ3 : Rho := [.val R, .val (.lst (Ty.d (.lot ws) :: ks)), .val (stL (.val (.str z) :: bs)), .val m, .val (St.d (.val (.str z))), .val (stL bs), .val (.int (j : Nat)), .val o.d, .free, .free]
          let ρ4 : Rho := [.val R, .val (.lst (Ty.d (.lot ws) :: ks)), .val (stL (.val (.str z) :: bs)), .val m, .val (St.d (.val (.str z))), .val (stL bs), .val (.int (j : Nat)), .val o.d, .val (stL (bs.eraseIdx j)), .free]
          have t0 : ixD (.lst (Ty.d (.lot ws) :: ks)) (.int 0) = some (Ty.d (.lot ws)) := at0 _ _
          have t1 : ixD (Ty.d (.lot ws)) (.int 1) = some (.tup (ws.map .str)) := at1 _ _ _
          have t2 : tixD (.tup (ws.map .str)) [.str z] = some (.int (j : Nat)) := by
            show (dstrs (ws.map .str)).bind (fun ys => (firstAt z ys).map fun j => D.int (j : Nat)) = _
            rw [dstrs_map]
            show (firstAt z ws).map (fun j => D.int (j : Nat)) = _
            rw [hj]
            rfl
          have s6 : mSet 6 (mTM tixD (mBin ixD (mBin ixD (getS 1) (ret (.int 0))) (ret (.int 1))) (mCons (mBin ixD (getS 4) (ret (.int 1))) mNil)) ρ1 w = some (.ok .nx ρ2 w) := by
            simp [ρ1, ρ2, mSet, setS, mTM, mBin, bnd, mCons, mNil, getS, ret, lft, t0, t1, t2, valD, ixt1]
          have s7 : mSet 7 (mBin ixD (getS 5) (getS 6)) ρ2 w = some (.ok .nx ρ3 w) := by
            simp [ρ2, ρ3, mSet, setS, mBin, bnd, getS, ret, lft, st_at ho]
          have l1 : (bs.map St.d).length ≤ 1000 := by rw [List.length_map]; exact lb
          have c1 : mSl (getS 5) (ret none) (bnd (getS 6) (kInt fun i => ret (some i))) ρ3 w = some (.ok (.lst ((bs.map St.d).take j)) ρ3 w) := by
            simp [ρ3, mSl, bnd, getS, ret, kInt, lft, slD, stL, cut_to]
          have c2 : mSl (getS 5) (bnd (mBin addD (getS 6) (ret (.int 1))) (kInt fun i => ret (some i))) (ret none) ρ3 w = some (.ok (.lst ((bs.map St.d).drop (j + 1))) ρ3 w) := by
            have b0 : mBin addD (getS 6) (ret (.int 1)) ρ3 w = some (.ok (.int ((j + 1 : Nat) : Int)) ρ3 w) := rfl
            have b1 : bnd (mBin addD (getS 6) (ret (.int 1))) (kInt fun i => ret (some i)) ρ3 w = some (.ok (some ((j + 1 : Nat) : Int)) ρ3 w) := by
              rw [bnd_ok b0]
              rfl
            have b2 : getS 5 ρ3 w = some (.ok (stL bs) ρ3 w) := rfl
            have b3 : (ret none : M (Option Int)) ρ3 w = some (.ok none ρ3 w) := rfl
            unfold mSl
            rw [bnd_ok b2, bnd_ok b1, bnd_ok b3]
            show some (Rs.ok (D.lst (cutD (bs.map St.d) (some ((j + 1 : Nat) : Int)) none)) ρ3 w) = _
            rw [cut_from]
          have s8 : mSet 8 (othM 5 6) ρ3 w = some (.ok .nx ρ4 w) := by
            have e : (bs.map St.d).take j ++ ((bs.map St.d).drop (j + 1) ++ []) = (bs.eraseIdx j).map St.d := by
              rw [List.append_nil, ← List.map_take, ← List.map_drop, ← List.map_append, List.eraseIdx_eq_take_drop_succ]
            have a2 : mStar (mSl (getS 5) (bnd (mBin addD (getS 6) (ret (.int 1))) (kInt fun i => ret (some i))) (ret none)) mNil ρ3 w = some (.ok ((bs.map St.d).drop (j + 1) ++ []) ρ3 w) := by
              unfold mStar
              rw [bnd_ok c2]
              rfl
            have a1 : mStar (mSl (getS 5) (ret none) (bnd (getS 6) (kInt fun i => ret (some i)))) (mStar (mSl (getS 5) (bnd (mBin addD (getS 6) (ret (.int 1))) (kInt fun i => ret (some i))) (ret none)) mNil) ρ3 w = some (.ok ((bs.eraseIdx j).map St.d) ρ3 w) := by
              have b1 : ∀ (m1 : M D) (m2 : M (List D)) (xs ys : List D), m1 ρ3 w = some (.ok (.lst xs) ρ3 w) → m2 ρ3 w = some (.ok ys ρ3 w) → mStar m1 m2 ρ3 w = some (.ok (xs ++ ys) ρ3 w) := fun m1 m2 xs ys f1 f2 => by
                unfold mStar
                rw [bnd_ok f1]
                dsimp only
                rw [bnd_ok f2]
                rfl
              rw [← e]
              exact b1 _ _ _ _ c1 a2
            have a0 : othM 5 6 ρ3 w = some (.ok (stL (bs.eraseIdx j)) ρ3 w) := by
              show mLst _ ρ3 w = _
              unfold mLst
              rw [bnd_ok a1]
              rw [if_pos (by rw [List.length_map]; have := List.length_eraseIdx_le bs j; omega)]
              rfl
            unfold mSet
            rw [bnd_ok a0]
            rfl
          rw [seq_nx s6, seq_nx s7, seq_nx s8]
          have ge : ∀ s ∈ bs.eraseIdx j, s.ok := fun s hs => gb s (List.mem_of_mem_eraseIdx hs)
          have le : (bs.eraseIdx j).length ≤ 1000 := by have := List.length_eraseIdx_le bs j; omega
          have h9 := mVal_ok (anyHere hc (i := 9) (mi := bnd (getS 8) fun d => lft (itemsD d)) (ρ := ρ4) (w0 := w) (w := w) (bs.eraseIdx j) le ge (by simp [ρ4, bnd, getS, lft, itemsD, stL]) (by show 9 < 10; decide))
          have fr : ρ4.set 9 .free = ρ4 := rfl
          rw [fr] at h9
          have h10 : mBinT eqD (getS 7) (ret (St.d .abs)) ρ4 w = some (.ok o.isAbs ρ4 w) := by
            have e := eqSt o .abs go trivial
            rw [dq_abs] at e
            simp [ρ4, mBinT, bnd, getS, ret, asB, e]
          have h11 : mOr (mBinT eqD (getS 7) (ret (St.d .abs))) (mVal (bnd (mCons (mLc [9] (bnd (getS 8) fun d => lft (itemsD d)) (bName 9) (ret true) (mCall 1 c (mCons (getS 9) mNil))) mNil) fun ds => lft (anyD ds))) ρ4 w = some (.ok (o.isAbs || (bs.eraseIdx j).any St.here) ρ4 w) := by
            unfold mOr
            rw [bnd_ok h10]
            cases o.isAbs with
            | true => rfl
            | false => exact h9
          by_cases y : (o.isAbs || (bs.eraseIdx j).any St.here) = true
          · rw [if_pos y]
            rw [y] at h11
            exact ⟨ρ4, seq_if_yes h11 rfl⟩
          · rw [if_neg y]
            rw [Bool.not_eq_true] at y
            rw [y] at h11
            rw [seq_if_no h11]
            obtain ⟨x', k1, k2⟩ := ix_head o
            have h12 : mBinT eqD (mBin ixD (getS 7) (ret (.int 0))) (ret (.str "value")) ρ4 w = some (.ok o.isVal ρ4 w) := by simp [ρ4, mBinT, mBin, bnd, getS, ret, asB, lft, k1, eq_str, k2]
            by_cases u : o.isVal = true
            · rw [if_pos u]
              rw [u] at h12
              refine ⟨ρ4, ret_ok ?_⟩
              unfold mIte
              rw [bnd_ok h12]
              rfl
            · rw [if_neg u]
              rw [Bool.not_eq_true] at u
              rw [u] at h12
              refine ⟨ρ4, ret_ok ?_⟩
              unfold mIte
              rw [bnd_ok h12]
              rfl
        | _ => cases v
  obtain ⟨ρ', run⟩ := run
  show (match chooseM p c ρ0 w with
    | some (.ok .nx _ w') => some (Fr.ok .non w')
    | some (.ok (.rt d) _ w') => some (.ok d w')
    | some (.exc x _ w') => some (.exc x w')
    | _ => none) = _
  rw [run]
  rfl
def standM (rules : List (Str × Option D)) (tb : Tb) : M Fl := (mSeq (mIte (mBinT inD (ret (St.d .cla)) (getS 2)) (mRet (ret (St.d .cla))) (ret .nx)) (mSeq (mSet 4 (bnd (mBin ixD (getS 0) (ret (.int 0))) fun d => lft (kdGet rules d))) (mRet (mCallV 4 tb (mCons (getS 0) (mCons (getS 1) (mCons (getS 2) (mCons (getS 3) mNil))))))))
theorem stand_runs {rules : List (Str × Option D)} {tb : Tb} {R Ks m : D} {l : List St} (g : Good l) {x f : Str} {gr : Fn1} {r : Rl} (hR : ixD R (.int 0) = some (.str x)) (hx : kdGet rules (.str x) = some (.fn f)) (hf : tb.lookup f = some (4, gr)) (hr : l.any St.isCla = false → RunsTo gr R Ks m r l) : RunsTo (gOf 4 5 (standM rules tb)) R Ks m (stand r) l := fun w => by
  have e1 := in_cla l g.2
  let ρ : Rho := [.val R, .val Ks, .val (stL l), .val m, .free]
  let ρ1 : Rho := [.val R, .val Ks, .val (stL l), .val m, .val (.fn f)]
  have h1 : mBinT inD (ret (St.d .cla)) (getS 2) ρ w = some (.ok (l.any St.isCla) ρ w) := by simp [ρ, mBinT, bnd, ret, getS, asB, e1]
  have run : ∃ ρ', standM rules tb ρ w = some (.ok (.rt (stand r l).d) ρ' w) := by
    unfold standM stand
    by_cases c : l.any St.isCla = true
    · rw [if_pos c]
      rw [c] at h1
      exact ⟨ρ, seq_if_yes h1 rfl⟩
    · rw [if_neg c]
      rw [Bool.not_eq_true] at c
      rw [c] at h1
      rw [seq_if_no h1]
      have h2 : mSet 4 (bnd (mBin ixD (getS 0) (ret (.int 0))) fun d => lft (kdGet rules d)) ρ w = some (.ok .nx ρ1 w) := by simp [ρ, ρ1, mSet, setS, mBin, bnd, getS, ret, lft, hR, hx]
      rw [seq_nx h2]
      refine ⟨ρ1, ret_ok ?_⟩
      have h3 : mCons (getS 0) (mCons (getS 1) (mCons (getS 2) (mCons (getS 3) mNil))) ρ1 w = some (.ok [R, Ks, stL l, m] ρ1 w) := rfl
      show (match tb.lookup f with
        | some (k, g) => bnd (mCons (getS 0) (mCons (getS 1) (mCons (getS 2) (mCons (getS 3) mNil)))) (kCallV k g) ρ1 w
        | none => none) = _
      rw [hf]
      dsimp only
      rw [bnd_ok h3]
      show (match gr [R, Ks, stL l, m] w with
        | some (.ok d w') => some (Rs.ok d ρ1 w')
        | _ => none) = _
      rw [hr c w]
  obtain ⟨ρ', run⟩ := run
  show (match standM rules tb ρ w with
    | some (.ok .nx _ w') => some (Fr.ok .non w')
    | some (.ok (.rt d) _ w') => some (.ok d w')
    | some (.exc x _ w') => some (.exc x w')
    | _ => none) = _
  rw [run]
end DL
set_option Elab.async false
set_option linter.all false
set_option maxRecDepth 100000
set_option maxHeartbeats 4000001
/-! DLXB: values and standings drawn. -/
namespace DL
open PySem PyProof.Rows PySem.Spec L2 RZ StX
variable [Tbs]
/-- from any right source a result that suits, and a right source -/
def Gives (sa ca : Addr) (g : Fn1) (args : List D) (P : D → Prop) : Prop := ∀ s, Sok sa ca s → ∃ d s', Sok sa ca s' ∧ P d ∧ g args (some s) = some (.ok d (some s'))
def PickOk (sa ca : Addr) (g : Fn1) : Prop := ∀ m : Int, m < 1073741824 → Gives sa ca g [.raw (.ref sa), .int m] fun d => ∃ k : Nat, d = .int (k : Nat) ∧ (k : Int) < max 1 m
theorem pick_ok (sa ca : Addr) : PickOk sa ca (gOf 2 6 pickM) := fun m hm s hs => by
  obtain ⟨k, s', h1, h2, h3⟩ := pick_spec hs hm
  exact ⟨_, s', h1, ⟨k, rfl, h2⟩, h3⟩
theorem call1 {g : Fn1} {m1 : M D} {ρ ρ1 : Rho} {w w1 w2 : Wo} {a d : D} (h : m1 ρ w = some (.ok a ρ1 w1)) (e : g [a] w1 = some (.ok d w2)) : mCall 1 g (mCons m1 mNil) ρ w = some (.ok d ρ1 w2) := by
  unfold mCall
  rw [bnd_ok (cons_ok h rfl)]
  show (match g [a] w1 with
    | some (.ok d w') => some (Rs.ok d ρ1 w')
    | some (.exc x w') => some (.exc x ρ1 w')
    | none => none) = _
  rw [e]
theorem call2 {g : Fn1} {m1 m2 : M D} {ρ ρ1 ρ2 : Rho} {w w1 w2 w3 : Wo} {a b d : D} (h : m1 ρ w = some (.ok a ρ1 w1)) (h2 : m2 ρ1 w1 = some (.ok b ρ2 w2)) (e : g [a, b] w2 = some (.ok d w3)) : mCall 2 g (mCons m1 (mCons m2 mNil)) ρ w = some (.ok d ρ2 w3) := by
  unfold mCall
  rw [bnd_ok (cons_ok h (cons_ok h2 rfl))]
  show (match g [a, b] w2 with
    | some (.ok d w') => some (Rs.ok d ρ2 w')
    | some (.exc x w') => some (.exc x ρ2 w')
    | none => none) = _
  rw [e]
theorem set_ok {i : Nat} {m : M D} {ρ ρ1 : Rho} {w w1 : Wo} {d : D} (h : m ρ w = some (.ok d ρ1 w1)) : mSet i m ρ w = some (.ok .nx (ρ1.set i (.val d)) w1) := by
  unfold mSet
  rw [bnd_ok h]
  rfl
theorem bin_ok {f : D → D → Option D} {m1 m2 : M D} {ρ ρ1 ρ2 : Rho} {w w1 w2 : Wo} {a b d : D} (h : m1 ρ w = some (.ok a ρ1 w1)) (h2 : m2 ρ1 w1 = some (.ok b ρ2 w2)) (e : f a b = some d) : mBin f m1 m2 ρ w = some (.ok d ρ2 w2) := by
  unfold mBin
  rw [bnd_ok h, bnd_ok h2]
  unfold lft
  rw [e]
  rfl
theorem gOf_rt {k nn : Nat} {m : M Fl} {ds : List D} {ρ' : Rho} {w w' : Wo} {d : D} (hk : ds.length = k) (h : m (ds.map .val ++ List.replicate (nn - k) .free) w = some (.ok (.rt d) ρ' w')) : gOf k nn m ds w = some (.ok d w') := by
  unfold gOf
  rw [if_pos hk, h]
def drawVM (cv cp : Fn1) : M Fl := (mSeq (mSet 2 (mCall 1 cv (mCons (getS 1) mNil))) (mRet (mBin ixD (getS 2) (mCall 2 cp (mCons (getS 0) (mCons (bnd (mCons (getS 2) mNil) fun ds => lft (lenD ds)) mNil))))))
def ValsOk (cv : Fn1) (t : Ty) : Prop := ∀ w, cv [t.d] w = some (.ok (.lst t.vals) w)
theorem drawV_spec {sa ca : Addr} {cv cp : Fn1} (hp : PickOk sa ca cp) {t : Ty} (ht : t.small) (hv : ValsOk cv t) : Gives sa ca (gOf 2 3 (drawVM cv cp)) [.raw (.ref sa), t.d] fun d => d ∈ t.vals := fun s hs => by
  have hl := t.vals_len ht
  have hm := t.many_le ht
  obtain ⟨d, s', k1, ⟨k, ed, hk⟩, e⟩ := hp (t.vals.length : Nat) (by omega) s hs
  subst ed
  have lk : k < t.vals.length := by omega
  have hx : t.vals[k]? = some t.vals[k] := List.getElem?_eq_getElem lk
  let ρ : Rho := [.val (.raw (.ref sa)), .val t.d, .val (.lst t.vals)]
  refine ⟨t.vals[k], s', k1, List.getElem_mem lk, gOf_rt (ρ' := ρ) rfl ?_⟩
  have h1 : mSet 2 (mCall 1 cv (mCons (getS 1) mNil)) [.val (.raw (.ref sa)), .val t.d, .free] (some s) = some (.ok .nx ρ (some s)) := set_ok (call1 (ρ1 := [.val (.raw (.ref sa)), .val t.d, .free]) rfl (hv _))
  show drawVM cv cp [.val (.raw (.ref sa)), .val t.d, .free] (some s) = _
  unfold drawVM
  rw [seq_nx h1]
  refine ret_ok (bin_ok (ρ1 := ρ) (a := .lst t.vals) rfl (call2 (ρ1 := ρ) (ρ2 := ρ) (a := .raw (.ref sa)) (b := .int (t.vals.length : Nat)) rfl rfl e) ?_)
  show atI t.vals (k : Nat) = some t.vals[k]
  exact atI_nat hx
/-- a standing of a type: its value is one of the type's -/
def StOk (t : Ty) (s : St) : Prop := ∀ d, s = .val d → d ∈ t.vals
mutual
theorem str_dat (n : Nat) : ∀ ws : List Str, ∀ d ∈ ws.map D.str, dat n d = true
  | [], d, h => by cases h
  | w :: ws, d, h => by
    rcases List.mem_cons.mp
          h with e | e
    · rw [e]; simp [dat]
    · exact str_dat n ws d e
end
theorem Ty.dat : ∀ (t : Ty) (d : D), d ∈ t.vals → DL.dat (t.deep + 1) d = true
  | .lot ws, d, h => str_dat _ ws d h
  | .cnt n, d, h => by
    unfold Ty.vals rgs at h
    obtain ⟨i, _, e⟩ := List.mem_map.mp h
    rw [← e]
    simp [DL.dat]
  | .pair a b, d, h => by
    unfold Ty.vals at h
    obtain ⟨x, hx, h⟩ := List.mem_flatMap.mp h
    obtain ⟨y, hy, e⟩ := List.mem_map.mp h
    rw [← e]
    have h1 := dat_to (a.dat x hx) (show a.deep + 1 ≤ max a.deep b.deep + 1 by omega)
    have h2 := dat_to (b.dat y hy) (show b.deep + 1 ≤ max a.deep b.deep + 1 by omega)
    show DL.dat ((max a.deep b.deep + 1) + 1) (.tup [x, y]) = true
    simp [DL.dat, dats, h1, h2]
theorem StOk.ok {t : Ty} {s : St} (h : StOk t s) (hd : t.deep ≤ 40) : s.ok := by
  cases s with
  | val d => exact dat_to (t.dat d (h d rfl)) (by omega)
  | _ => exact trivial
def drawSM (cp cd : Fn1) : M Fl := (mSeq (mSet 2 (mCall 2 cp (mCons (getS 0) (mCons (ret (.int 9)) mNil)))) (mSeq (mIte (mBinT gtD (getS 2) (ret (.int 3))) (mRet (mTup (mCons (ret (.str "value")) (mCons (mCall 2 cd (mCons (getS 0) (mCons (getS 1) mNil))) mNil)))) (ret .nx)) (mRet (mBin ixD (mLst (mCons (mTup (mCons (ret (.str "unknown")) mNil)) (mCons (mTup (mCons (ret (.str "absent")) mNil)) (mCons (mTup (mCons (ret (.str "there")) mNil)) (mCons (mIte (mBinT eqD (mCall 2 cp (mCons (getS 0) (mCons (ret (.int 3)) mNil))) (ret (.int 0))) (mTup (mCons (ret (.str "clash")) mNil)) (mTup (mCons (ret (.str "there")) mNil))) mNil))))) (getS 2)))))
theorem eq_int (i j : Int) : eqD (.int i) (.int j) = some (.bl (i == j)) := by
  simp [eqD, dat, deq]
theorem drawS_spec {sa ca : Addr} {cp cd : Fn1} (hp : PickOk sa ca cp) {t : Ty} (hd : Gives sa ca cd [.raw (.ref sa), t.d] fun d => d ∈ t.vals) : Gives sa ca (gOf 2 3 (drawSM cp cd)) [.raw (.ref sa), t.d] fun d => ∃ x : St, d = x.d ∧ StOk t x := fun s hs => by
  obtain ⟨d, s1, k1, ⟨k, ed, hk⟩, e⟩ := hp 9 (by decide) s hs
  subst ed
  have lk : (k : Int) < 9 := by omega
  let ρ : Rho := [.val (.raw (.ref sa)), .val t.d, .val (.int (k : Nat))]
  have h1 : mSet 2 (mCall 2 cp (mCons (getS 0) (mCons (ret (.int 9)) mNil))) [.val (.raw (.ref sa)), .val t.d, .free] (some s) = some (.ok .nx ρ (some s1)) := set_ok (call2 (ρ1 := [.val (.raw (.ref sa)), .val t.d, .free]) (ρ2 := [.val (.raw (.ref sa)), .val t.d, .free]) rfl rfl e)
  by_cases h3 : 3 < (k : Int)
  · obtain ⟨v, s2, k2, hv, e2⟩ := hd s1 k1
    refine ⟨_, s2, k2, ⟨.val v, rfl, fun d q => by cases q; exact hv⟩, gOf_rt (ρ' := ρ) rfl ?_⟩
    show drawSM cp cd [.val (.raw (.ref sa)), .val t.d, .free] (some s) = _
    unfold drawSM
    rw [seq_nx h1]
    refine seq_if_yes (ρ' := ρ) (w' := some s1) ?_ ?_
    · simp [ρ, mBinT, bnd, getS, ret, cmpD, asB, h3]
    · unfold mTup
      rw [bnd_ok (cons_ok (rfl : ret (.str "value") ρ (some s1) = some (.ok (.str "value") ρ (some s1))) (cons_ok (call2 (ρ1 := ρ) (ρ2 := ρ) rfl rfl e2) rfl))]
      rfl
  · obtain ⟨d, s2, k2, ⟨j, ej, hj⟩, e2⟩ := hp 3 (by decide) s1 k1
    subst ej
    let last : St := if ((j : Nat) : Int) == 0 then .cla else .thr
    have hm : mIte (mBinT eqD (mCall 2 cp (mCons (getS 0) (mCons (ret (.int 3)) mNil))) (ret (.int 0))) (mTup (mCons (ret (.str "clash")) mNil)) (mTup (mCons (ret (.str "there")) mNil)) ρ (some s1) = some (.ok last.d ρ (some s2)) := by
      have c1 : mBinT eqD (mCall 2 cp (mCons (getS 0) (mCons (ret (.int 3)) mNil))) (ret (.int 0)) ρ (some s1) = some (.ok (((j : Nat) : Int) == 0) ρ (some s2)) := by
        unfold mBinT
        rw [bnd_ok (call2 (ρ1 := ρ) (ρ2 := ρ) (a := .raw (.ref sa)) (b := .int 3) rfl rfl e2)]
        simp [bnd, ret, asB, eq_int]
      unfold mIte
      rw [bnd_ok c1]
      by_cases z : (((j : Nat) : Int) == 0) = true
      · rw [if_pos z]
        show _ = some (Rs.ok (St.d (if ((j : Nat) : Int) == 0 then .cla else .thr)) ρ (some s2))
        rw [if_pos z]
        rfl
      · rw [if_neg z]
        show _ = some (Rs.ok (St.d (if ((j : Nat) : Int) == 0 then .cla else .thr)) ρ (some s2))
        rw [if_neg z]
        rfl
    have lists : mLst (mCons (mTup (mCons (ret (.str "unknown")) mNil)) (mCons (mTup (mCons (ret (.str "absent")) mNil)) (mCons (mTup (mCons (ret (.str "there")) mNil)) (mCons (mIte (mBinT eqD (mCall 2 cp (mCons (getS 0) (mCons (ret (.int 3)) mNil))) (ret (.int 0))) (mTup (mCons (ret (.str "clash")) mNil)) (mTup (mCons (ret (.str "there")) mNil))) mNil)))) ρ (some s1) = some (.ok (.lst [St.d .unk, St.d .abs, St.d .thr, last.d]) ρ (some s2)) := by
      unfold mLst
      rw [bnd_ok (cons_ok (d := St.d .unk) (ρ1 := ρ) (w1 := some s1) rfl (cons_ok (d := St.d .abs) (ρ1 := ρ) (w1 := some s1) rfl (cons_ok (d := St.d .thr) (ρ1 := ρ) (w1 := some s1) rfl (cons_ok hm rfl))))]
      rfl
    have pickSt : ∃ x : St, ixD (.lst [St.d .unk, St.d .abs, St.d .thr, last.d]) (.int (k : Nat)) = some x.d ∧ StOk t x := by
      have lk2 : k < 4 := by omega
      have lok : StOk t last := fun d q => by
        have q : (if ((j : Nat) : Int) == 0 then St.cla else .thr) = .val d := q
        split at q <;> cases q
      match k, lk2 with
      | 0, _ => exact ⟨.unk, atI_nat (j := 0) rfl, fun d q => by cases q⟩
      | 1, _ => exact ⟨.abs, atI_nat (j := 1) rfl, fun d q => by cases q⟩
      | 2, _ => exact ⟨.thr, atI_nat (j := 2) rfl, fun d q => by cases q⟩
      | 3, _ => exact ⟨last, atI_nat (j := 3) rfl, lok⟩
    obtain ⟨x, hx, ox⟩ := pickSt
    refine ⟨x.d, s2, k2, ⟨x, rfl, ox⟩, gOf_rt (ρ' := ρ) rfl ?_⟩
    show drawSM cp cd [.val (.raw (.ref sa)), .val t.d, .free] (some s) = _
    unfold drawSM
    rw [seq_nx h1, seq_if_no (ρ' := ρ) (w' := some s1) (by simp [ρ, mBinT, bnd, getS, ret, cmpD, asB]; omega)]
    exact ret_ok (bin_ok lists (ρ2 := ρ) (b := .int (k : Nat)) rfl hx)
end DL
set_option Elab.async false
set_option linter.all false
set_option maxRecDepth 100000
set_option
      maxHeartbeats 4000000
namespace KX
open PySem PyProof.Rows PySem.Spec L2 RZ StX DL
variable [Tbs] [Ca]
def W8d : List Str := ["a", "ab", "abc", "no", "yes", "abcdefgh", "lot", "z"]
def W8 : List Str := ["a", "ab", "abc", "no", "yes", "abcdefgh", "lot", "z", "b", "c", "d"]
theorem word_ok : ∀ x ∈ W8, ∀ n w, G (n + 2) .f_is_word [.str x] w = some (.ok (.bl true) w) := by
  intro x hx
  simp only [W8, List.mem_cons, List.not_mem_nil, or_false] at hx
  rcases hx with h | h | h | h | h | h | h | h | h | h | h <;> subst h <;> intro n w <;> kernel_rfl
def cD (n : Int) : D := .tup [.str "count", .int n]
def lD (l : List D) : D := .tup [.str "lot", .tup l]
inductive Th where
  | odd (d : D)
  | lot (ws : List Str)
  | cnt (n : Int)
  | pair (a b : Th)
def Th.d : Th → D
  | .odd d => d
  | .lot ws => .tup [.str "lot", .tup (ws.map .str)]
  | .cnt n => .tup [.str "count", .int n]
  | .pair a b => .tup [.str "pair", a.d, b.d]
def Th.path : Th → Option (List Int)
  | .odd _ => some []
  | .lot _ => none
  | .cnt _ => none
  | .pair a b => match a.path with
    | some p => some (1 :: p)
    | none => b.path.map (2 :: ·)
def Th.deep : Th → Nat
  | .pair a b => max a.deep b.deep + 1
  | _ => 0
def pathD (p : List Int) : D := .tup (p.map .int)
def optD : Option (List Int) → D
  | none => .non
  | some p => pathD p
structure LotOk (ws : List Str) : Prop where
  lo : 2 ≤ ws.length
  hi : ws.length ≤ 4
  nd : ws.Nodup
  mem : ∀ x ∈ ws, x ∈ W8
structure OddOk (d : D) : Prop where
  form : ∀ n w, G (n + 8) .f_has_form [d] w = some (.ok (.bl false) w)
def Th.ok : Th → Prop
  | .odd d => OddOk d
  | .lot ws => LotOk ws
  | .cnt n => 2 ≤ n ∧ n ≤ 6
  | .pair a b => a.ok ∧ b.ok
theorem Th.path_len : ∀ (t : Th) (p : List Int), t.path = some p → p.length ≤ t.deep
  | .odd _, p, h => by cases h; exact Nat.zero_le _
  | .pair a b, p, h => by
    simp only [Th.path] at h
    cases ha : a.path with
    | some q =>
      rw [ha] at h
      cases h
      have := Th.path_len a q ha
      simp only [Th.deep, List.length_cons]
      omega
    | none =>
      rw [ha] at h
      cases hb : b.path with
      | none => rw [hb]
            at h; cases h
      | some q =>
        rw [hb] at h
        cases h
        have := Th.path_len b q hb
        simp only [Th.deep, List.length_cons]
        omega
theorem ne_of_nodup : ∀ (ws : List Str) (i : Nat) (x : Str), ws.Nodup → ws[i]? = some x → x ∉ ws.take i
  | [], i, x, _, h => by simp at h
  | y :: ws, 0, x, _, _ => by simp
  | y :: ws, i + 1, x, nd, h => by
    rw [List.nodup_cons] at nd
    have h' : ws[i]? = some x := h
    intro z
    rw [List.take_succ_cons, List.mem_cons] at z
    rcases z with z | z
    · subst z
      exact nd.1 (List.mem_of_getElem? h')
    · exact ne_of_nodup ws i x nd.2 h' z
theorem mem_strs (x : Str) : ∀ ys : List Str, x ∉ ys → memD (.str x) (ys.map .str) = false
  | [], _ => rfl
  | y :: ys, h => by
    rw [List.mem_cons,
          not_or] at h
    have e : (y == x) = false := by
      simp only [beq_eq_false_iff_ne, ne_eq]
      exact fun z => h.1 z.symm
    show (deq (.str y) (.str x) || memD (.str x) (ys.map .str)) = false
    rw [mem_strs x ys h.2]
    show ((y == x) || false) = false
    rw [e]
    rfl
theorem dats_strs (n : Nat) : ∀ ys : List Str, dats n (ys.map D.str) = true
  | [] => by simp [dats]
  | y :: ys => by simp [dats, dat, dats_strs n ys]
theorem enum_strs : ∀ (ws : List Str) (k : Nat), enumFrom' k (ws.map .str) = (ws.zipIdx k).map fun p => D.pr (.int (p.2 : Nat)) (.str p.1)
  | [], _ => rfl
  | x :: ws, k => by
    rw [List.map_cons, List.zipIdx_cons, List.map_cons]
    show _ :: enumFrom' (k + 1) (ws.map .str) = _
    rw [enum_strs ws (k + 1)]
theorem bools_true {α : Type} (l : List α) : bools (l.map fun _ => D.bl true) = some (l.map fun _ => true) := bools_map (fun _ => true) l
theorem all_true {α : Type} (l : List α) : allD [.lst (l.map fun _ => D.bl true)] = some (.bl true) := by
  show (bools (l.map fun _ => D.bl true)).map (fun bs => D.bl (bs.all id)) = _
  rw [bools_true]
  simp
theorem diff_ok {ws : List Str} (h : LotOk ws) (n : Nat) (w : Wo) : G (n + 1) .f_are_different [.tup (ws.map .str)] w = some (.ok (.bl true) w) := by
  have hl := h.hi
  let ρ : Rho := [.val (.tup (ws.map .str)), .free, .free]
  have e := mLc_map (own := [1, 2]) (bind := bTup 2 (bCons (bName 1) (bCons (bName 2) bNil))) (mi := bnd (mCons (getS 0) mNil) fun ds => lft (enumD ds)) (me := mBin niD (getS 2) (mSl (getS 0) (ret none) (bnd (getS 1) (kInt fun i => ret (some i))))) (ρ := ρ) (w0 := w) (w := w) (e := fun p : Str × Nat => D.pr (.int (p.2 : Nat)) (.str p.1)) (f := fun _ => D.bl true) ws.zipIdx
    (by
      show some (Rs.ok (enumFrom' 0 (ws.map .str)) ρ w) = _
      rw [enum_strs])
    (by rw [List.length_zipIdx]; omega)
    (fun p hp => by
      obtain ⟨x, i⟩ := p
      have hi : ws[i]? = some x := by
        have := List.mem_zipIdx_iff_getElem?.mp hp
        simpa using this
      have il : i < ws.length := (List.getElem?_eq_some_iff.mp hi).1
      refine ⟨[.val (.tup (ws.map .str)), .val (.int (i : Nat)), .val (.str x)], [.val (.tup (ws.map .str)), .val (.int (i : Nat)), .val (.str x)], rfl, ?_, rfl⟩
      have e1 : DL.cutD (ws.map D.str) none (some (i : Nat)) = (ws.take i).map .str := by
        unfold DL.cutD
        rw [HT.sIx_none, HT.sIx_nat, List.length_map, Nat.min_eq_left (Nat.le_of_lt il), List.drop_zero, Nat.sub_zero, List.map_take]
      have e2 : niD (.str x) (.tup ((ws.take i).map .str)) = some (.bl true) := by
        show notD (if dat 60 (D.str x) && dats 59 ((ws.take i).map .str) then some (.bl (memD (.str x) ((ws.take i).map .str))) else none) = _
        rw [dats_strs, mem_strs x _ (ne_of_nodup ws i x h.nd hi)]
        rfl
      refine bin_ok (b := .tup ((ws.take i).map .str)) rfl ?_ e2
      show some (Rs.ok (D.tup (DL.cutD (ws.map D.str) none (some ((i : Nat) : Int)))) _ w) = _
      rw [e1])
  refine gOf_rt (ρ' := wipeR ρ [1, 2]) rfl ?_
  show m_are_different (G n) ρ w = _
  unfold m_are_different
  refine ret_ok ?_
  rw [bnd_ok (cons_ok e rfl)]
  unfold lft
  rw [all_true]
  rfl
theorem chain_le {m1 m2 m3 : M D} {ρ : Rho} {w : Wo} {a b c : Int} (h1 : m1 ρ w = some (.ok (.int a) ρ w)) (h2 : m2 ρ w = some (.ok (.int b) ρ w)) (h3 : m3 ρ w = some (.ok (.int c) ρ w)) (x : a ≤ b) (y : b ≤ c) : mChain leD leD m1 m2 m3 ρ w = some (.ok (.bl true) ρ w) := by
  unfold mChain
  rw [bnd_ok h1, bnd_ok h2]
  show (match some (D.bl (decide (a ≤ b))) with
    | some d => kBool (fun k => if k = true then bnd m3 fun c => lft (leD (.int b) c) else DL.ret (.bl false)) d
    | none => fun _ _ => none) ρ w = _
  rw [decide_eq_true x]
  show bnd m3 _ ρ w = _
  rw [bnd_ok h3]
  show some (Rs.ok (D.bl (decide (b ≤ c))) ρ w) = _
  rw [decide_eq_true y]
theorem tuple_ok {l : List D} {a b : Int} (ha : a ≤ (l.length : Int)) (hb : (l.length : Int) ≤ b) (n : Nat) (w : Wo) : G (n + 1) .f_is_tuple [.tup l, .int a, .int b] w = some (.ok (.bl true) w) := by
  refine gOf_rt (ρ' := [.val (.tup l), .val (.int a), .val (.int b)]) rfl ?_
  show m_is_tuple (G n) [.val (.tup l), .val (.int a), .val (.int b)] w = _
  unfold m_is_tuple
  refine ret_ok ?_
  have e : mChain leD leD (getS 1) (bnd (mCons (getS 0) mNil) fun ds => lft (lenD ds)) (getS 2) [.val (.tup l), .val (.int a), .val (.int b)] w = some (.ok (.bl true) [.val (.tup l), .val (.int a), .val (.int b)] w) := by
    simp [mChain, bnd, getS, DL.ret, mCons, mNil, lft, lenD, cmpD, kBool, ha, hb]
  show (mChain leD leD (getS 1) (bnd (mCons (getS 0) mNil) fun ds => lft (lenD ds)) (getS 2)) [.val (.tup l), .val (.int a), .val (.int b)] w = _
  exact e
theorem lotIs {ws : List Str} (h : LotOk ws) (n : Nat) (w : Wo) : G (n + 7) .f_is_lot [.tup [.str "lot", .tup (ws.map .str)]] w = some (.ok (.bl true) w) := by
  have hl := h.hi
  have h2 := h.lo
  let T : D := .tup [.str "lot", .tup (ws.map .str)]
  let ρ : Rho := [.val T, .val (.tup (ws.map .str)), .free]
  refine gOf_rt (ρ' := wipeR ρ [2]) rfl ?_
  show m_is_lot (G (n + 6)) [.val T, .free, .free] w = _
  unfold m_is_lot
  rw [seq_nx (ρ' := ρ) (w' := w) (by kernel_rfl)]
  refine ret_ok ?_
  have e0 : mCall 3 (G (n + 6) .f_is_tuple) (mCons (getS 1) (mCons (DL.ret (.int 2)) (mCons (DL.ret (.int 4)) mNil))) ρ w = some (.ok (.bl true) ρ w) := by
    have e := tuple_ok (l := ws.map D.str) (a := 2) (b := 4) (by rw [List.length_map]; omega) (by rw [List.length_map]; omega) (n + 5) w
    show (match G (n + 6) .f_is_tuple [.tup (ws.map .str), .int 2, .int 4] w with
      | some (.ok d w') => some (Rs.ok d ρ w')
      | some (.exc x w') => some (.exc x ρ w')
      | none => none) = _
    rw [e]
  have e1 := mLc_map (own := [2]) (bind := bName 2) (mi := bnd (getS 1) fun d => lft (itemsD d)) (me := mCall 1 (G (n + 6) .f_is_word) (mCons (getS 2) mNil)) (ρ := ρ) (w0 := w) (w := w) (e := fun x : Str => D.str x) (f := fun _ => D.bl true) ws rfl (by omega)
    (fun x hx => ⟨[.val T, .val (.tup (ws.map .str)), .val (.str x)], [.val T, .val (.tup (ws.map .str)), .val (.str x)], rfl, call1 (a := .str x) rfl (word_ok x (h.mem x hx) (n + 4) w), rfl⟩)
  have e2 : (bnd (mCons (mLc [2] (bnd (getS 1) fun d => lft (itemsD d)) (bName 2) (DL.ret true) (mCall 1 (G (n + 6) .f_is_word) (mCons (getS 2) mNil))) mNil) fun ds => lft (allD ds)) ρ w = some (.ok (.bl true) (wipeR ρ [2]) w) := by
    rw [bnd_ok (cons_ok e1 rfl)]
    unfold lft
    rw [all_true]
    rfl
  have e3 : mCall 1 (G (n + 6) .f_are_different) (mCons (getS 1) mNil) (wipeR ρ [2]) w = some (.ok (.bl true) (wipeR ρ [2]) w) := call1 (a := .tup (ws.map .str)) rfl (diff_ok h (n + 5) w)
  unfold mAndV
  rw [bnd_ok e0]
  show bnd _ _ ρ w = _
  rw [bnd_ok e2]
  exact e3
theorem seq_if {mc : M Bool} {a b k : M Fl} {ρ ρ' ρ2 : Rho} {w w' w2 : Wo} {d : D} (h : mc ρ w = some (.ok true ρ' w')) (e : a ρ' w' = some (.ok (.rt d) ρ2 w2)) : mSeq (mIte mc a b) k ρ w = some (.ok (.rt d) ρ2 w2) := seq_rt ((ite_run h).trans e)
theorem seq_el {mc : M Bool} {a k : M Fl} {ρ ρ' : Rho} {w w' : Wo} (h : mc ρ w = some (.ok false ρ' w')) : mSeq (mIte mc a (DL.ret .nx)) k ρ w = k ρ' w' := seq_nx ((ite_run h).trans rfl)
theorem seq_th {mc : M Bool} {a b k : M Fl} {ρ ρ' ρ2 : Rho} {w w' w2 : Wo} (h : mc ρ w = some (.ok true ρ' w')) (e : a ρ' w' = some (.ok .nx ρ2 w2)) : mSeq (mIte mc a b) k ρ w = k ρ2 w2 := seq_nx ((ite_run h).trans e)
theorem lotForm {ws : List Str} (h : LotOk ws) (n : Nat) (w : Wo) : G (n + 8) .f_has_form [.tup [.str "lot", .tup (ws.map .str)]] w = some (.ok (.bl true) w) := by
  refine gOf_rt (ρ' := [.val (.tup [.str "lot", .tup (ws.map .str)])]) rfl ?_
  show m_has_form (G (n + 7)) [.val (.tup [.str "lot", .tup (ws.map .str)])] w = _
  unfold m_has_form
  rw [seq_el (ρ' := [.val (.tup [.str "lot", .tup (ws.map .str)])]) (w' := w) (by kernel_rfl)]
  rw [seq_el (ρ' := [.val (.tup [.str "lot", .tup (ws.map .str)])]) (w' := w) (by kernel_rfl)]
  exact seq_if (ρ' := [.val (.tup [.str "lot", .tup (ws.map .str)])]) (w' := w) (by kernel_rfl) (ret_ok (call1 (a := .tup [.str "lot", .tup (ws.map .str)]) rfl (lotIs h n w)))
theorem cntForm {k : Int} (h : 2 ≤ k ∧ k ≤ 6) (n : Nat) (w : Wo) : G (n + 8) .f_has_form [cD k] w = some (.ok (.bl true) w) := by
  have c : k = 2 ∨ k = 3 ∨ k = 4 ∨ k = 5 ∨ k = 6 := by omega
  rcases c with c | c | c | c | c <;> subst c <;> kernel_rfl
theorem pairForm (a b : D) (n : Nat) (w : Wo) : G (n + 8) .f_has_form [.tup [.str "pair", a, b]] w = some (.ok (.bl true) w) := by kernel_rfl
theorem for_each {bd : D → Rho → Option Rho} {mb : M Fl} {I : Rho → Wo → Prop} {P : D → Prop} (g : ∀ d, P d → ∀ ρ w, I ρ w → ∃ ρ0 ρ' w', bd d ρ = some ρ0 ∧ mb ρ0 w = some (.ok .nx ρ' w') ∧ I ρ' w') : ∀ (ds : List D), (∀ d ∈ ds, P d) → ∀ ρ w, I ρ w → ∃ ρ' w', forL bd mb ds ρ w = some (.ok .nx ρ' w') ∧ I ρ' w' :=
  fun ds hds => for_inv ds fun d hd ρ w h => by
    obtain ⟨ρ0, ρ', w', e1, e2, e3⟩ := g d (hds d hd) ρ w h
    exact ⟨ρ0, ρ', w', e1, .inl e2, e3⟩
theorem isn_opt (o : Option (List Int)) : isN true (optD o) .non = some (.bl o.isSome) := by
  cases o <;> rfl
theorem isf_opt (o : Option (List Int)) : isN false (optD o) .non = some (.bl o.isNone) := by
  cases o <;> rfl
end KX
set_option Elab.async false
set_option linter.all false
set_option maxRecDepth 100000
set_option
      maxHeartbeats 4000000
namespace KX
open PySem PyProof.Rows PySem.Spec L2 RZ StX DL
variable [Tbs] [Ca]
theorem ne_str (x y : Str) : neD (.str x) (.str y) = some (.bl (!(x == y))) := by
  simp [neD, dat, deq]
theorem pathD_add (q p : List Int) (h : q.length + p.length ≤ 100000) : addD (pathD q) (pathD p) = some (pathD (q ++ p)) := by
  show (if (q.map D.int).length + (p.map D.int).length ≤ 100000 then some (D.tup (q.map D.int ++ p.map D.int)) else none) = _
  rw [if_pos (by rw [List.length_map, List.length_map]; exact h), ← List.map_append]
  rfl
theorem formOk : ∀ (t : Th), t.ok → ∀ n, 8 ≤ n → ∀ w, G n .f_has_form [t.d] w = some (.ok (.bl (match t with | .odd _ => false | _ => true)) w)
  | .odd d, h, n, hn, w => by
    obtain ⟨k, rfl⟩ : ∃ k, n = k + 8 := ⟨n - 8, by omega⟩
    exact h.form k w
  | .lot ws, h, n, hn, w => by
    obtain ⟨k, rfl⟩ : ∃ k, n = k + 8 := ⟨n - 8, by omega⟩
    exact lotForm h k w
  | .cnt c, h, n, hn, w => by
    obtain ⟨k, rfl⟩ : ∃ k, n = k + 8 := ⟨n - 8, by omega⟩
    exact cntForm h k w
  | .pair a b, h, n, hn, w => by
    obtain ⟨k, rfl⟩ : ∃ k, n = k + 8 := ⟨n - 8, by omega⟩
    exact pairForm _ _ k w
theorem formPath : ∀ (t : Th), t.ok → ∀ n, t.deep + 9 ≤ n → ∀ (q : List Int), q.length + t.deep ≤ 1000 → ∀ w, G n .f_form_path [t.d, pathD q] w = some (.ok (optD (t.path.map (q ++ ·))) w)
  | .odd d, h, n, hn, q, hq, w => by
    obtain ⟨k, rfl⟩ : ∃ k, n = k + 8 + 1 := ⟨n - 9, by simp only [Th.deep] at hn; omega⟩
    have e := formOk (.odd d) h (k + 8) (by omega) w
    let ρ : Rho := [.val d, .val (pathD q), .free]
    refine gOf_rt (ρ' := ρ) rfl ?_
    show m_form_path (G (k + 8)) ρ w = _
    unfold m_form_path
    refine seq_if (ρ' := ρ) (w' := w) ?_ ?_
    · unfold mNot mVal
      rw [bnd_ok (a := false) (ρ' := ρ) (w' := w) (by rw [bnd_ok (call1 (a := d) (ρ1 := ρ) (w1 := w) rfl e)]; rfl)]
      rfl
    · show some (Rs.ok (Fl.rt (pathD q)) ρ w) = some (Rs.ok (Fl.rt (pathD (q ++ []))) ρ w)
      rw [List.append_nil]
  | .lot ws, h, n, hn, q, hq, w => by
    obtain ⟨k, rfl⟩ : ∃ k, n = k + 8 + 1 := ⟨n - 9, by simp only [Th.deep] at hn; omega⟩
    have e := formOk (.lot ws) h (k + 8) (by omega) w
    let ρ : Rho := [.val (Th.lot ws).d, .val (pathD q), .free]
    refine gOf_rt (ρ' := ρ) rfl ?_
    show m_form_path (G (k + 8)) ρ w = _
    unfold m_form_path
    rw [seq_el (ρ' := ρ) (w' := w) (by
      unfold mNot mVal
      rw [bnd_ok (a := true) (ρ' := ρ) (w' := w) (by rw [bnd_ok (call1 (a := (Th.lot ws).d) (ρ1 := ρ) (w1 := w) rfl e)]; rfl)]
      rfl)]
    exact seq_if (ρ' := ρ) (w' := w) (by kernel_rfl) rfl
  | .cnt c, h, n, hn, q, hq, w => by
    obtain ⟨k, rfl⟩ : ∃ k, n = k + 8 + 1 := ⟨n - 9, by simp only [Th.deep] at hn; omega⟩
    have e := formOk (.cnt c) h (k + 8) (by omega) w
    let ρ : Rho := [.val (Th.cnt c).d, .val (pathD q), .free]
    refine gOf_rt (ρ' := ρ) rfl ?_
    show m_form_path (G (k + 8)) ρ w = _
    unfold m_form_path
    rw [seq_el (ρ' := ρ) (w' := w) (by
      unfold mNot mVal
      rw [bnd_ok (a := true) (ρ' := ρ) (w' := w) (by rw [bnd_ok (call1 (a := (Th.cnt c).d) (ρ1 := ρ) (w1 := w) rfl e)]; rfl)]
      rfl)]
    exact seq_if (ρ' := ρ) (w' := w) (by kernel_rfl) rfl
  | .pair a b, h, n, hn, q, hq, w => by
    simp only [Th.deep] at hn hq
    obtain ⟨k, rfl⟩ : ∃ k, n = k + 8 + 1 := ⟨n - 9, by omega⟩
    have e := formOk (.pair a b) h (k + 8) (by omega) w
    have ea := formPath a h.1 (k + 8) (by omega) (q ++ [1]) (by simp only [List.length_append, List.length_cons, List.length_nil]; omega) w
    have eb := formPath b h.2 (k + 8) (by omega) (q ++ [2]) (by simp only [List.length_append, List.length_cons, List.length_nil]; omega) w
    let T := (Th.pair a b).d
    let ρ : Rho := [.val T, .val (pathD q), .free]
    have pre : m_form_path (G (k + 8)) ρ w = (mSeq (mSet 2 (mCall 2 (G (k + 8) .f_form_path) (mCons (mBin ixD (getS 0) (DL.ret (.int 1))) (mCons (mBin addD (getS 1) (mTup (mCons (DL.ret (.int 1)) mNil))) mNil)))) (mSeq (mIte (mBinT (isN false) (getS 2) (DL.ret .non)) (mSet 2 (mCall 2 (G (k + 8) .f_form_path) (mCons (mBin ixD (getS 0) (DL.ret (.int 2))) (mCons (mBin addD (getS 1) (mTup (mCons (DL.ret (.int 2)) mNil))) mNil)))) (DL.ret .nx)) (mRet (getS 2)))) ρ w := by
      unfold m_form_path
      rw [seq_el (ρ' := ρ) (w' := w) (by
        unfold mNot mVal
        rw [bnd_ok (a := true) (ρ' := ρ) (w' := w) (by rw [bnd_ok (call1 (a := T) (ρ1 := ρ) (w1 := w) rfl e)]; rfl)]
        rfl)]
      rw [seq_el (ρ' := ρ) (w' := w) (by kernel_rfl)]
    have add : ∀ (i : Int) (s : Slot), (mBin addD (getS 1) (mTup (mCons (DL.ret (.int i)) mNil))) [.val T, .val (pathD q), s] w = some (.ok (pathD (q ++ [i])) [.val T, .val (pathD q), s] w) := fun i s =>
      bin_ok (a := pathD q) (b := pathD [i]) rfl rfl (pathD_add q [i] (by simp only [List.length_cons, List.length_nil]; omega))
    have s1 : mSet 2 (mCall 2 (G (k + 8) .f_form_path) (mCons (mBin ixD (getS 0) (DL.ret (.int 1))) (mCons (mBin addD (getS 1) (mTup (mCons (DL.ret (.int 1)) mNil))) mNil))) ρ w = some (.ok .nx [.val T, .val (pathD q), .val (optD (a.path.map (q ++ [1] ++ ·)))] w) :=
      set_ok (ρ1 := ρ) (call2 (a := a.d) (b := pathD (q ++ [1])) (ρ1 := ρ) (ρ2 := ρ) (w1 := w) (w2 := w) rfl (add 1 .free) ea)
    refine (?_ : gOf 2 3 (m_form_path (G (k + 8))) [T, pathD q] w = _)
    cases hp : a.path with
    | some p =>
      have g : (Th.pair a b).path = some (1 :: p) := by simp only [Th.path, hp]
      rw [g]
      rw [hp] at s1
      refine gOf_rt (ρ' := [.val T, .val (pathD q), .val (pathD (q ++ [1] ++ p))]) rfl ?_
      show m_form_path (G (k + 8)) ρ w = _
      rw [pre, seq_nx s1, seq_el (ρ' := [.val T, .val (pathD q), .val (pathD (q ++ [1] ++ p))]) (w' := w) rfl]
      show some (Rs.ok (Fl.rt (pathD (q ++ [1] ++ p))) _ w) = _
      rw [List.append_assoc]
      rfl
    | none =>
      rw [hp] at s1
      have s2 : mSet 2 (mCall 2 (G (k + 8) .f_form_path) (mCons (mBin ixD (getS 0) (DL.ret (.int 2))) (mCons (mBin addD (getS 1) (mTup (mCons (DL.ret (.int 2)) mNil))) mNil))) [.val T, .val (pathD q), .val .non] w = some (.ok .nx [.val T, .val (pathD q), .val (optD (b.path.map (q ++ [2] ++ ·)))] w) :=
        set_ok (ρ1 := [.val T, .val (pathD q), .val .non]) (call2 (a := b.d) (b := pathD (q ++ [2])) (ρ1 := [.val T, .val (pathD q), .val .non]) (ρ2 := [.val T, .val (pathD q), .val .non]) (w1 := w) (w2 := w) rfl (add 2 _) eb)
      have g : (Th.pair a b).path.map (q ++ ·) = b.path.map (q ++ [2] ++ ·) := by
        simp only [Th.path, hp, Option.map_map]
        congr 1
        funext z
        simp
      rw [g]
      refine gOf_rt (ρ' := [.val T, .val (pathD q), .val (optD (b.path.map (q ++ [2] ++ ·)))]) rfl ?_
      show m_form_path (G (k + 8)) ρ w = _
      rw [pre, seq_nx s1, seq_th (ρ' := [.val T, .val (pathD q), .val .non]) (w' := w) rfl s2]
      rfl
def Th.num : Th → Int
  | .odd _ => 0
  | .lot ws => ws.length
  | .cnt n => n
  | .pair a b => a.num * b.num
def Th.tups : Th → Int
  | .pair a b => 1 + a.tups + b.tups
  | _ => 1
theorem right_pair {a b : Th} (h : (Th.pair a b).path = none) : a.path = none ∧ b.path = none := by
  simp only [Th.path] at h
  cases ha : a.path with
  | some p => rw [ha] at h; cases h
  | none =>
    rw [ha] at h
    cases hb : b.path with
    | some p => rw [hb] at h; cases h
    | none => exact ⟨rfl, rfl⟩
theorem Th.num_le : ∀ (t : Th), t.ok → t.path = none → ∀ k, t.deep ≤ k → 1 ≤ t.num ∧ t.num ≤ ((6 ^ (2 ^ k) : Nat) : Int)
  | .odd _, _, h, _, _ => by cases h
  | .lot ws, h, _, k, _ => by
    have h1 := h.lo
    have h2 := h.hi
    have e : 6 ^ 1 ≤ 6 ^ (2 ^ k) := Nat.pow_le_pow_right (by decide) Nat.one_le_two_pow
    simp only [Th.num]
    omega
  | .cnt c, h, _, k, _ => by
    have h1 : 2 ≤ c ∧ c ≤ 6 := h
    have e : 6 ^ 1 ≤ 6 ^ (2 ^ k) := Nat.pow_le_pow_right (by decide) Nat.one_le_two_pow
    simp only [Th.num]
    omega
  | .pair a b, h, r, 0, hk => by simp only [Th.deep] at hk; omega
  | .pair a b, h, r, k + 1, hk => by
    simp only [Th.deep] at hk
    have ha := Th.num_le a h.1 (right_pair r).1 k (by omega)
    have hb := Th.num_le b h.2 (right_pair r).2 k (by omega)
    have e : 6 ^ (2 ^ (k + 1)) = 6 ^ (2 ^ k) * 6 ^ (2 ^ k) := by rw [Nat.pow_succ, Nat.mul_two, Nat.pow_add]
    simp only [Th.num]
    constructor
    · have := Int.mul_le_mul ha.1 hb.1 (by decide) (by omega)
      simpa using this
    · rw [e, Int.natCast_mul]
      exact Int.mul_le_mul ha.2 hb.2 (by omega) (by omega)
theorem num_inB {t : Th} (h : t.ok) (r : t.path = none) (hd : t.deep ≤ 4) : inB t.num = true := by
  have e := t.num_le h r 4 hd
  have e2 : ((6 ^ (2 ^ 4) : Nat) : Int) = 2821109907456 := by decide
  rw [e2] at e
  unfold inB
  rw [Bool.and_eq_true,
        decide_eq_true_eq, decide_eq_true_eq]
  omega
theorem countOf (w : Wo) : ∀ (t : Th), t.ok → t.path = none → t.deep ≤ 5 → ∀ n, t.deep < n → G n .f_count_of [t.d] w = some (.ok (.int t.num) w)
  | _, _, _, _, 0, h => absurd h (Nat.not_lt_zero _)
  | .odd _, _, r, _, _ + 1, _ => by cases r
  | .lot ws, hs, _, _, n + 1, h => by
    show gOf 1 1 (m_count_of (G n)) [(Th.lot ws).d] w = _
    simp [gOf, m_count_of, mSeq, mIte, mRet, mBinT, mBin, bnd, getS, DL.ret, ixD, lft, Th.d, Th.num, at0, at1, DL.eq_str, asB, mCons, mNil, lenD, s1, s5]
  | .cnt k, hs, _, _, n + 1, h => by
    show gOf 1 1 (m_count_of (G n)) [(Th.cnt k).d] w = _
    simp [gOf, m_count_of, mSeq, mIte, mRet, mBinT, mBin, bnd, getS, DL.ret, ixD, lft, Th.d, Th.num, at0, at1, DL.eq_str, asB, mCons, mNil, lenD, s2, s3]
  | .pair a b, hs, r, hd, n + 1, h => by
    simp only [Th.deep] at h hd
    have ea := countOf w a hs.1 (right_pair r).1 (by omega) n (by omega)
    have eb := countOf w b hs.2 (right_pair r).2 (by omega) n (by omega)
    have ib := num_inB hs.1 (right_pair r).1 (by omega)
    show gOf 1 1 (m_count_of (G n)) [(Th.pair a b).d] w = _
    simp [gOf, m_count_of, mSeq, mIte, mRet, mBinT, mBin, bnd, getS, DL.ret, ixD, lft, Th.d, Th.num, at0, at1, at2, DL.eq_str, asB, mCons, mNil, mCall, s4, ea, eb, mulD, ib]
theorem tupsIn (w : Wo) : ∀ (t : Th), t.ok → t.path = none → ∀ n, t.deep < n → G n .f_tuples_in [t.d] w = some (.ok (.int t.tups) w)
  | _, _, _, 0, h => absurd h (Nat.not_lt_zero _)
  | .odd _, _, r, _ + 1, _ => by cases r
  | .lot ws, hs, _, n + 1, h => by
    show gOf 1 1 (m_tuples_in (G n)) [(Th.lot ws).d] w = _
    simp [gOf, m_tuples_in, mSeq, mIte, mRet, mBinT, mBin, bnd, getS, DL.ret, ixD, lft, Th.d, Th.tups, at0, at1, DL.eq_str, asB, s1]
  | .cnt k, hs, _, n + 1, h => by
    show gOf 1 1 (m_tuples_in (G n)) [(Th.cnt k).d] w = _
    simp [gOf, m_tuples_in, mSeq, mIte, mRet, mBinT, mBin, bnd, getS, DL.ret, ixD, lft, Th.d, Th.tups, at0, at1, DL.eq_str, asB, s2]
  | .pair a b, hs, r, n + 1, h => by
    simp only [Th.deep] at h
    have ea := tupsIn w a hs.1 (right_pair r).1 n (by omega)
    have eb := tupsIn w b hs.2 (right_pair r).2 n (by omega)
    show gOf 1 1 (m_tuples_in (G n)) [(Th.pair a b).d] w = _
    simp [gOf, m_tuples_in, mSeq, mIte, mRet, mBinT, mBin, bnd, getS, DL.ret, ixD, lft, Th.d, Th.tups, at0, at1, at2, DL.eq_str, asB, mCons, mNil, mCall, s4, ea, eb, addD]
theorem lawTups (w : Wo) : ∀ (t : Th), t.ok → t.path = none → ∀ n, t.deep < n → G n .f__law_tuples [t.d] w = some (.ok (.int t.tups) w)
  | _, _, _, 0, h => absurd h (Nat.not_lt_zero _)
  | .odd _, _, r, _ + 1, _ => by cases r
  | .lot ws, hs, _, n + 1, h => by
    show gOf 1 1 (m__law_tuples (G n)) [(Th.lot ws).d] w = _
    simp [gOf, m__law_tuples, mSeq, mIte, mRet, mBinT, mBin, bnd, getS, DL.ret, ixD, lft, Th.d, Th.tups, at0, at1, DL.eq_str, asB, s1, addD]
  | .cnt k, hs, _, n + 1, h => by
    show gOf 1 1 (m__law_tuples (G n)) [(Th.cnt k).d] w = _
    simp [gOf, m__law_tuples, mSeq, mIte, mRet, mBinT, mBin, bnd, getS, DL.ret, ixD, lft, Th.d, Th.tups, at0, at1, DL.eq_str, asB, s2, addD]
  | .pair a b, hs, r, n + 1, h => by
    simp only [Th.deep] at h
    have ea := lawTups w a hs.1 (right_pair r).1 n (by omega)
    have eb := lawTups w b hs.2 (right_pair r).2 n (by omega)
    show gOf 1 1 (m__law_tuples (G n)) [(Th.pair a b).d] w = _
    simp [gOf, m__law_tuples, mSeq, mIte, mRet, mBinT, mBin, bnd, getS, DL.ret, ixD, lft, Th.d, Th.tups, at0, at1, at2, DL.eq_str, asB, mCons, mNil, mCall, s4, ea, eb, addD]
    omega
def Th.vals : Th → List D
  | .odd _ => []
  | .lot ws => ws.map .str
  | .cnt n => rgs 0 n.toNat
  | .pair a b => a.vals.flatMap fun x => b.vals.map fun y => .tup [x, y]
theorem flat_len (ys : List D) : ∀ l : List D, (l.flatMap fun x => ys.map fun y => D.tup [x, y]).length = l.length * ys.length
  | [] => by simp
  | x :: l => by rw [List.flatMap_cons, List.length_append, flat_len ys l, List.length_map, List.length_cons, Nat.succ_mul, Nat.add_comm]
theorem Th.vals_len : ∀ (t : Th), t.ok → t.path = none → (t.vals.length : Int) = t.num
  | .odd _, _, r => by cases r
  | .lot ws, _, _ => by simp [Th.vals, Th.num]
  | .cnt n, h, _ => by
    have h1 : 2 ≤ n ∧ n ≤ 6 := h
    simp [Th.vals, Th.num, rgs]
    omega
  | .pair a b, h, r => by
    have ha := a.vals_len h.1 (right_pair r).1
    have hb := b.vals_len h.2 (right_pair r).2
    show (((a.vals.flatMap fun x => b.vals.map fun y => D.tup [x, y]).length : Nat) : Int) = a.num * b.num
    rw [← ha, ← hb, flat_len]
    exact Int.natCast_mul _ _
end KX
set_option Elab.async false
set_option linter.all false
set_option maxRecDepth 100000
set_option
      maxHeartbeats 4000000
namespace KX
open PySem PyProof.Rows PySem.Spec L2 RZ StX DL
variable [Tbs] [Ca]
structure Nc (p : PyData) (m : Nat) : Prop where
  sh : p.showable = true
  len : p.shown.length ≤ m
  ok : PyData.strOk p.shown = true
def ncB (p : PyData) (m : Nat) : Bool := p.showable && decide (p.shown.length ≤ m) && PyData.strOk p.shown
theorem nc_by {p : PyData} {m : Nat} (h : ncB p m = true) : Nc p m := by
  unfold ncB at h
  rw [Bool.and_eq_true, Bool.and_eq_true, decide_eq_true_eq] at h
  exact ⟨h.1.1, h.1.2, h.2⟩
theorem Nc.mono {p : PyData} {m k : Nat} (h : Nc p m) (l : m ≤ k) : Nc p k := ⟨h.sh, Nat.le_trans h.len l, h.ok⟩
theorem ok_join : ∀ ts : List Str, (∀ t ∈ ts, PyData.strOk t = true) → PyData.strOk (Str.join ", " ts) = true
  | [], _ => by decide +kernel
  | [x], h => h x List.mem_cons_self
  | x :: y :: r, h => by
    show PyData.strOk (x ++ ", " ++ Str.join ", " (y :: r)) = true
    exact strOk_app (strOk_app (h x List.mem_cons_self) (by decide +kernel)) (ok_join (y :: r) fun t ht => h t (List.mem_cons_of_mem _ ht))
theorem sum_to (m : Nat) : ∀ ts : List Str, (∀ t ∈ ts, t.length ≤ m) → (ts.map (·.length)).sum ≤ ts.length * m
  | [], _ => by simp
  | t :: ts, h => by
    have a := sum_to m ts fun u hu => h u (List.mem_cons_of_mem _ hu)
    have b := h t List.mem_cons_self
    rw [List.map_cons, List.sum_cons,
          List.length_cons, Nat.succ_mul]
    omega
theorem show_all : ∀ ps : List PyData, (∀ p ∈ ps, p.showable = true) → PyData.showableAll ps = true
  | [], _ => rfl
  | p :: ps, h => by
    show (p.showable && PyData.showableAll ps) = true
    rw [h p List.mem_cons_self, show_all ps fun q hq => h q (List.mem_cons_of_mem _ hq)]
    rfl
theorem nc_tuple {ps : List PyData} {m : Nat} (h : ∀ p ∈ ps, Nc p m) : Nc (.tuple ps) (ps.length * (m + 2) + 3) := by
  have em : PyData.shownAll ps = ps.map (·.shown) := shownAll_eq_map ps
  have es : (PyData.tuple ps).shown = tupleText (ps.map (·.shown)) := by
    rw [← em]
    rfl
  have hm : ∀ t ∈ ps.map (·.shown), t.length ≤ m := fun t ht => by
    obtain ⟨p, hp, e⟩ := List.mem_map.mp ht
    rw [← e]
    exact (h p hp).len
  refine ⟨show_all ps fun p hp => (h p hp).sh, ?_, ?_⟩
  · rw [es]
    have a := tupleText_len_le (ps.map (·.shown))
    have b := sum_to m _ hm
    rw [List.length_map] at a b
    rw [Nat.mul_add]
    omega
  · rw [es]
    unfold tupleText
    refine strOk_app (strOk_app (by decide +kernel) (ok_join _ fun t ht => ?_)) ?_
    · obtain ⟨p, hp, e⟩ := List.mem_map.mp ht
      rw [← e]
      exact (h p hp).ok
    · split <;> decide +kernel
structure KP (n m : Nat) (d : D) : Prop where
  dat : dat n d = true
  nc : Nc (toP d) m
structure KE (n m : Nat) (d : D) : Prop where
  dat : datE n d = true
  ref : refE d = true
  nc : Nc (toPE d) m
def Sh (d : D) : Prop := ∃ x, reprD [d] = some (.str x)
theorem KP.sh {n m : Nat} {d : D} (h : KP n m d) (hn : DL.dat 60 d = true) (hm : m ≤ 100000) : Sh d := by
  refine ⟨(toP d).shown, ?_⟩
  show (if DL.dat 60 d && (toP d).showable && decide ((toP d).shown.length ≤ 100000) && PyData.strOk (toP d).shown then some (D.str (toP d).shown) else reprE d) = _
  rw [hn, h.nc.sh, h.nc.ok, decide_eq_true (Nat.le_trans h.nc.len hm)]
  rfl
theorem KE.sh {n m : Nat} {d : D} (h : KE n m d) (hn : datE 60 d = true) (hm : m ≤ 100000) : Sh d := by
  have e : reprE d = some (.str (toPE d).shown) := by
    unfold reprE
    rw [h.ref, hn, h.nc.sh, h.nc.ok, decide_eq_true (Nat.le_trans h.nc.len hm)]
    rfl
  show ∃ x, (if DL.dat 60 d && (toP d).showable && decide ((toP d).shown.length ≤ 100000) && PyData.strOk (toP d).shown then some (D.str (toP d).shown) else reprE d) = _
  split
  · exact ⟨_, rfl⟩
  · exact ⟨_, e⟩
theorem datE_up : ∀ (n : Nat) (d : D), datE n d = true → datE (n + 1) d = true := by
  have key : ∀ k : Nat, (∀ (d : D), datE k d = true → datE (k + 1) d = true) ∧ ∀ (l : List D), datsE k l = true → datsE (k + 1) l = true := by
    intro k
    induction k with
    | zero =>
      have a : ∀ (d : D), datE 0 d = true → datE 1 d = true := fun d h => by
        cases d <;> simp_all [datE]
      refine ⟨a, fun l => ?_⟩
      induction l with
      | nil => intro _; simp [datsE]
      | cons x l ih =>
        intro h
        simp only [datsE, Bool.and_eq_true] at h ⊢
        exact ⟨a x h.1, ih h.2⟩
    | succ k ihk =>
      have a : ∀ (d : D), datE (k + 1) d = true → datE (k + 2) d = true := fun d h => by
        cases d with
        | tup l =>
          simp only [datE] at h ⊢
          exact ihk.2 l h
        | _ => simp_all [datE]
      refine ⟨a, fun l => ?_⟩
      induction l with
      | nil => intro _; simp [datsE]
      | cons x l ih =>
        intro h
        simp only [datsE, Bool.and_eq_true] at h ⊢
        exact ⟨a x h.1, ih h.2⟩
  exact fun n d => (key n).1 d
theorem datE_to {n m : Nat} {d : D} (h : datE n d = true) (l : n ≤ m) : datE m d = true := by
  induction l with
  | refl => exact h
  | step _ ih => exact datE_up _ _ ih
theorem pair_KP {n m : Nat} {a b : D} (ha : KP n m a) (hb : KP n m b) (hm : 10 ≤ m) : KP (n + 1) (3 * (m + 2) + 3) (.tup [.str "pair", a, b]) := by
  refine ⟨by simp [DL.dat, dats, ha.dat, hb.dat], ?_⟩
  show Nc (.tuple [.str "pair", toP a, toP b]) _
  refine nc_tuple fun p hp => ?_
  simp only [List.mem_cons, List.not_mem_nil, or_false] at hp
  rcases hp with e | e | e
  · subst e
    exact (nc_by (m := 10) (by decide +kernel)).mono hm
  · subst e; exact ha.nc
  · subst e; exact hb.nc
theorem pair_KE {n m : Nat} {a b : D} (ha : datE n a = true ∧ Nc (toPE a) m) (hb : datE n b = true ∧ Nc (toPE b) m) (hm : 10 ≤ m) : KE (n + 1) (3 * (m + 2) + 3) (.tup [.str "pair", a, b]) := by
  refine ⟨by simp [datE, datsE, ha.1, hb.1], rfl, ?_⟩
  show Nc (.tuple [.str "pair", toPE a, toPE b]) _
  refine nc_tuple fun p hp => ?_
  simp only [List.mem_cons, List.not_mem_nil, or_false] at hp
  rcases hp with e | e | e
  · subst e
    exact (nc_by (m := 10) (by decide +kernel)).mono hm
  · subst e; exact ha.2
  · subst e; exact hb.2
def lim : Nat → Nat
  | 0 => 100
  | k + 1 => 3 * (lim k + 2) + 3
theorem lim_ge : ∀ k, 100 ≤ lim k
  | 0 => Nat.le_refl _
  | k + 1 => by
    have := lim_ge k
    show 100 ≤ 3 * (lim k + 2) + 3
    omega
theorem lim_mono : ∀ {j k : Nat}, j ≤ k → lim j ≤ lim k := by
  intro j k h
  induction h with
  | refl => exact Nat.le_refl _
  | step _ ih =>
    rename_i k _
    have e : lim (k.succ) = 3 * (lim k + 2) + 3 := rfl
    rw [e]
    omega
theorem word_nc : ∀ x ∈ W8, Nc (.str x) 12 := by
  intro x hx
  simp only [W8, List.mem_cons, List.not_mem_nil, or_false] at hx
  rcases hx with h | h | h | h | h | h | h | h | h | h | h <;> subst h <;> exact nc_by (by decide +kernel)
theorem toPs_strs : ∀ ws : List Str, toPs (ws.map D.str) = ws.map PyData.str
  | [] => rfl
  | x :: ws => by
    show toP (.str x) :: toPs (ws.map D.str) = _
    rw [toPs_strs ws]
    rfl
theorem toPsE_strs : ∀ ws : List Str, toPsE (ws.map D.str) = ws.map PyData.str
  | [] => rfl
  | x :: ws => by
    show toPE (.str x) :: toPsE (ws.map D.str) = _
    rw [toPsE_strs ws]
    rfl
theorem datsE_strs (n : Nat) : ∀ ys : List Str, datsE n (ys.map D.str) = true
  | [] => by simp [datsE]
  | y :: ys => by simp [datsE, datE, datsE_strs n ys]
theorem lot_nc {ws : List Str} (h : LotOk ws) : Nc (.tuple [.str "lot", .tuple (ws.map .str)]) 100 := by
  have hl := h.hi
  have a : Nc (.tuple (ws.map PyData.str)) (ws.length * 14 + 3) := by
    have := nc_tuple (ps := ws.map PyData.str) (m := 12) fun p hp => by
      obtain ⟨x, hx, e⟩ := List.mem_map.mp hp
      subst e
      exact word_nc x (h.mem x hx)
    rwa [List.length_map] at this
  have a2 : Nc (.tuple (ws.map PyData.str)) 59 := a.mono (by omega)
  have b := nc_tuple (ps := [.str "lot", .tuple (ws.map PyData.str)]) (m := 59) fun p hp => by
    simp only [List.mem_cons, List.not_mem_nil, or_false] at hp
    rcases hp with e | e
    · subst e
      exact (nc_by (m := 12) (by decide +kernel)).mono (by decide)
    · subst e; exact a2
  have es : (PyData.tuple [.str "lot", .tuple (ws.map .str)]).shown.length ≤ 100 := by
    have eq : (PyData.tuple [.str "lot", .tuple (ws.map .str)]).shown = tupleText [(PyData.str "lot").shown, (PyData.tuple (ws.map .str)).shown] := rfl
    rw [eq]
    have l := tupleText_len_le [(PyData.str "lot").shown, (PyData.tuple (ws.map .str)).shown]
    have l1 : (PyData.str "lot").shown.length = 5 := by decide +kernel
    have l2 := a2.len
    simp only [List.map_cons, List.map_nil, List.sum_cons, List.sum_nil, List.length_cons, List.length_nil] at l
    omega
  exact ⟨b.sh, es, b.ok⟩
theorem cnt_nc {k : Int} (h : 2 ≤ k ∧ k ≤ 6) : Nc (.tuple [.str "count", .int k]) 100 := by
  have c : k = 2 ∨ k = 3 ∨ k = 4 ∨ k = 5 ∨ k = 6 := by omega
  rcases c with c | c | c | c | c <;> subst c <;> exact nc_by (by decide +kernel)
theorem right_K : ∀ (t : Th), t.ok → t.path = none → KP (t.deep + 2) (lim t.deep) t.d ∧ KE (t.deep + 2) (lim t.deep) t.d
  | .odd _, _, r => by cases r
  | .lot ws, h, _ => by
    have e1 : toP (Th.lot ws).d = .tuple [.str "lot", .tuple (ws.map .str)] := by
      show PyData.tuple [.str "lot", .tuple (toPs (ws.map D.str))] = _
      rw [toPs_strs]
    have e2 : toPE (Th.lot ws).d = .tuple [.str "lot", .tuple (ws.map .str)] := by
      show PyData.tuple [.str "lot", .tuple (toPsE (ws.map D.str))] = _
      rw [toPsE_strs]
    exact ⟨⟨by simp [Th.d, Th.deep, DL.dat, dats, dats_strs], by rw [e1]; exact lot_nc h⟩, ⟨by simp [Th.d, Th.deep, datE, datsE, datsE_strs], rfl, by rw [e2]; exact lot_nc h⟩⟩
  | .cnt k, h, _ => ⟨⟨rfl, cnt_nc h⟩, ⟨rfl, rfl, cnt_nc h⟩⟩
  | .pair a b, h, r => by
    obtain ⟨a1, a2⟩ := right_K a h.1 (right_pair r).1
    obtain ⟨b1, b2⟩ := right_K b h.2 (right_pair r).2
    have la : a.deep ≤ max a.deep b.deep := Nat.le_max_left _ _
    have lb : b.deep ≤ max a.deep b.deep := Nat.le_max_right _ _
    have g := lim_ge (max a.deep b.deep)
    refine ⟨?_, ?_⟩
    · exact pair_KP (n := max a.deep b.deep + 2) (m := lim (max a.deep b.deep)) ⟨dat_to a1.dat (by omega), a1.nc.mono (lim_mono la)⟩ ⟨dat_to b1.dat (by omega), b1.nc.mono (lim_mono lb)⟩ (by omega)
    · exact pair_KE (n := max a.deep b.deep + 2) (m := lim (max a.deep b.deep)) ⟨datE_to a2.dat (by omega), a2.nc.mono (lim_mono la)⟩ ⟨datE_to b2.dat (by omega), b2.nc.mono (lim_mono lb)⟩ (by omega)
theorem path_sh (p : List Int) (h : ∀ i ∈ p, i = 1 ∨ i = 2) (hl : p.length ≤ 1000) : Sh (pathD p) := by
  have e : ∀ q : List Int, toPs (q.map D.int) = q.map PyData.int := fun q => by
    induction q with
    | nil => rfl
    | cons i q ih =>
      show toP (.int i) :: toPs (q.map D.int) = _
      rw [ih]
      rfl
  have dd : ∀ q : List Int, dats 59 (q.map D.int) = true := fun q => by
    induction q with
    | nil => simp [dats]
    | cons i q ih => simp [dats, DL.dat, ih]
  have nc : Nc (.tuple (p.map PyData.int)) (p.length * 7 + 3) := by
    have := nc_tuple (ps := p.map PyData.int) (m := 5) fun q hq => by
      obtain ⟨i, hi, e⟩ := List.mem_map.mp hq
      subst e
      rcases h i hi with z | z <;> subst z <;> exact nc_by (by decide +kernel)
    rwa [List.length_map] at this
  have k : KP 60 (p.length * 7 + 3) (pathD p) := ⟨by show DL.dat 60 (.tup (p.map D.int)) = true; simp only [DL.dat]; exact dd p, by show Nc (.tuple (toPs (p.map D.int))) _; rw [e]; exact nc⟩
  exact k.sh k.dat (by omega)
theorem Th.path_12 : ∀ (t : Th) (p : List Int), t.path = some p → ∀ i ∈ p, i = 1 ∨ i = 2
  | .odd _, p, h => by cases h; intro i hi; cases hi
  | .pair a b, p, h => by
    simp only [Th.path] at h
    cases ha : a.path with
    | some q =>
      rw [ha] at h
      cases h
      intro i hi
      rcases List.mem_cons.mp hi with e | e
      · exact .inl e
      · exact Th.path_12 a q ha i e
    | none =>
      rw [ha] at h
      cases hb : b.path with
      | none => rw [hb]
            at h; cases h
      | some q =>
        rw [hb] at h
        cases h
        intro i hi
        rcases List.mem_cons.mp hi with e | e
        · exact .inr e
        · exact Th.path_12 b q hb i e
end KX
set_option Elab.async false
set_option linter.all false
set_option maxRecDepth 100000
set_option
      maxHeartbeats 4000000
namespace KX
open PySem PyProof.Rows PySem.Spec L2 RZ StX DL
variable [Tbs] [Ca]
theorem pickG (sa ca : Addr) (n : Nat) : PickOk sa ca (G (n + 1) .f__law_pick) := pick_ok sa ca
theorem int_pick {sa ca : Addr} {cp : Fn1} (hp : PickOk sa ca cp) (m : Nat) (h0 : 1 ≤ m) (hm : m < 1073741824) {s : Src} (hs : Sok sa ca s) : ∃ (k : Nat) (s' : Src), Sok sa ca s' ∧ k < m ∧ cp [.raw (.ref sa), .int (m : Nat)] (some s) = some (.ok (.int (k : Nat)) (some s')) := by
  obtain ⟨d, s', h1, ⟨k, e, h2⟩, h3⟩ := hp (m : Nat) (by omega) s hs
  subst e
  exact ⟨k, s', h1, by omega, h3⟩
theorem perm_erase {α : Type} : ∀ (l : List α) (k : Nat) (h : k < l.length), (l[k] :: l.eraseIdx k).Perm l
  | [], k, h => absurd h (Nat.not_lt_zero _)
  | x :: l, 0, h => .refl _
  | x :: l, k + 1, h => by
    have h' : k < l.length := Nat.lt_of_succ_lt_succ h
    have ih := perm_erase l k h'
    show (l[k] :: x :: l.eraseIdx k).Perm (x :: l)
    exact (List.Perm.swap x l[k] _).trans (.cons x ih)
theorem map_erase {α β : Type} (f : α → β) : ∀ (l : List α) (k : Nat), (l.map f).eraseIdx k = (l.eraseIdx k).map f
  | [], k => rfl
  | x :: l, 0 => rfl
  | x :: l, k + 1 => by
    show f x :: (l.map f).eraseIdx k = f x :: (l.eraseIdx k).map f
    rw [map_erase f l k]
def anyE (cp : Fn1) : M D := (mMeth 2 (mCons (mCall 2 cp (mCons (getS 0) (mCons (mLenO 2) mNil))) mNil) popAtD)
theorem any_loop {sa ca : Addr} {cp : Fn1} (hp : PickOk sa ca cp) (B : Slot) : ∀ (ds : List D) (rest : List Str) (s3 : Slot) (s : Src), ds.length = rest.length → rest.length ≤ 1000 → Sok sa ca s →
    ∃ (ys : List Str) (s' : Src) (s3' : Slot), Sok sa ca s' ∧ ys.Perm rest ∧ lcLoop [3] (bName 3) (DL.ret true) (anyE cp) ds [.val (.raw (.ref sa)), B, .own (rest.map .str), s3] (some s) = some (ys.map .str, [.val (.raw (.ref sa)), B, .own [], s3'], some s')
  | [], [], s3, s, _, _, hs => ⟨[], s, s3, hs, .refl _, rfl⟩
  | [], _ :: _, _, _, h, _, _ => by cases h
  | _ :: _, [], _, _, h, _, _ => by cases h
  | d :: ds, x :: rest, s3, s, h, hl, hs => by
    have hlen : (x :: rest).length = rest.length + 1 := rfl
    obtain ⟨k, s1, hs1, hk, e⟩ := int_pick hp (x :: rest).length (by omega) (by omega) hs
    have hx : (x :: rest)[k]? = some (x :: rest)[k] := List.getElem?_eq_getElem hk
    let y := (x :: rest)[k]
    let r' := (x :: rest).eraseIdx k
    have hr : r'.length = rest.length := by
      show ((x :: rest).eraseIdx k).length = _
      rw [List.length_eraseIdx, if_pos hk]
      rfl
    have hp' : (y :: r').Perm (x :: rest) := perm_erase (x :: rest) k hk
    obtain ⟨ys, s', s3', i1, i2, i3⟩ := any_loop hp B ds r' (.val d) s1 (by rw [hr]; exact Nat.succ.inj h) (by omega) hs1
    refine ⟨y :: ys, s', s3', i1, (List.Perm.cons y i2).trans hp', ?_⟩
    let ρ : Rho := [.val (.raw (.ref sa)), B, .own ((x :: rest).map .str), .val d]
    have e1 : anyE cp ρ (some s) = some (.ok (.str y) [.val (.raw (.ref sa)), B, .own (r'.map .str), .val d] (some s1)) := by
      have a : (mCons (mCall 2 cp (mCons (getS 0) (mCons (mLenO 2) mNil))) mNil) ρ (some s) = some (.ok [.int (k : Nat)] ρ (some s1)) :=
        cons_ok (call2 (a := .raw (.ref sa)) (b := .int ((x :: rest).length : Nat)) (ρ1 := ρ) (ρ2 := ρ) (w1 := some s) (w2 := some s) rfl (by show some (Rs.ok (D.int (((x :: rest).map D.str).length : Nat)) ρ (some s)) = _; rw [List.length_map]) e) rfl
      show bnd (mCons (mCall 2 cp (mCons (getS 0) (mCons (mLenO 2) mNil))) mNil) (kMeth 2 popAtD) ρ (some s) = _
      rw [bnd_ok a]
      have b : popAtD ((x :: rest).map .str) [.int (k : Nat)] = some (.str y, r'.map .str) := by
        have c : ((x :: rest).map D.str).length = (x :: rest).length := List.length_map _
        show (if -4294967296 ≤ ((k : Nat) : Int) ∧ ((k : Nat) : Int) ≤ 4294967296 then match seqIndex? (k : Nat) ((x :: rest).map D.str).length with
          | some k => (((x :: rest).map D.str)[k]?).map fun y => (y, ((x :: rest).map D.str).eraseIdx k)
          | none => none else none) = _
        rw [if_pos (by omega), c]
        have q : seqIndex? ((k : Nat) : Int) (x :: rest).length = some k := by
          unfold seqIndex?
          simp
          omega
        rw [q]
        dsimp only
        rw [List.getElem?_map, hx]
        show some (D.str y, ((x :: rest).map D.str).eraseIdx k) = _
        rw [map_erase]
      show (popAtD ((x :: rest).map .str) [.int (k : Nat)]).map (fun z => Rs.ok z.1 (ρ.set 2 (.own z.2)) (some s1)) = _
      rw [b]
      rfl
    show (match anyE cp ρ (some s) with
      | some (.ok y ρ2 w2) => (lcLoop [3] (bName 3) (DL.ret true) (anyE cp) ds ρ2 w2).map fun (z : List D × Rho × Wo) => (y :: z.1, z.2)
      | _ => none) = _
    rw [e1]
    dsimp only
    rw [i3]
    rfl
theorem any_spec (sa ca : Addr) (n : Nat) (l : List Str) (hl : l.length ≤ 1000) : Gives sa ca (G (n + 2) .f__law_any_order) [.raw (.ref sa), .lst (l.map .str)] fun d => ∃ ys : List Str, d = .lst (ys.map .str) ∧ ys.Perm l := fun s hs => by
  obtain ⟨ys, s', s3', h1, h2, h3⟩ := any_loop (pickG sa ca n) (.val (.lst (l.map .str))) (rgs 0 l.length) l .free s (by unfold rgs; rw [List.length_map, List.length_range]) hl hs
  let ρ : Rho := [.val (.raw (.ref sa)), .val (.lst (l.map .str)), .own (l.map .str), .free]
  refine ⟨.lst (ys.map .str), s', h1, ⟨ys, rfl, h2⟩, gOf_rt (ρ' := [.val (.raw (.ref sa)), .val (.lst (l.map .str)), .own [], .free]) rfl ?_⟩
  show m__law_any_order (G (n + 1)) [.val (.raw (.ref sa)), .val (.lst (l.map .str)), .free, .free] (some s) = _
  unfold m__law_any_order
  rw [seq_nx (ρ' := ρ) (w' := some s) rfl]
  refine ret_ok ?_
  have a : (bnd (mCons (mLenO 2) mNil) fun ds => lft (rng1 ds)) ρ (some s) = some (.ok (rgs 0 l.length) ρ (some s)) := by
    show lft (rng1 [.int ((l.map D.str).length : Nat)]) ρ (some s) = _
    rw [List.length_map]
    show lft (if 0 ≤ ((l.length : Nat) : Int) ∧ ((l.length : Nat) : Int) ≤ 100000 then some (rgs 0 ((l.length : Nat) : Int).toNat) else none) ρ (some s) = _
    rw [if_pos
          (by omega), Int.toNat_natCast]
    rfl
  have b : nLc [3] (bnd (mCons (mLenO 2) mNil) fun ds => lft (rng1 ds)) (bName 3) (DL.ret true) (anyE (G (n + 1) .f__law_pick)) ρ (some s) = some (.ok (ys.map .str) [.val (.raw (.ref sa)), .val (.lst (l.map .str)), .own [], .free] (some s')) := by
    unfold nLc
    rw [bnd_ok a]
    show (if (rgs 0 l.length).length ≤ 100000 then match lcLoop [3] (bName 3) (DL.ret true) (anyE (G (n + 1) .f__law_pick)) (rgs 0 l.length) ρ (some s) with
      | some (ys, ρ', w') => some (Rs.ok ys (wipeR ρ' [3]) w')
      | none => none else none) = _
    rw [if_pos (by unfold rgs; rw [List.length_map, List.length_range]; omega), h3]
    rfl
  show mLc [3] (bnd (mCons (mLenO 2) mNil) fun ds => lft (rng1 ds)) (bName 3) (DL.ret true) (anyE (G (n + 1) .f__law_pick)) ρ (some s) = _
  unfold mLc
  rw [bnd_ok b]
  rfl
theorem tup3_ok {m1 m2 m3 : M D} {ρ ρ1 ρ2 ρ3 : Rho} {w w1 w2 w3 : Wo} {a b c : D} (h1 : m1 ρ w = some (.ok a ρ1 w1)) (h2 : m2 ρ1 w1 = some (.ok b ρ2 w2)) (h3 : m3 ρ2 w2 = some (.ok c ρ3 w3)) : mTup (mCons m1 (mCons m2 (mCons m3 mNil))) ρ w = some (.ok (.tup [a, b, c]) ρ3 w3) := by
  unfold mTup
  rw [bnd_ok (cons_ok h1 (cons_ok h2 (cons_ok h3 rfl)))]
  rfl
theorem tup2_ok {m1 m2 : M D} {ρ ρ1 ρ2 : Rho} {w w1 w2 : Wo} {a b : D} (h1 : m1 ρ w = some (.ok a ρ1 w1)) (h2 : m2 ρ1 w1 = some (.ok b ρ2 w2)) : mTup (mCons m1 (mCons m2 mNil)) ρ w = some (.ok (.tup [a, b]) ρ2 w2) := by
  unfold mTup
  rw [bnd_ok (cons_ok h1 (cons_ok h2 rfl))]
  rfl
theorem ite_run' {mc : M Bool} {m k : M D} {ρ ρ' : Rho} {w w' : Wo} {b : Bool} (h : mc ρ w = some (.ok b ρ' w')) : mIte mc m k ρ w = if b = true then m ρ' w' else k ρ' w' := by
  unfold mIte
  rw [bnd_ok h]
  cases b <;> rfl
theorem w8d_sub : ∀ x ∈ W8d, x ∈ W8 := by decide +kernel
theorem w8_nodup : W8d.Nodup := by decide +kernel
theorem leaf_spec (sa ca : Addr) (n : Nat) (deep : Int) : ∀ (r : Nat) (s : Src), r < 2 → Sok sa ca s → ∃ (th : Th) (s' : Src) (ρ' : Rho), Sok sa ca s' ∧ th.ok ∧ th.path = none ∧ th.deep = 0 ∧ (mSeq (mIte (mBinT gtD (getS 2) (DL.ret (.int 1))) (mRet (mTup (mCons (DL.ret (.str "pair")) (mCons (mCall 2 (G (n + 3) .f__law_wide_type) (mCons (getS 0) (mCons (mBin subD (getS 1) (DL.ret (.int 1))) mNil))) (mCons (mCall 2 (G (n + 3) .f__law_wide_type) (mCons (getS 0) (mCons (mBin subD (mBin subD (getS 1) (DL.ret (.int 1))) (mCall 2 (G (n + 3) .f__law_pick) (mCons (getS 0) (mCons (DL.ret (.int 2)) mNil)))) mNil))) mNil))))) (DL.ret .nx)) (mSeq (mIte (mBinT eqD (getS 2) (DL.ret (.int 0))) (mRet (mTup (mCons (DL.ret (.str "count")) (mCons (mBin addD (DL.ret (.int 2)) (mCall 2 (G (n + 3) .f__law_pick) (mCons (getS 0) (mCons (DL.ret (.int 5)) mNil)))) mNil)))) (DL.ret .nx)) (mSeq (mSet 3 (mCall 2 (G (n + 3) .f__law_any_order) (mCons (getS 0) (mCons (mLst (mCons (DL.ret (.str "a")) (mCons (DL.ret (.str "ab")) (mCons (DL.ret (.str "abc")) (mCons (DL.ret (.str "no")) (mCons (DL.ret (.str "yes")) (mCons (DL.ret (.str "abcdefgh")) (mCons (DL.ret (.str "lot")) (mCons (DL.ret (.str "z")) mNil))))))))) mNil)))) (mRet (mTup (mCons (DL.ret (.str "lot")) (mCons (bnd (mCons (mSl (getS 3) (DL.ret none) (bnd (mBin addD (DL.ret (.int 2)) (mCall 2 (G (n + 3) .f__law_pick) (mCons (getS 0) (mCons (DL.ret (.int 3)) mNil)))) (kInt fun i => DL.ret (some i)))) mNil) fun ds => lft (tupleD ds)) mNil))))))) [.val (.raw (.ref sa)), .val (.int deep), .val (.int (r : Nat)), .free] (some s) = some (.ok (.rt th.d) ρ' (some s')) := by
  have hp := pickG sa ca (n + 2)
  intro r s hr hs
  let A : Slot := .val (.raw (.ref sa))
  let ρ : Rho := [A, .val (.int deep), .val (.int (r : Nat)), .free]
  rw [seq_el (ρ' := ρ) (w' := some s) (by
    show some (Rs.ok (decide ((1 : Int) < ((r : Nat) : Int))) ρ (some s)) = _
    rw [decide_eq_false (by omega)])]
  by_cases h0 : r = 0
  · subst h0
    obtain ⟨k, s1, hs1, hk, e⟩ := int_pick hp 5 (by decide) (by decide) hs
    refine ⟨.cnt (2 + (k : Nat)), s1, ρ, hs1, (by show (2 : Int) ≤ 2 + (k : Nat) ∧ (2 : Int) + (k : Nat) ≤ 6; omega), rfl, rfl, ?_⟩
    refine seq_if (ρ' := ρ) (w' := some s) rfl (ret_ok ?_)
    exact tup2_ok (ρ1 := ρ) (w1 := some s) rfl (bin_ok (ρ1 := ρ) (w1 := some s) (a := .int 2) (b := .int (k : Nat)) rfl (call2 (a := .raw (.ref sa)) (b := .int 5) (ρ1 := ρ) (ρ2 := ρ) (w1 := some s) (w2 := some s) rfl rfl e) rfl)
  · rw [seq_el (ρ' := ρ) (w' := some s) (by
      show asB (eqD (.int (r : Nat)) (.int 0)) ρ (some s) = _
      rw [DL.eq_int]
      have : (((r : Nat) : Int) == 0) = false := by
        rw [beq_eq_false_iff_ne]
        omega
      rw [this]
      rfl)]
    obtain ⟨d, s1, hs1, ⟨ys, ed, hperm⟩, e⟩ := any_spec sa ca (n + 1) W8d (by decide) s hs
    subst ed
    obtain ⟨k, s2, hs2, hk, e2⟩ := int_pick hp 3 (by decide) (by decide) hs1
    have hlen : ys.length = 8 := hperm.length_eq
    have tl : (ys.take (2 + k)).length = 2 + k := by rw [List.length_take]; omega
    have lo : LotOk (ys.take (2 + k)) := ⟨by omega, by omega, (hperm.nodup_iff.mpr w8_nodup).sublist (List.take_sublist _ _), fun x hx => w8d_sub x (hperm.mem_iff.mp (List.mem_of_mem_take hx))⟩
    let ρ3 : Rho := [A, .val (.int deep), .val (.int (r : Nat)), .val (.lst (ys.map .str))]
    refine ⟨.lot (ys.take (2 + k)), s2, ρ3, hs2, lo, rfl, rfl, ?_⟩
    rw [seq_nx (ρ' := ρ3) (w' := some s1) (set_ok (ρ1 := ρ) (call2 (a := .raw (.ref sa)) (b := .lst (W8d.map .str)) (ρ1 := ρ) (ρ2 := ρ) (w1 := some s) (w2 := some s) rfl rfl e))]
    refine ret_ok (tup2_ok (ρ1 := ρ3) (w1 := some s1) rfl ?_)
    have p1 : (mBin addD (DL.ret (.int 2)) (mCall 2 (G (n + 3) .f__law_pick) (mCons (getS 0) (mCons (DL.ret (.int 3)) mNil)))) ρ3 (some s1) = some (.ok (.int (2 + (k : Nat))) ρ3 (some s2)) := bin_ok (ρ1 := ρ3) (w1 := some s1) (a := .int 2) (b := .int (k : Nat)) rfl (call2 (a := .raw (.ref sa)) (b := .int 3) (ρ1 := ρ3) (ρ2 := ρ3) (w1 := some s1) (w2 := some s1) rfl rfl e2) rfl
    have p2 : (mSl (getS 3) (DL.ret none) (bnd (mBin addD (DL.ret (.int 2)) (mCall 2 (G (n + 3) .f__law_pick) (mCons (getS 0) (mCons (DL.ret (.int 3)) mNil)))) (kInt fun i => DL.ret (some i)))) ρ3 (some s1) = some (.ok (.lst ((ys.take (2 + k)).map .str)) ρ3 (some s2)) := by
      unfold mSl
      rw [bnd_ok (a := D.lst (ys.map .str)) (ρ' := ρ3) (w' := some s1) rfl, bnd_ok (a := (none : Option Int)) (ρ' := ρ3) (w' := some s1) rfl, bnd_ok (a := some (2 + ((k : Nat) : Int))) (ρ' := ρ3) (w' := some s2) (by rw [bnd_ok p1]; rfl)]
      show some (Rs.ok (D.lst (DL.cutD (ys.map D.str) none (some (2 + ((k : Nat) : Int))))) ρ3 (some s2)) = _
      have q : (2 + ((k : Nat) : Int)) = ((2 + k : Nat) : Int) := by omega
      unfold DL.cutD
      rw [q, HT.sIx_none, HT.sIx_nat, List.length_map, Nat.min_eq_left (by omega), List.drop_zero, Nat.sub_zero, List.map_take]
    rw [bnd_ok (cons_ok p2 rfl)]
    rfl
theorem wide_spec (sa ca : Addr) : ∀ (j : Nat) (deep : Int), deep ≤ j → ∀ n, j + 5 ≤ n → Gives sa ca (G n .f__law_wide_type) [.raw (.ref sa), .int deep] fun d => ∃ th : Th, d = th.d ∧ th.ok ∧ th.path = none ∧ th.deep ≤ j := by
  intro j
  induction j with
  | zero => ?_
  | succ j ih => ?_
  all_goals intro deep hd n hn s hs
  all_goals obtain ⟨n, rfl⟩ : ∃ k, n = k + 1 := ⟨n - 1, by omega⟩
  all_goals obtain ⟨n, rfl⟩ : ∃ k, n = k + 3 := ⟨n - 3, by omega⟩
  all_goals have hp := pickG sa ca (n + 2)
  case zero =>
    obtain ⟨r, s1, hs1, hr, e⟩ := int_pick hp 2 (by decide) (by decide) hs
    obtain ⟨th, s2, ρ', h1, h2, h3, h4, h5⟩ := leaf_spec sa ca n deep r s1 hr hs1
    refine ⟨th.d, s2, h1, ⟨th, rfl, h2, h3, by omega⟩, gOf_rt (ρ' := ρ') rfl ?_⟩
    let ρ : Rho := [.val (.raw (.ref sa)), .val (.int deep), .free, .free]
    show m__law_wide_type (G (n + 3)) ρ (some s) = _
    unfold m__law_wide_type
    rw [seq_nx (ρ' := [.val (.raw (.ref sa)), .val (.int deep), .val (.int (r : Nat)), .free]) (w' := some s1) (set_ok (ρ1 := ρ) ((ite_run' (b := false) (ρ' := ρ) (w' := some s) (by
      show some (Rs.ok (decide ((0 : Int) < deep)) ρ (some s)) = _
      rw [decide_eq_false (by omega)])).trans (call2 (a := .raw (.ref sa)) (b := .int 2) (ρ1 := ρ) (ρ2 := ρ) (w1 := some s) (w2 := some s) rfl rfl e)))]
    exact h5
  case succ =>
    let A : Slot := .val (.raw (.ref sa))
    let ρ : Rho := [A, .val (.int deep), .free, .free]
    by_cases h0 : 0 < deep
    · obtain ⟨r, s1, hs1, hr, e⟩ := int_pick hp 5 (by decide) (by decide) hs
      have st : mSet 2 (mIte (mBinT gtD (getS 1) (DL.ret (.int 0))) (mCall 2 (G (n + 3) .f__law_pick) (mCons (getS 0) (mCons (DL.ret (.int 5)) mNil))) (mCall 2 (G (n + 3) .f__law_pick) (mCons (getS 0) (mCons (DL.ret (.int 2)) mNil)))) ρ (some s) = some (.ok .nx [A, .val (.int deep), .val (.int (r : Nat)), .free] (some s1)) :=
        set_ok (ρ1 := ρ) ((ite_run' (b := true) (ρ' := ρ) (w' := some s) (by
          show some (Rs.ok (decide ((0 : Int) < deep)) ρ (some s)) = _
          rw [decide_eq_true h0])).trans (call2 (a := .raw (.ref sa)) (b := .int 5) (ρ1 := ρ) (ρ2 := ρ) (w1 := some s) (w2 := some s) rfl rfl e))
      by_cases hr2 : r < 2
      · obtain ⟨th, s2, ρ', h1, h2, h3, h4, h5⟩ := leaf_spec sa ca n deep r s1 hr2 hs1
        refine ⟨th.d, s2, h1, ⟨th, rfl, h2, h3, by omega⟩, gOf_rt (ρ' := ρ') rfl ?_⟩
        show m__law_wide_type (G (n + 3)) ρ (some s) = _
        unfold m__law_wide_type
        rw [seq_nx st]
        exact h5
      · obtain ⟨da, s2, hs2, ⟨ta, ea, oa, pa, la⟩, ca'⟩ := ih (deep - 1) (by omega) (n + 3) (by omega) s1 hs1
        subst ea
        obtain ⟨k, s3, hs3, hk, e3⟩ := int_pick hp 2 (by decide) (by decide) hs2
        obtain ⟨db, s4, hs4, ⟨tb, eb, ob, pb, lb⟩, cb⟩ := ih (deep - 1 - (k : Nat)) (by omega) (n + 3) (by omega) s3 hs3
        subst eb
        let ρ2 : Rho := [A, .val (.int deep), .val (.int (r : Nat)), .free]
        refine ⟨(Th.pair ta tb).d, s4, hs4, ⟨.pair ta tb, rfl, ⟨oa, ob⟩, by simp only [Th.path, pa, pb, Option.map], by simp only [Th.deep]; omega⟩, gOf_rt (ρ' := ρ2) rfl ?_⟩
        show m__law_wide_type (G (n + 3)) ρ (some s) = _
        unfold m__law_wide_type
        rw [seq_nx st]
        refine seq_if (ρ' := ρ2) (w' := some s1) (by
          show some (Rs.ok (decide ((1 : Int) < ((r : Nat) : Int))) ρ2 (some s1)) = _
          rw [decide_eq_true (by omega)]) (ret_ok ?_)
        refine tup3_ok (ρ1 := ρ2) (w1 := some s1) (ρ2 := ρ2) (w2 := some s2) rfl (call2 (a := .raw (.ref sa)) (b := .int (deep - 1)) (ρ1 := ρ2) (ρ2 := ρ2) (w1 := some s1) (w2 := some s1) rfl rfl ca') ?_
        refine call2 (a := .raw (.ref sa)) (b := .int (deep - 1 - (k : Nat))) (ρ1 := ρ2) (ρ2 := ρ2) (w1 := some s2) (w2 := some s3) rfl ?_ cb
        exact bin_ok (ρ1 := ρ2) (w1 := some s2) (a := .int (deep - 1)) (b := .int (k : Nat)) rfl (call2 (a := .raw (.ref sa)) (b := .int 2) (ρ1 := ρ2) (ρ2 := ρ2) (w1 := some s2) (w2 := some s2) rfl rfl e3) rfl
    · obtain ⟨r, s1, hs1, hr, e⟩ := int_pick hp 2 (by decide) (by decide) hs
      obtain ⟨th, s2, ρ', h1, h2, h3, h4, h5⟩ := leaf_spec sa ca n deep r s1 hr hs1
      refine ⟨th.d, s2, h1, ⟨th, rfl, h2, h3, by omega⟩, gOf_rt (ρ' := ρ') rfl ?_⟩
      show m__law_wide_type (G (n + 3)) ρ (some s) = _
      unfold m__law_wide_type
      rw [seq_nx (ρ' := [A, .val (.int deep), .val (.int (r : Nat)), .free]) (w' := some s1) (set_ok (ρ1 := ρ) ((ite_run' (b := false) (ρ' := ρ) (w' := some s) (by
        show some (Rs.ok (decide ((0 : Int) < deep)) ρ (some s)) = _
        rw [decide_eq_false h0])).trans (call2 (a := .raw (.ref sa)) (b := .int 2) (ρ1 := ρ) (ρ2 := ρ) (w1 := some s) (w2 := some s) rfl rfl e)))]
      exact h5
end KX
set_option Elab.async false
set_option linter.all false
set_option maxRecDepth 100000
set_option
      maxHeartbeats 4000000
namespace KX
open PySem PyProof.Rows PySem.Spec L2 RZ StX DL
variable [Tbs] [Ca]
def Th.due (t : Th) : Option (List Int) := match t.path with
  | some p => some p
  | none => if t.tups < 6 ∧ t.num < 25 then none else some []
theorem due_none {t : Th} (h : t.due = none) : t.path = none ∧ t.tups < 6 ∧ t.num < 25 := by
  unfold Th.due at h
  split at h
  · cases h
  · rename_i e
    split at h
    · rename_i g
      exact ⟨e, g⟩
    · cases h
theorem ix_gt (a b : Int) : gtD (.int a) (.int b) = some (.bl (decide (b < a))) := rfl
theorem typeFault (t : Th) (h : t.ok) (hd : t.deep ≤ 5) (n : Nat) (hn : 16 ≤ n) (w : Wo) : G n .f_type_fault [t.d] w = some (.ok (optD t.due) w) := by
  obtain ⟨n, rfl⟩ : ∃ k, n = k + 1 := ⟨n - 1, by omega⟩
  have e := formPath t h n (by omega) [] (by simp only [List.length_nil]; omega) w
  have e' : t.path.map (([] : List Int) ++ ·) = t.path := by cases t.path <;> rfl
  rw [e'] at e
  let ρ : Rho := [.val t.d, .val (optD t.path)]
  have st : mSet 1 (mCall 2 (G n .f_form_path) (mCons (getS 0) (mCons (mTup mNil) mNil))) [.val t.d, .free] w = some (.ok .nx ρ w) :=
    set_ok (ρ1 := [.val t.d, .free]) (call2 (a := t.d) (b := pathD []) (ρ1 := [.val t.d, .free]) (ρ2 := [.val t.d, .free]) (w1 := w) (w2 := w) rfl rfl e)
  refine gOf_rt (ρ' := ρ) rfl ?_
  show m_type_fault (G n) [.val t.d, .free] w = _
  unfold m_type_fault
  rw [seq_nx st]
  cases hp : t.path with
  | some p =>
    have g : t.due = some p := by unfold Th.due; rw [hp]
    rw [g]
    refine seq_if (ρ' := ρ) (w' := w) ?_ ?_
    · show asB (isN true (optD t.path) .non) ρ w = _
      rw [hp]
      rfl
    · show some (Rs.ok (Fl.rt (optD t.path)) ρ w) = _
      rw [hp]
  | none =>
    rw [seq_el (ρ' := ρ) (w' := w) (by
      show asB (isN true (optD t.path) .non) ρ w = _
      rw [hp]
      rfl)]
    have e1 := tupsIn w t h hp n (by omega)
    have e2 := countOf w t h hp hd n (by omega)
    have c1 : mBinT gtD (mCall 1 (G n .f_tuples_in) (mCons (getS 0) mNil)) (DL.ret c_MOST_TUPLES) ρ w = some (.ok (decide (5 < t.tups)) ρ w) := by
      unfold mBinT
      rw [bnd_ok (call1 (a := t.d) (ρ1 := ρ) (w1 := w) rfl e1)]
      rfl
    have c2 : mBinT gtD (mCall 1 (G n .f_count_of) (mCons (getS 0) mNil)) (DL.ret c_MOST_VALUES) ρ w = some (.ok (decide (24 < t.num)) ρ w) := by
      unfold mBinT
      rw [bnd_ok (call1 (a := t.d) (ρ1 := ρ) (w1 := w) rfl e2)]
      rfl
    have c3 : (mOr (mBinT gtD (mCall 1 (G n .f_tuples_in) (mCons (getS 0) mNil)) (DL.ret c_MOST_TUPLES)) (mBinT gtD (mCall 1 (G n .f_count_of) (mCons (getS 0) mNil)) (DL.ret c_MOST_VALUES))) ρ w = some (.ok (decide (5 < t.tups) || decide (24 < t.num)) ρ w) := by
      unfold mOr
      rw [bnd_ok c1]
      cases decide (5 < t.tups) with
      | true => rfl
      | false => exact c2
    by_cases q : t.tups < 6 ∧ t.num < 25
    · have g : t.due = none := by unfold Th.due; rw [hp]; exact if_pos q
      rw [g]
      rw [decide_eq_false (by omega), decide_eq_false (by omega)] at c3
      rw [seq_el c3]
      rfl
    · have g : t.due = some [] := by unfold Th.due; rw [hp]; exact if_neg q
      rw [g]
      have c4 : (decide (5 < t.tups) || decide (24 < t.num)) = true := by
        rw [Bool.or_eq_true,
              decide_eq_true_eq, decide_eq_true_eq]
        omega
      rw [c4] at c3
      exact seq_if c3 rfl
theorem copOk (p : List Int) (hp : p.length ≤ 1000) (w : Wo) : gcop 3 [pathD p] w = some (.ok (pathD p) w) := by
  let ρ : Rho := [.val (pathD p), .free, .free]
  refine gOf_rt (ρ' := wipeR ρ [1]) rfl ?_
  show m_copied (fun | .f_copied => gcop 2 | _ => fun _ _ => none) ρ w = _
  unfold m_copied
  rw [seq_el (ρ' := ρ) (w' := w) (by kernel_rfl)]
  refine seq_if (ρ' := ρ) (w' := w) (by kernel_rfl) (ret_ok ?_)
  have e := mLc_map (own := [1]) (bind := bName 1) (mi := bnd (getS 0) fun d => lft (itemsD d)) (me := mCall 1 (gcop 2) (mCons (getS 1) mNil)) (ρ := ρ) (w0 := w) (w := w) (e := D.int) (f := D.int) p rfl (by omega)
    (fun i _ => ⟨[.val (pathD p), .val (.int i), .free], [.val (pathD p), .val (.int i), .free], rfl, call1 (a := .int i) rfl (by kernel_rfl), rfl⟩)
  rw [bnd_ok (cons_ok e rfl)]
  rfl
theorem due_len {t : Th} {p : List Int} (hd : t.deep ≤ 5) (h : t.due = some p) : p.length ≤ 5 ∧ ∀ i ∈ p, i = 1 ∨ i = 2 := by
  unfold Th.due at h
  split at h
  · rename_i q e
    cases h
    have := t.path_len p e
    exact ⟨by omega, t.path_12 p e⟩
  · split at h
    · cases h
    · cases h
      exact ⟨Nat.zero_le _, fun i hi => by cases hi⟩
theorem due_sh {t : Th} (hd : t.deep ≤ 5) : Sh (optD t.due) := by
  cases h : t.due with
  | none => exact ⟨("None" : Str), by kernel_rfl⟩
  | some p =>
    obtain ⟨h1, h2⟩ := due_len hd h
    exact path_sh p h2 (by omega)
theorem checkRun (t : Th) (h : t.ok) (hd : t.deep ≤ 5) (n : Nat) (hn : 16 ≤ n) (w : Wo) : G (n + 1) .f_check_type [t.d] w = match t.due with
    | none => some (.ok .non w)
    | some p => some (.exc ⟨.ref Ca.a_BadType, ["path"], [pathD p]⟩ w) := by
  have e := typeFault t h hd n hn w
  let ρ : Rho := [.val t.d, .val (optD t.due)]
  have st : mSet 1 (mCall 1 (G n .f_type_fault) (mCons (getS 0) mNil)) [.val t.d, .free] w = some (.ok .nx ρ w) :=
    set_ok (ρ1 := [.val t.d, .free]) (call1 (a := t.d) (ρ1 := [.val t.d, .free]) (w1 := w) rfl e)
  have run : m_check_type n (G n) [.val t.d, .free] w = match t.due with
      | none => some (.ok .nx ρ w)
      | some p => some (.exc ⟨.ref Ca.a_BadType, ["path"], [pathD p]⟩ ρ w) := by
    unfold m_check_type
    rw [seq_nx st]
    cases hp : t.due with
    | none =>
      have e1 : ρ = [.val t.d, .val .non] := by show [Slot.val t.d, Slot.val (optD t.due)] = _; rw [hp]; rfl
      rw [e1]
      rw [ite_run (b := false) (ρ' := [.val t.d, .val .non]) (w' := w) rfl]
      rfl
    | some p =>
      have e1 : ρ = [.val t.d, .val (pathD p)] := by show [Slot.val t.d, Slot.val (optD t.due)] = _; rw [hp]; rfl
      rw [e1]
      rw [ite_run (b := true) (ρ' := [.val t.d, .val (pathD p)]) (w' := w) rfl]
      show mRaiseL 5 n (.ref Ca.a_BadType) "path" (gcop 3) (mCons (getS 1) mNil) [.val t.d, .val (pathD p)] w = _
      unfold mRaiseL
      rw [if_pos (by omega)]
      have c := copOk p (by have := (due_len hd hp).1; omega) w
      show (match gcop 3 [pathD p] w with
        | some (.ok y w') => some (Rs.exc ⟨.ref Ca.a_BadType, ["path"], [y]⟩ [Slot.val t.d, Slot.val (pathD p)] w')
        | _ => none) = _
      rw [c]
  show (match m_check_type n (G n) [.val t.d, .free] w with
    | some (.ok .nx _ w') => some (Fr.ok .non w')
    | some (.ok (.rt d) _ w') => some (.ok d w')
    | some (.exc x _ w') => some (.exc x w')
    | _ => none) = _
  rw [run]
  cases t.due <;> rfl
theorem call1_exc {g : Fn1} {m1 : M D} {ρ ρ1 : Rho} {w w1 w2 : Wo} {a : D} {x : Xc} (h : m1 ρ w = some (.ok a ρ1 w1)) (e : g [a] w1 = some (.exc x w2)) : mCall 1 g (mCons m1 mNil) ρ w = some (.exc x ρ1 w2) := by
  unfold mCall
  rw [bnd_ok (cons_ok h rfl)]
  show (match g [a] w1 with
    | some (.ok d w') => some (Rs.ok d ρ1 w')
    | some (.exc x w') => some (.exc x ρ1 w')
    | none => none) = _
  rw [e]
theorem bnd_exc {α β : Type} {m : M α} {k : α → M β} {ρ ρ' : Rho} {w w' : Wo} {x : Xc} (h : m ρ w = some (.exc x ρ' w')) : bnd m k ρ w = some (.exc x ρ' w') := by
  unfold bnd
  rw [h]
theorem ne_same (x : Str) : neD (.str x) (.str x) = some (.bl false) := by
  rw [ne_str, beq_self_eq_true]
  rfl
theorem ne_nat (i : Int) : neD (.int i) (.int i) = some (.bl false) := by
  simp [neD, dat, deq]
theorem repr_ok {m1 : M D} {ρ ρ1 : Rho} {w w1 : Wo} {d : D} {x : Str} (h : m1 ρ w = some (.ok d ρ1 w1)) (e : reprD [d] = some (.str x)) : (bnd (mCons m1 mNil) fun ds => lft (reprD ds)) ρ w = some (.ok (.str x) ρ1 w1) := by
  rw [bnd_ok (cons_ok h rfl)]
  unfold lft
  rw [e]
  rfl
theorem binT_ok {f : D → D → Option D} {m1 m2 : M D} {ρ ρ1 ρ2 : Rho} {w w1 w2 : Wo} {a b : D} {c : Bool} (h : m1 ρ w = some (.ok a ρ1 w1)) (h2 : m2 ρ1 w1 = some (.ok b ρ2 w2)) (e : f a b = some (.bl c)) : mBinT f m1 m2 ρ w = some (.ok c ρ2 w2) := by
  unfold mBinT
  rw [bnd_ok h, bnd_ok h2, e]
  rfl
theorem or_ff {a b : M Bool} {ρ ρ1 ρ2 : Rho} {w w1 w2 : Wo} (h : a ρ w = some (.ok false ρ1 w1)) (h2 : b ρ1 w1 = some (.ok false ρ2 w2)) : mOr a b ρ w = some (.ok false ρ2 w2) := by
  unfold mOr
  rw [bnd_ok h]
  exact h2
theorem and_tt {a b : M Bool} {ρ ρ1 ρ2 : Rho} {w w1 w2 : Wo} {c : Bool} (h : a ρ w = some (.ok true ρ1 w1)) (h2 : b ρ1 w1 = some (.ok c ρ2 w2)) : mAnd a b ρ w = some (.ok c ρ2 w2) := by
  unfold mAnd
  rw [bnd_ok h]
  exact h2
theorem and_f {a b : M Bool} {ρ ρ1 : Rho} {w w1 : Wo} (h : a ρ w = some (.ok false ρ1 w1)) : mAnd a b ρ w = some (.ok false ρ1 w1) := by
  unfold mAnd
  rw [bnd_ok h]
  rfl
theorem andV_tt {a b : M D} {ρ ρ1 ρ2 : Rho} {w w1 w2 : Wo} {d : D} (h : a ρ w = some (.ok (.bl true) ρ1 w1)) (h2 : b ρ1 w1 = some (.ok d ρ2 w2)) : mAndV a b ρ w = some (.ok d ρ2 w2) := by
  unfold mAndV
  rw [bnd_ok h]
  exact h2
end KX
set_option Elab.async false
set_option linter.all false
set_option maxRecDepth 100000
set_option
      maxHeartbeats 4000000
/-! DQ6: the law's values; small types. -/
namespace KX
open PySem PyProof.Rows PySem.Spec L2 RZ StX DL
variable [Tbs] [Ca]
theorem tups_num : ∀ t : Th, t.ok → t.path = none → ∃ k : Nat, 1 ≤ k ∧ t.tups = 2 * (k : Int) - 1 ∧ t.num ≤ ((6 ^ k : Nat) : Int) ∧ 1 ≤ t.num
  | .odd _, _, r => by cases r
  | .lot ws, h, _ => by
    have h1 := h.lo
    have h2 := h.hi
    refine ⟨1, Nat.le_refl _, rfl, ?_, ?_⟩ <;> simp only [Th.num] <;> omega
  | .cnt c, h, _ => by
    have h1 : 2 ≤ c ∧ c ≤ 6 := h
    refine ⟨1, Nat.le_refl _, rfl, ?_, ?_⟩ <;> simp only [Th.num] <;> omega
  | .pair a b, h, r => by
    obtain ⟨j, j1, j2, j3, j4⟩ := tups_num a h.1 (right_pair r).1
    obtain ⟨k, k1, k2, k3, k4⟩ := tups_num b h.2 (right_pair r).2
    refine ⟨j + k, by omega, by simp only [Th.tups]; omega, ?_, ?_⟩
    · simp only [Th.num]
      rw [Nat.pow_add, Int.natCast_mul]
      exact Int.mul_le_mul j3 k3 (by omega) (by omega)
    · simp only [Th.num]
      have := Int.mul_le_mul j4 k4 (by decide) (by omega)
      simpa using this
theorem small_num {t : Th} (h : t.ok) (r : t.path = none) (q : t.tups < 6) : t.num ≤ 216 := by
  obtain ⟨k, k1, k2, k3, _⟩ := tups_num t h r
  have c : k = 1 ∨ k = 2 ∨ k = 3 := by omega
  have e3 : ((6 ^ 3 : Nat) : Int) = 216 := by decide
  have e2 : ((6 ^ 2 : Nat) : Int) = 36 := by decide
  have e1 : ((6 ^ 1 : Nat) : Int) = 6 := by decide
  rcases c with c | c | c <;> subst c <;> omega
def valB : M Fl := (mSet 1 (mBin addD (getS 1) (mLc [4] (bnd (getS 2) fun d => lft (itemsD d)) (bName 4) (DL.ret true) (mTup (mCons (getS 3) (mCons (getS 4) mNil))))))
theorem vals_loop (T : Slot) (ys : List D) (w : Wo) : ∀ (xs acc : List D) (s3 s4 : Slot), acc.length + xs.length * ys.length ≤ 100000 → ys.length ≤ 100000 → ∃ s3' s4', forL (bName 3) valB xs [T, .val (.lst acc), .val (.lst ys), s3, s4] w = some (.ok .nx [T, .val (.lst (acc ++ xs.flatMap fun x => ys.map fun y => D.tup [x, y])), .val (.lst ys), s3', s4'] w)
  | [], acc, s3, s4, _, _ => ⟨s3, s4, by rw [List.flatMap_nil, List.append_nil]; rfl⟩
  | x :: xs, acc, s3, s4, h, hy => by
    rw [List.length_cons, Nat.succ_mul] at h
    let ρ : Rho := [T, .val (.lst acc), .val (.lst ys), .val x, s4]
    let ρ' : Rho := [T, .val (.lst acc), .val (.lst ys), .val x, .free]
    have e := mLc_map (own := [4]) (bind := bName 4) (mi := bnd (getS 2) fun d => lft (itemsD d)) (me := mTup (mCons (getS 3) (mCons (getS 4) mNil))) (ρ := ρ) (w0 := w) (w := w) (e := fun y : D => y) (f := fun y => D.tup [x, y]) ys (by rw [List.map_id']; rfl) hy
      (fun y _ => ⟨[T, .val (.lst acc), .val (.lst ys), .val x, .val y], [T, .val (.lst acc), .val (.lst ys), .val x, .val y], rfl, rfl, rfl⟩)
    have b : valB ρ w = some (.ok .nx [T, .val (.lst (acc ++ ys.map fun y => D.tup [x, y])), .val (.lst ys), .val x, .free] w) := by
      refine set_ok (ρ1 := ρ') (bin_ok (a := .lst acc) (b := .lst (ys.map fun y => D.tup [x, y])) (ρ1 := ρ) (w1 := w) rfl e ?_)
      show (if acc.length + (ys.map fun y => D.tup [x, y]).length ≤ 100000 then some (D.lst (acc ++ ys.map fun y => D.tup [x, y])) else none) = _
      rw [if_pos (by rw [List.length_map]; omega)]
    obtain ⟨s3', s4', ih⟩ := vals_loop T ys w xs (acc ++ ys.map fun y => D.tup [x, y]) (.val x) .free (by rw [List.length_append, List.length_map]; omega) hy
    refine ⟨s3', s4', ?_⟩
    rw [List.append_assoc] at ih
    rw [List.flatMap_cons, ← ih]
    show (match valB ρ w with
      | some (.ok .nx ρ1 w1) => forL (bName 3) valB xs ρ1 w1
      | some (.ok .ct ρ1 w1) => forL (bName 3) valB xs ρ1 w1
      | some (.ok .br ρ1 w1) => some (.ok .nx ρ1 w1)
      | some (.ok (.rt d') ρ1 w1) => some (.ok (.rt d') ρ1 w1)
      | some (.exc x ρ1 w1) => some (.exc x ρ1 w1)
      | none => none) = _
    rw [b]
theorem lawVals (w : Wo) : ∀ (t : Th), t.ok → t.path = none → t.num ≤ 100000 → ∀ n, t.deep < n → G n .f__law_values [t.d] w = some (.ok (.lst t.vals) w)
  | _, _, _, _, 0, h => absurd h (Nat.not_lt_zero _)
  | .odd _, _, r, _, _ + 1, _ => by cases r
  | .lot ws, h, _, _, n + 1, _ => by
    let ρ : Rho := [.val (Th.lot ws).d, .free, .free, .free, .free]
    refine gOf_rt (ρ' := ρ) rfl ?_
    show m__law_values (G n) ρ w = _
    unfold m__law_values
    exact seq_if (ρ' := ρ) (w' := w) (by kernel_rfl) rfl
  | .cnt k, h, _, _, n + 1, _ => by
    have c : k = 2 ∨ k = 3 ∨ k = 4 ∨ k = 5 ∨ k = 6 := by
      have h1 : 2 ≤ k ∧ k ≤ 6 := h
      omega
    rcases c with c | c | c | c | c <;> subst c <;> kernel_rfl
  | .pair a b, h, r, hm, n + 1, hn => by
    simp only [Th.deep] at hn
    obtain ⟨_, _, _, _, a1⟩ := tups_num a h.1 (right_pair r).1
    obtain ⟨_, _, _, _, b1⟩ := tups_num b h.2 (right_pair r).2
    have hm : a.num * b.num ≤ 100000 := hm
    have am : a.num ≤ a.num * b.num := by
      have := Int.mul_le_mul (Int.le_refl a.num) b1 (by decide) (by omega)
      simpa using this
    have bm : b.num ≤ a.num * b.num := by
      have := Int.mul_le_mul a1 (Int.le_refl b.num) (by omega) (by omega)
      simpa using this
    have la := a.vals_len h.1 (right_pair r).1
    have lb := b.vals_len h.2 (right_pair r).2
    have ea := lawVals w a h.1 (right_pair r).1 (by omega) n (by omega)
    have eb := lawVals w b h.2 (right_pair r).2 (by omega) n (by omega)
    have ll : a.vals.length * b.vals.length ≤ 100000 := by
      have : ((a.vals.length * b.vals.length : Nat) : Int) = a.num * b.num := by rw [Int.natCast_mul, la, lb]
      omega
    let T : Slot := .val (Th.pair a b).d
    let ρ : Rho := [T, .free, .free, .free, .free]
    let ρ1 : Rho := [T, .val (.lst []), .val (.lst b.vals), .free, .free]
    obtain ⟨s3, s4, e⟩ := vals_loop T b.vals w a.vals [] .free .free (by rw [List.length_nil]; omega) (by omega)
    refine gOf_rt (ρ' := [T, .val (.lst (Th.pair a b).vals), .val (.lst b.vals), s3, s4]) rfl ?_
    show m__law_values (G n) ρ w = _
    unfold m__law_values
    rw [seq_el (ρ' := ρ) (w' := w) (by kernel_rfl)]
    rw [seq_el (ρ' := ρ) (w' := w) (by kernel_rfl)]
    rw [seq_nx (ρ' := ρ1) (w' := w) (by
      unfold mPar
      rw [bnd_ok (cons_ok (d := .lst []) (ρ1 := ρ) (w1 := w) rfl (cons_ok (call1 (a := b.d) (ρ1 := ρ) (w1 := w) rfl eb) rfl))]
      rfl)]
    have it : (bnd (mCall 1 (G n .f__law_values) (mCons (mBin ixD (getS 0) (DL.ret (.int 1))) mNil)) fun d => lft (itemsD d)) ρ1 w = some (.ok a.vals ρ1 w) := by
      rw [bnd_ok (call1 (a := a.d) (ρ1 := ρ1) (w1 := w) rfl ea)]
      rfl
    have f : mFor (bnd (mCall 1 (G n .f__law_values) (mCons (mBin ixD (getS 0) (DL.ret (.int 1))) mNil)) fun d => lft (itemsD d)) (bName 3) valB ρ1 w = some (.ok .nx [T, .val (.lst (Th.pair a b).vals), .val (.lst b.vals), s3, s4] w) := by
      unfold mFor
      rw [bnd_ok it]
      exact e
    exact (seq_nx f).trans rfl
/-- is it small: the law's own test -/
theorem lt_int (a b : Int) : ltD (.int a) (.int b) = some (.bl (decide (a < b))) := rfl
theorem len_vals {m : M D} {ρ : Rho} {w : Wo} {l : List D} (h : m ρ w = some (.ok (.lst l) ρ w)) : (bnd (mCons m mNil) fun ds => lft (lenD ds)) ρ w = some (.ok (.int l.length) ρ w) := by
  rw [bnd_ok (cons_ok h rfl)]
  rfl
def smallB (t : Th) : Bool := decide (t.tups < 6) && decide (t.num < 25)
theorem smallTest {n i : Nat} {t : Th} (h : t.ok) (r : t.path = none) (hn : t.deep < n) {ρ : Rho} {w : Wo} (hg : getS i ρ w = some (.ok t.d ρ w)) : (mAnd (mBinT ltD (mCall 1 (G n .f__law_tuples) (mCons (getS i) mNil)) (DL.ret (.int 6))) (mBinT ltD (bnd (mCons (mCall 1 (G n .f__law_values) (mCons (getS i) mNil)) mNil) fun ds => lft (lenD ds)) (DL.ret (.int 25)))) ρ w = some (.ok (smallB t) ρ w) := by
  have t1 : mBinT ltD (mCall 1 (G n .f__law_tuples) (mCons (getS i) mNil)) (DL.ret (.int 6)) ρ w = some (.ok (decide (t.tups < 6)) ρ w) := binT_ok (b := .int 6) (call1 hg (lawTups w t h r n hn)) rfl (lt_int _ _)
  unfold smallB
  by_cases q : t.tups < 6
  · rw [decide_eq_true q] at t1 ⊢
    have sn := small_num h r q
    have lv := t.vals_len h r
    refine and_tt t1 (binT_ok (a := .int t.vals.length) (b := .int 25) (len_vals (call1 hg (lawVals w t h r (by omega) n hn))) rfl ?_)
    rw [lv]
    exact lt_int _ _
  · rw [decide_eq_false q] at t1 ⊢
    exact and_f t1
theorem andV_f {a b : M D} {ρ ρ1 : Rho} {w w1 : Wo} (h : a ρ w = some (.ok (.bl false) ρ1 w1)) : mAndV a b ρ w = some (.ok (.bl false) ρ1 w1) := by
  unfold mAndV
  rw [bnd_ok h]
  rfl
theorem smallVal {n i : Nat} {t : Th} (h : t.ok) (r : t.path = none) (hn : t.deep < n) {ρ : Rho} {w : Wo} (hg : getS i ρ w = some (.ok t.d ρ w)) : (mAndV (mBin ltD (mCall 1 (G n .f__law_tuples) (mCons (getS i) mNil)) (DL.ret (.int 6))) (mBin ltD (bnd (mCons (mCall 1 (G n .f__law_values) (mCons (getS i) mNil)) mNil) fun ds => lft (lenD ds)) (DL.ret (.int 25)))) ρ w = some (.ok (.bl (smallB t)) ρ w) := by
  have t1 : mBin ltD (mCall 1 (G n .f__law_tuples) (mCons (getS i) mNil)) (DL.ret (.int 6)) ρ w = some (.ok (.bl (decide (t.tups < 6))) ρ w) := bin_ok (b := .int 6) (call1 hg (lawTups w t h r n hn)) rfl (lt_int _ _)
  unfold smallB
  by_cases q : t.tups < 6
  · rw [decide_eq_true q] at t1 ⊢
    have sn := small_num h r q
    have lv := t.vals_len h r
    refine andV_tt t1 (bin_ok (a := .int t.vals.length) (b := .int 25) (len_vals (call1 hg (lawVals w t h r (by omega) n hn))) rfl ?_)
    rw [lv]
    exact lt_int _ _
  · rw [decide_eq_false q] at t1 ⊢
    exact andV_f t1
theorem small_due {t : Th} (r : t.path = none) : t.due = if smallB t then none else some [] := by
  unfold Th.due smallB
  rw [r]
  dsimp only
  by_cases q : t.tups < 6 ∧ t.num < 25
  · rw [if_pos q, decide_eq_true q.1, decide_eq_true q.2]
    rfl
  · rw [if_neg q]
    by_cases q1 : t.tups < 6
    · rw [decide_eq_true q1, decide_eq_false (fun z => q ⟨q1, z⟩)]
      rfl
    · rw [decide_eq_false q1]
      rfl
/-- a drawn right type, of a few levels -/
def Rt (d : D) : Prop := ∃ t : Th, d = t.d ∧ t.ok ∧ t.path = none ∧ t.deep ≤ 3
theorem small_spec (sa ca : Addr) (n : Nat) (hn : 10 ≤ n) : Gives sa ca (G (n + 1) .f__law_small_type) [.raw (.ref sa)] Rt := by
  intro s hs
  let A : Slot := .val (.raw (.ref sa))
  obtain ⟨n, rfl⟩ : ∃ k, n = k + 1 := ⟨n - 1, by omega⟩
  have hp := pickG sa ca n
  obtain ⟨k, s1, hs1, hk, e1⟩ := int_pick hp 3 (by decide) (by decide) hs
  obtain ⟨d, s2, hs2, ⟨t, et, ot, pt, lt⟩, e2⟩ := wide_spec sa ca 2 (k : Nat) (by omega) (n + 1) (by omega) s1 hs1
  subst et
  let ρ : Rho := [A, .free]
  let ρ1 : Rho := [A, .val t.d]
  have st : mSet 1 (mCall 2 (G (n + 1) .f__law_wide_type) (mCons (getS 0) (mCons (mCall 2 (G (n + 1) .f__law_pick) (mCons (getS 0) (mCons (DL.ret (.int 3)) mNil))) mNil))) ρ (some s) = some (.ok .nx ρ1 (some s2)) :=
    set_ok (ρ1 := ρ) (call2 (a := .raw (.ref sa)) (b := .int (k : Nat)) (ρ1 := ρ) (ρ2 := ρ) (w1 := some s) (w2 := some s1) rfl (call2 (a := .raw (.ref sa)) (b := .int 3) (ρ1 := ρ) (ρ2 := ρ) (w1 := some s) (w2 := some s) rfl rfl e1) e2)
  have te := smallTest (n := n + 1) (i := 1) (ρ := ρ1) (w := some s2) ot pt (by omega) rfl
  cases q : smallB t with
  | true =>
    rw [q] at te
    refine ⟨t.d, s2, hs2, ⟨t, rfl, ot, pt, by omega⟩, gOf_rt (ρ' := ρ1) rfl ?_⟩
    show m__law_small_type (G (n + 1)) ρ (some s) = _
    unfold m__law_small_type
    rw [seq_nx st]
    exact seq_if te rfl
  | false =>
    rw [q] at te
    obtain ⟨j, s3, hs3, hj, e3⟩ := int_pick hp 3 (by decide) (by decide) hs2
    let u : Th := .pair (.lot ["ab", "a"]) (.pair (.cnt 3) (.cnt (2 + (j : Nat))))
    have ou : u.ok := ⟨⟨by decide, by decide, by decide +kernel, by decide +kernel⟩, (show (2 : Int) ≤ 3 ∧ (3 : Int) ≤ 6 from by decide), (show (2 : Int) ≤ 2 + (j : Nat) ∧ (2 : Int) + (j : Nat) ≤ 6 from by omega)⟩
    refine ⟨u.d, s3, hs3, ⟨u, rfl, ou, rfl, (show (2 : Nat) ≤ 3 from by decide)⟩, gOf_rt (ρ' := ρ1) rfl ?_⟩
    show m__law_small_type (G (n + 1)) ρ (some s) = _
    unfold m__law_small_type
    rw [seq_nx st, seq_el te]
    refine ret_ok (tup3_ok (a := .str "pair") (b := (Th.lot ["ab", "a"]).d) (ρ1 := ρ1) (w1 := some s2) (ρ2 := ρ1) (w2 := some s2) rfl rfl ?_)
    refine tup3_ok (a := .str "pair") (b := (Th.cnt 3).d) (ρ1 := ρ1) (w1 := some s2) (ρ2 := ρ1) (w2 := some s2) rfl rfl ?_
    exact tup2_ok (a := .str "count") (ρ1 := ρ1) (w1 := some s2) rfl (bin_ok (ρ1 := ρ1) (w1 := some s2) (a := .int 2) (b := .int (j : Nat)) rfl (call2 (a := .raw (.ref sa)) (b := .int 3) (ρ1 := ρ1) (ρ2 := ρ1) (w1 := some s2) (w2 := some s2) rfl rfl e3) rfl)
end KX
set_option Elab.async false
set_option linter.all false
set_option maxRecDepth 100000
set_option
      maxHeartbeats 4000000
/-! DQ7: what is no value: the law's path. -/
namespace KX
open PySem PyProof.Rows PySem.Spec L2 RZ StX DL
variable [Tbs] [Ca]
/-- plain things -/
inductive Pl : D → Prop
  | non : Pl .non
  | bl (b : Bool) : Pl (.bl b)
  | int (i : Int) : Pl (.int i)
  | str (x : Str) : Pl (.str x)
  | lst (l : List D) : Pl (.lst l)
  | dct : Pl (.dct [] [])
  | tup (l : List D) (h : ∀ x ∈ l, Pl x) : Pl (.tup l)
/-- the way to what makes a thing no value -/
def vp : Th → D → Option (List Int)
  | .odd _, _ => some []
  | .lot ws, .str x => if x ∈ ws then none else some []
  | .lot _, _ => some []
  | .cnt k, .int i => if 0 ≤ i ∧ i < k then none else some []
  | .cnt _, _ => some []
  | .pair a b, .tup [x, y] => match vp a x with
    | some p => some (0 :: p)
    | none => (vp b y).map (1 :: ·)
  | .pair _ _, _ => some []
theorem vp_len : ∀ (t : Th) (d : D) (p : List Int), vp t d = some p → p.length ≤ t.deep
  | .odd _, _, p, h => by cases h; exact Nat.zero_le _
  | .lot ws, d, p, h => by
    cases d with
    | str x =>
      have h : (if x ∈ ws then none else some []) = some p := h
      split at h
      · cases h
      · cases h; exact Nat.zero_le _
    | _ => cases h; exact Nat.zero_le _
  | .cnt k, d, p, h => by
    cases d with
    | int i =>
      have h : (if 0 ≤ i ∧ i < k then none else some []) = some p := h
      split at h
      · cases h
      · cases h; exact Nat.zero_le _
    | _ => cases h; exact Nat.zero_le _
  | .pair a b, d, p, h => by
    have nil_ : ∀ {q : List Int}, (some [] : Option (List Int)) = some q → q.length ≤ (Th.pair a b).deep := fun z => by cases z; exact Nat.zero_le _
    cases d with
    | tup l =>
      match l, h with
      | [], h => exact nil_ h
      | [_], h => exact nil_ h
      | _ :: _ :: _ :: _, h => exact nil_ h
      | [x, y], h =>
        have h : (match vp a x with
          | some p => some (0 :: p)
          | none => (vp b y).map (1 :: ·)) = some p := h
        cases ha : vp a x with
        | some q =>
          rw [ha] at h
          cases h
          have := vp_len a x q ha
          simp only [Th.deep, List.length_cons]
          omega
        | none =>
          rw [ha] at h
          cases hb : vp b y with
          | none => rw [hb]
                at h; cases h
          | some q =>
            rw [hb] at h
            cases h
            have := vp_len b y q hb
            simp only [Th.deep, List.length_cons]
            omega
    | _ => exact nil_ h
theorem mem_strs_t (x : Str) : ∀ ys : List Str, x ∈ ys → memD (.str x) (ys.map .str) = true
  | y :: ys, h => by
    show ((y == x) || memD (.str x) (ys.map .str)) = true
    rcases List.mem_cons.mp
          h with e | e
    · subst e
      simp
    · rw [mem_strs_t x ys e, Bool.or_true]
theorem in_lot (x : Str) (ws : List Str) : inD (.str x) (.tup (ws.map .str)) = some (.bl (decide (x ∈ ws))) := by
  show (if dat 60 (D.str x) && dats 59 (ws.map .str) then some (D.bl (memD (.str x) (ws.map .str))) else none) = _
  rw [dats_strs]
  by_cases h : x ∈ ws
  · rw [mem_strs_t x ws h, decide_eq_true h]
    rfl
  · rw [mem_strs x ws h, decide_eq_false h]
    rfl
theorem chain_two {m1 m2 m3 : M D} {ρ : Rho} {w : Wo} {a b c : Int} (h1 : m1 ρ w = some (.ok (.int a) ρ w)) (h2 : m2 ρ w = some (.ok (.int b) ρ w)) (h3 : m3 ρ w = some (.ok (.int c) ρ w)) : mChain leD ltD m1 m2 m3 ρ w = some (.ok (.bl (decide (a ≤ b ∧ b < c))) ρ w) := by
  unfold mChain
  rw [bnd_ok h1, bnd_ok h2]
  show (match some (D.bl (decide (a ≤ b))) with
    | some d => kBool (fun k => if k = true then bnd m3 fun c => lft (ltD (.int b) c) else DL.ret (.bl false)) d
    | none => fun _ _ => none) ρ w = _
  by_cases x : a ≤ b
  · rw [decide_eq_true x]
    show bnd m3 _ ρ w = _
    rw [bnd_ok h3]
    show some (Rs.ok (D.bl (decide (b < c))) ρ w) = _
    by_cases y : b < c
    · rw [decide_eq_true y, decide_eq_true ⟨x, y⟩]
    · rw [decide_eq_false y, decide_eq_false (fun z => y z.2)]
  · rw [decide_eq_false x, decide_eq_false (fun z => x z.1)]
    rfl
/-- the law's path -/
theorem lawLot (ws : List Str) {d : D} (h : Pl d) (n : Nat) (w : Wo) : G (n + 1) .f__law_wrong_value [(Th.lot ws).d, d] w = some (.ok (optD (vp (.lot ws) d)) w) := by
  cases h with
  | str x =>
    let ρ : Rho := [.val (Th.lot ws).d, .val (.str x), .free, .free, .free]
    refine gOf_rt (ρ' := ρ) rfl ?_
    show m__law_wrong_value (G n) ρ w = _
    unfold m__law_wrong_value
    refine seq_if (ρ' := ρ) (w' := w) (by kernel_rfl) (ret_ok ?_)
    have t1 : mVal (bnd (mCons (getS 1) (mCons (DL.ret (.raw (.ty "str"))) mNil)) fun ds => lft (isiD ds)) ρ w = some (.ok true ρ w) := by kernel_rfl
    have t2 : mBinT inD (getS 1) (mBin ixD (getS 0) (DL.ret (.int 1))) ρ w = some (.ok (decide (x ∈ ws)) ρ w) := binT_ok (a := .str x) (b := .tup (ws.map .str)) (ρ1 := ρ) (w1 := w) rfl rfl (in_lot x ws)
    rw [ite_run' (and_tt t1 t2)]
    show (if decide (x ∈ ws) = true then _ else _) = some (Rs.ok (optD (if x ∈ ws then none else some [])) ρ w)
    by_cases q : x ∈ ws
    · rw [decide_eq_true q, if_pos rfl, if_pos q]
      rfl
    · rw [decide_eq_false q, if_neg (by decide), if_neg q]
      rfl
  | _ => kernel_rfl
theorem lawCnt (k : Int) {d : D} (h : Pl d) (n : Nat) (w : Wo) : G (n + 1) .f__law_wrong_value [(Th.cnt k).d, d] w = some (.ok (optD (vp (.cnt k) d)) w) := by
  cases h with
  | int i =>
    let ρ : Rho := [.val (Th.cnt k).d, .val (.int i), .free, .free, .free]
    let ρ1 : Rho := [.val (Th.cnt k).d, .val (.int i), .free, .free, .val (.bl true)]
    refine gOf_rt (ρ' := ρ1) rfl ?_
    show m__law_wrong_value (G n) ρ w = _
    unfold m__law_wrong_value
    rw [seq_el (ρ' := ρ) (w' := w) (by kernel_rfl)]
    refine seq_if (ρ' := ρ) (w' := w) (by kernel_rfl) ?_
    rw [seq_nx (ρ' := ρ1) (w' := w) (by kernel_rfl)]
    refine ret_ok ?_
    have t1 : mVal (getS 4) ρ1 w = some (.ok true ρ1 w) := by kernel_rfl
    have t2 : mVal (mChain leD ltD (DL.ret (.int 0)) (getS 1) (mBin ixD (getS 0) (DL.ret (.int 1)))) ρ1 w = some (.ok (decide (0 ≤ i ∧ i < k)) ρ1 w) := by
      unfold mVal
      rw [bnd_ok (chain_two (a := 0) (b := i) (c := k) rfl rfl rfl)]
      rfl
    rw [ite_run' (and_tt t1 t2)]
    show (if decide (0 ≤ i ∧ i < k) = true then _ else _) = some (Rs.ok (optD (if 0 ≤ i ∧ i < k then none else some [])) ρ1 w)
    by_cases q : 0 ≤ i ∧ i < k
    · rw [decide_eq_true q, if_pos rfl, if_pos q]
      rfl
    · rw [decide_eq_false q, if_neg (by decide), if_neg q]
      rfl
  | _ => kernel_rfl
/-- a pair's two parts -/
theorem pair_cases (l : List D) : (∃ x y, l = [x, y]) ∨ (l.length ≠ 2) := by
  match l with
  | [] => exact .inr (by decide)
  | [_] => exact .inr (by simp)
  | [x, y] => exact .inl ⟨x, y, rfl⟩
  | _ :: _ :: _ :: _ => exact .inr (by simp)
theorem vp_else {a b : Th} {l : List D} (h : l.length ≠ 2) : vp (.pair a b) (.tup l) = some [] := by
  match l, h with
  | [], _ => rfl
  | [_], _ => rfl
  | [_, _], h => exact absurd rfl h
  | _ :: _ :: _ :: _, _ => rfl
theorem lawWrong : ∀ (t : Th), t.path = none → t.deep ≤ 1000 → ∀ (d : D), Pl d → ∀ n, t.deep < n → ∀ w, G n .f__law_wrong_value [t.d, d] w = some (.ok (optD (vp t d)) w)
  | _, _, _, _, _, 0, h, _ => absurd h (Nat.not_lt_zero _)
  | .odd _, r, _, _, _, _ + 1, _, _ => by cases r
  | .lot ws, _, _, d, h, n + 1, _, w => lawLot ws h n w
  | .cnt k, _, _, d, h, n + 1, _, w => lawCnt k h n w
  | .pair a b, r, hd, d, h, n + 1, hn, w => by
    simp only [Th.deep] at hn hd
    cases h with
    | tup l hl =>
      let T : D := (Th.pair a b).d
      let ρ : Rho := [.val T, .val (.tup l), .free, .free, .free]
      have t1 : mNot (mVal (bnd (mCons (getS 1) (mCons (DL.ret (.raw (.ty "tuple"))) mNil)) fun ds => lft (isiD ds))) ρ w = some (.ok false ρ w) := by kernel_rfl
      have t2 : mBinT neD (bnd (mCons (getS 1) mNil) fun ds => lft (lenD ds)) (DL.ret (.int 2)) ρ w = some (.ok (!decide (l.length = 2)) ρ w) := by
        refine binT_ok (a := .int (l.length : Nat)) (b := .int 2) (ρ1 := ρ) (w1 := w) rfl rfl ?_
        by_cases q : l.length = 2
        · rw [q, decide_eq_true rfl]
          kernel_rfl
        · rw [decide_eq_false q]
          have e : (((l.length : Nat) : Int) == 2) = false := by
            rw [beq_eq_false_iff_ne]
            omega
          simp [neD, dat, deq, e]
      have pre : ∀ (k : M Fl) (x : M Fl), mSeq (mIte (mBinT eqD (mBin ixD (getS 0) (DL.ret (.int 0))) (DL.ret (.str "lot"))) x (DL.ret .nx)) k ρ w = k ρ w := fun k x => seq_el (ρ' := ρ) (w' := w) (by kernel_rfl)
      rcases pair_cases l with ⟨x, y, rfl⟩ | q
      · have ex := lawWrong a (right_pair r).1 (by omega) x (hl x List.mem_cons_self) n (by omega) w
        have ey := lawWrong b (right_pair r).2 (by omega) y (hl y (List.mem_cons_of_mem _ List.mem_cons_self)) n (by omega) w
        let ρ1 : Rho := [.val T, .val (.tup [x, y]), .val (optD (vp a x)), .val (optD (vp b y)), .free]
        refine gOf_rt (ρ' := ρ1) rfl ?_
        show m__law_wrong_value (G n) ρ w = _
        unfold m__law_wrong_value
        rw [pre]
        rw [seq_el (ρ' := ρ) (w' := w) (by kernel_rfl)]
        rw [seq_el (ρ' := ρ) (w' := w) (or_ff t1 t2)]
        rw [seq_nx (ρ' := ρ1) (w' := w) (by
          unfold mPar
          rw [bnd_ok (cons_ok (call2 (a := a.d) (b := x) (ρ1 := ρ) (ρ2 := ρ) (w1 := w) (w2 := w) rfl rfl ex) (cons_ok (call2 (a := b.d) (b := y) (ρ1 := ρ) (ρ2 := ρ) (w1 := w) (w2 := w) rfl rfl ey) rfl))]
          rfl)]
        have v : vp (.pair a b) (.tup [x, y]) = match vp a x with
          | some p => some (0 :: p)
          | none => (vp b y).map (1 :: ·) := rfl
        rw [v]
        have add : ∀ (i : Int) (p : List Int), p.length ≤ 1000 → addD (.tup [.int i]) (pathD p) = some (pathD (i :: p)) := fun i p hp => pathD_add [i] p (by simp only [List.length_cons, List.length_nil]; omega)
        cases ha : vp a x with
        | some p =>
          have e2 : getS 2 ρ1 w = some (.ok (pathD p) ρ1 w) := by show some (Rs.ok (optD (vp a x)) ρ1 w) = _; rw [ha]; rfl
          have hp := vp_len a x p ha
          exact seq_if (ρ' := ρ1) (w' := w) (binT_ok (b := .non) e2 rfl rfl) (ret_ok (bin_ok (a := .tup [.int 0]) rfl e2 (add 0 p (by omega))))
        | none =>
          have e2 : getS 2 ρ1 w = some (.ok .non ρ1 w) := by show some (Rs.ok (optD (vp a x)) ρ1 w) = _; rw [ha]; rfl
          rw [seq_el (ρ' := ρ1) (w' := w) (binT_ok (b := .non) e2 rfl rfl)]
          refine ret_ok ?_
          cases hb : vp b y with
          | none =>
            have e3 : getS 3 ρ1 w = some (.ok .non ρ1 w) := by show some (Rs.ok (optD (vp b y)) ρ1 w) = _; rw [hb]; rfl
            exact (ite_run' (b := true) (ρ' := ρ1) (w' := w) (binT_ok (b := .non) e3 rfl rfl)).trans rfl
          | some p =>
            have e3 : getS 3 ρ1 w = some (.ok (pathD p) ρ1 w) := by show some (Rs.ok (optD (vp b y)) ρ1 w) = _; rw [hb]; rfl
            have hp := vp_len b y p hb
            exact (ite_run' (b := false) (ρ' := ρ1) (w' := w) (binT_ok (b := .non) e3 rfl rfl)).trans (bin_ok (a := .tup [.int 1]) rfl e3 (add 1 p (by omega)))
      · rw [vp_else q]
        refine gOf_rt (ρ' := ρ) rfl ?_
        show m__law_wrong_value (G n) ρ w = _
        unfold m__law_wrong_value
        rw [pre]
        rw [seq_el (ρ' := ρ) (w' := w) (by kernel_rfl)]
        rw [decide_eq_false q] at t2
        have t3 : mOr (mNot (mVal (bnd (mCons (getS 1) (mCons (DL.ret (.raw (.ty "tuple"))) mNil)) fun ds => lft (isiD ds)))) (mBinT neD (bnd (mCons (getS 1) mNil) fun ds => lft (lenD ds)) (DL.ret (.int 2))) ρ w = some (.ok true ρ w) := by
          unfold mOr
          rw [bnd_ok t1]
          exact t2
        exact seq_if (ρ' := ρ) (w' := w) t3 rfl
    | _ => kernel_rfl
end KX
set_option Elab.async false
set_option linter.all false
set_option maxRecDepth 100000
set_option
      maxHeartbeats 4000000
/-! DQ8: what is no value: the program's path. -/
namespace KX
open PySem PyProof.Rows PySem.Spec L2 RZ StX DL
variable [Tbs] [Ca]
theorem pre_nil (q : List Int) : ((some [] : Option (List Int)).map (q ++ ·)) = some q := by
  show some (q ++ []) = some q
  rw [List.append_nil]
theorem partLot (ws : List Str) {d : D} (h : Pl d) (q : List Int) (n : Nat) (w : Wo) : G (n + 1) .f_part_fault [(Th.lot ws).d, d, pathD q] w = some (.ok (optD ((vp (.lot ws) d).map (q ++ ·))) w) := by
  have no : vp (.lot ws) d = some [] → (∀ x, d ≠ .str x) → G (n + 1) .f_part_fault [(Th.lot ws).d, d, pathD q] w = some (.ok (pathD q) w) → G (n + 1) .f_part_fault [(Th.lot ws).d, d, pathD q] w = some (.ok (optD ((vp (.lot ws) d).map (q ++ ·))) w) := fun e _ z => by
    rw [e, pre_nil]
    exact z
  cases h with
  | str x =>
    let ρ : Rho := [.val (Th.lot ws).d, .val (.str x), .val (pathD q), .free, .free]
    let ρ1 : Rho := [.val (Th.lot ws).d, .val (.str x), .val (pathD q), .free, .val (.bl (decide (x ∈ ws)))]
    refine gOf_rt (ρ' := ρ1) rfl ?_
    show m_part_fault (G n) ρ w = _
    unfold m_part_fault
    refine seq_if (ρ' := ρ) (w' := w) (by kernel_rfl) ?_
    have t1 : (bnd (mCons (getS 1) (mCons (DL.ret (.raw (.ty "str"))) mNil)) fun ds => lft (isiD ds)) ρ w = some (.ok (.bl true) ρ w) := by kernel_rfl
    have t2 : mBin inD (getS 1) (mBin ixD (getS 0) (DL.ret (.int 1))) ρ w = some (.ok (.bl (decide (x ∈ ws))) ρ w) := bin_ok (a := .str x) (b := .tup (ws.map .str)) (ρ1 := ρ) (w1 := w) rfl rfl (in_lot x ws)
    rw [seq_nx (ρ' := ρ1) (w' := w) (set_ok (i := 4) (ρ1 := ρ) (andV_tt t1 t2))]
    refine ret_ok ?_
    rw [ite_run' (b := decide (x ∈ ws)) (ρ' := ρ1) (w' := w) rfl]
    show (if decide (x ∈ ws) = true then _ else _) = some (Rs.ok (optD ((if x ∈ ws then none else some [] : Option (List Int)).map (q ++ ·))) ρ1 w)
    by_cases z : x ∈ ws
    · rw [decide_eq_true z, if_pos rfl, if_pos z]
      rfl
    · rw [decide_eq_false z, if_neg (by decide), if_neg z, pre_nil]
      rfl
  | _ => exact no rfl (fun x z => by cases z) (by kernel_rfl)
theorem partCnt (k : Int) {d : D} (h : Pl d) (q : List Int) (n : Nat) (w : Wo) : G (n + 2) .f_part_fault [(Th.cnt k).d, d, pathD q] w = some (.ok (optD ((vp (.cnt k) d).map (q ++ ·))) w) := by
  have no : vp (.cnt k) d = some [] → G (n + 2) .f_part_fault [(Th.cnt k).d, d, pathD q] w = some (.ok (pathD q) w) → G (n + 2) .f_part_fault [(Th.cnt k).d, d, pathD q] w = some (.ok (optD ((vp (.cnt k) d).map (q ++ ·))) w) := fun e z => by
    rw [e, pre_nil]
    exact z
  cases h with
  | int i =>
    let ρ : Rho := [.val (Th.cnt k).d, .val (.int i), .val (pathD q), .free, .free]
    let ρ1 : Rho := [.val (Th.cnt k).d, .val (.int i), .val (pathD q), .free, .val (.bl (decide (0 ≤ i ∧ i < k)))]
    refine gOf_rt (ρ' := ρ1) rfl ?_
    show m_part_fault (G (n + 1)) ρ w = _
    unfold m_part_fault
    rw [seq_el (ρ' := ρ) (w' := w) (by kernel_rfl)]
    refine seq_if (ρ' := ρ) (w' := w) (by kernel_rfl) ?_
    have t1 : mCall 1 (G (n + 1) .f_is_number) (mCons (getS 1) mNil) ρ w = some (.ok (.bl true) ρ w) := by kernel_rfl
    have t2 : mChain leD ltD (DL.ret (.int 0)) (getS 1) (mBin ixD (getS 0) (DL.ret (.int 1))) ρ w = some (.ok (.bl (decide (0 ≤ i ∧ i < k))) ρ w) := chain_two (a := 0) (b := i) (c := k) rfl rfl rfl
    rw [seq_nx (ρ' := ρ1) (w' := w) (set_ok (i := 4) (ρ1 := ρ) (andV_tt t1 t2))]
    refine ret_ok ?_
    rw [ite_run' (b := decide (0 ≤ i ∧ i < k)) (ρ' := ρ1) (w' := w) rfl]
    show (if decide (0 ≤ i ∧ i < k) = true then _ else _) = some (Rs.ok (optD ((if 0 ≤ i ∧ i < k then none else some [] : Option (List Int)).map (q ++ ·))) ρ1 w)
    by_cases z : 0 ≤ i ∧ i < k
    · rw [decide_eq_true z, if_pos rfl, if_pos z]
      rfl
    · rw [decide_eq_false z, if_neg (by decide), if_neg z, pre_nil]
      rfl
  | _ => exact no rfl (by kernel_rfl)
theorem tuple_no {l : List D} (h : l.length ≠ 2) (n : Nat) (w : Wo) : G (n + 1) .f_is_tuple [.tup l, .int 2, .int 2] w = some (.ok (.bl false) w) := by
  refine gOf_rt (ρ' := [.val (.tup l), .val (.int 2), .val (.int 2)]) rfl ?_
  show m_is_tuple (G n) [.val (.tup l), .val (.int 2), .val (.int 2)] w = _
  unfold m_is_tuple
  refine ret_ok ?_
  have e : mChain leD leD (getS 1) (bnd (mCons (getS 0) mNil) fun ds => lft (lenD ds)) (getS 2) [.val (.tup l), .val (.int 2), .val (.int 2)] w = some (.ok (.bl false) [.val (.tup l), .val (.int 2), .val (.int 2)] w) := by
    by_cases c : (2 : Int) ≤ (l.length : Int)
    · have c2 : ¬ (l.length : Int) ≤ 2 := by omega
      simp [mChain, bnd, getS, DL.ret, mCons, mNil, lft, lenD, cmpD, kBool, c, c2]
    · simp [mChain, bnd, getS, DL.ret, mCons, mNil, lft, lenD, cmpD, kBool, c]
  exact e
theorem partFault : ∀ (t : Th), t.path = none → ∀ (d : D), Pl d → ∀ n, t.deep + 2 ≤ n → ∀ (q : List Int), q.length + t.deep ≤ 1000 → ∀ w, G n .f_part_fault [t.d, d, pathD q] w = some (.ok (optD ((vp t d).map (q ++ ·))) w)
  | .odd _, r, _, _, _, _, _, _, _ => by cases r
  | .lot ws, _, d, h, n, hn, q, _, w => by
    obtain ⟨m, rfl⟩ : ∃ m, n =
          m + 1 := ⟨n - 1, by omega⟩
    exact partLot ws h q m w
  | .cnt k, _, d, h, n, hn, q, _, w => by
    obtain ⟨m, rfl⟩ : ∃ m, n = m + 2 := ⟨n - 2, by omega⟩
    exact partCnt k h q m w
  | .pair a b, r, d, h, n, hn, q, hq, w => by
    simp only [Th.deep] at hn hq
    obtain ⟨n, rfl⟩ : ∃ m, n = m + 1 + 1 := ⟨n - 2, by omega⟩
    have no : vp (.pair a b) d = some [] → G (n + 1 + 1) .f_part_fault [(Th.pair a b).d, d, pathD q] w = some (.ok (pathD q) w) → G (n + 1 + 1) .f_part_fault [(Th.pair a b).d, d, pathD q] w = some (.ok (optD ((vp (.pair a b) d).map (q ++ ·))) w) := fun e z => by
      rw [e, pre_nil]
      exact z
    cases h with
    | tup l hl =>
      let T : D := (Th.pair a b).d
      let ρ : Rho := [.val T, .val (.tup l), .val (pathD q), .free, .free]
      have pre : m_part_fault (G (n + 1)) ρ w = mSeq (mIte (mNot (mVal (mCall 3 (G (n + 1) .f_is_tuple) (mCons (getS 1) (mCons (DL.ret (.int 2)) (mCons (DL.ret (.int 2)) mNil)))))) (mRet (getS 2)) (DL.ret .nx)) (mSeq (mSet 3 (mCall 3 (G (n + 1) .f_part_fault) (mCons (mBin ixD (getS 0) (DL.ret (.int 1))) (mCons (mBin ixD (getS 1) (DL.ret (.int 0))) (mCons (mBin addD (getS 2) (mTup (mCons (DL.ret (.int 0)) mNil))) mNil))))) (mSeq (mIte (mBinT (isN false) (getS 3) (DL.ret .non)) (mSet 3 (mCall 3 (G (n + 1) .f_part_fault) (mCons (mBin ixD (getS 0) (DL.ret (.int 2))) (mCons (mBin ixD (getS 1) (DL.ret (.int 1))) (mCons (mBin addD (getS 2) (mTup (mCons (DL.ret (.int 1)) mNil))) mNil))))) (DL.ret .nx)) (mRet (getS 3)))) ρ w := by
        unfold m_part_fault
        rw [seq_el (ρ' := ρ) (w' := w) (by kernel_rfl)]
        rw [seq_el (ρ' := ρ) (w' := w) (by kernel_rfl)]
      rcases pair_cases l with ⟨x, y, rfl⟩ | z
      · have ex := partFault a (right_pair r).1 x (hl x List.mem_cons_self) (n + 1) (by omega) (q ++ [0]) (by simp only [List.length_append, List.length_cons, List.length_nil]; omega) w
        have ey := partFault b (right_pair r).2 y (hl y (List.mem_cons_of_mem _ List.mem_cons_self)) (n + 1) (by omega) (q ++ [1]) (by simp only [List.length_append, List.length_cons, List.length_nil]; omega) w
        have it : G (n + 1) .f_is_tuple [.tup [x, y], .int 2, .int 2] w = some (.ok (.bl true) w) := tuple_ok (l := [x, y]) (show (2 : Int) ≤ 2 from Int.le_refl 2) (show (2 : Int) ≤ 2 from Int.le_refl 2) n w
        have add : ∀ (i : Int) (s : Slot), (mBin addD (getS 2) (mTup (mCons (DL.ret (.int i)) mNil))) [.val T, .val (.tup [x, y]), .val (pathD q), s, .free] w = some (.ok (pathD (q ++ [i])) [.val T, .val (.tup [x, y]), .val (pathD q), s, .free] w) := fun i s =>
          bin_ok (a := pathD q) (b := pathD [i]) rfl rfl (pathD_add q [i] (by simp only [List.length_cons, List.length_nil]; omega))
        have t1 : mNot (mVal (mCall 3 (G (n + 1) .f_is_tuple) (mCons (getS 1) (mCons (DL.ret (.int 2)) (mCons (DL.ret (.int 2)) mNil))))) ρ w = some (.ok false ρ w) := by
          have c : mCall 3 (G (n + 1) .f_is_tuple) (mCons (getS 1) (mCons (DL.ret (.int 2)) (mCons (DL.ret (.int 2)) mNil))) ρ w = some (.ok (.bl true) ρ w) := by
            show (match G (n + 1) .f_is_tuple [.tup [x, y], .int 2, .int 2] w with
              | some (.ok d w') => some (Rs.ok d ρ w')
              | some (.exc x w') => some (.exc x ρ w')
              | none => none) = _
            rw [it]
          unfold mNot mVal
          rw [bnd_ok (a := true) (ρ' := ρ) (w' := w) (by rw [bnd_ok c]; rfl)]
          rfl
        have c3 : ∀ (t : Th) (v : D) (i : Int) (s : Slot) (m1 m2 m3 : M D) (o : Option (List Int)), m1 [.val T, .val (.tup [x, y]), .val (pathD q), s, .free] w = some (.ok t.d [.val T, .val (.tup [x, y]), .val (pathD q), s, .free] w) → m2 [.val T, .val (.tup [x, y]), .val (pathD q), s, .free] w = some (.ok v [.val T, .val (.tup [x, y]), .val (pathD q), s, .free] w) → m3 [.val T, .val (.tup [x, y]), .val (pathD q), s, .free] w = some (.ok (pathD (q ++ [i])) [.val T, .val (.tup [x, y]), .val (pathD q), s, .free] w) → G (n + 1) .f_part_fault [t.d, v, pathD (q ++ [i])] w = some (.ok (optD o) w) →
            mSet 3 (mCall 3 (G (n + 1) .f_part_fault) (mCons m1 (mCons m2 (mCons m3 mNil)))) [.val T, .val (.tup [x, y]), .val (pathD q), s, .free] w = some (.ok .nx [.val T, .val (.tup [x, y]), .val (pathD q), .val (optD o), .free] w) := fun t v i s m1 m2 m3 o h1 h2 h3 e => by
          refine set_ok (i := 3) (ρ1 := [.val T, .val (.tup [x, y]), .val (pathD q), s, .free]) ?_
          unfold mCall
          rw [bnd_ok (cons_ok h1 (cons_ok h2 (cons_ok h3 rfl)))]
          show (match G (n + 1) .f_part_fault [t.d, v, pathD (q ++ [i])] w with
            | some (.ok d w') => some (Rs.ok d [.val T, .val (.tup [x, y]), .val (pathD q), s, .free] w')
            | some (.exc z w') => some (.exc z [.val T, .val (.tup [x, y]), .val (pathD q), s, .free] w')
            | none => none) = _
          rw [e]
        have s1 := c3 a x 0 .free (mBin ixD (getS 0) (DL.ret (.int 1))) (mBin ixD (getS 1) (DL.ret (.int 0))) (mBin addD (getS 2) (mTup (mCons (DL.ret (.int 0)) mNil))) _ rfl rfl (add 0 .free) ex
        have v : vp (.pair a b) (.tup [x, y]) = match vp a x with
          | some p => some (0 :: p)
          | none => (vp b y).map (1 :: ·) := rfl
        rw [v]
        refine (?_ : gOf 3 5 (m_part_fault (G (n + 1))) [T, .tup [x, y], pathD q] w = _)
        cases ha : vp a x with
        | some p =>
          rw [ha] at s1
          refine gOf_rt (ρ' := [.val T, .val (.tup [x, y]), .val (pathD q), .val (pathD (q ++ [0] ++ p)), .free]) rfl ?_
          show m_part_fault (G (n + 1)) ρ w = _
          rw [pre, seq_el t1, seq_nx s1, seq_el (ρ' := [.val T, .val (.tup [x, y]), .val (pathD q), .val (pathD (q ++ [0] ++ p)), .free]) (w' := w) rfl]
          show some (Rs.ok (Fl.rt (pathD (q ++ [0] ++ p))) _ w) = _
          rw [List.append_assoc]
          rfl
        | none =>
          rw [ha] at s1
          have s2 := c3 b y 1 (.val .non) (mBin ixD (getS 0) (DL.ret (.int 2))) (mBin ixD (getS 1) (DL.ret (.int 1))) (mBin addD (getS 2) (mTup (mCons (DL.ret (.int 1)) mNil))) _ rfl rfl (add 1 (.val .non)) ey
          have g : ((vp b y).map (1 :: ·)).map (q ++ ·) = (vp b y).map (q ++ [1] ++ ·) := by
            rw [Option.map_map]
            congr 1
            funext z
            simp
          dsimp only
          rw [g]
          refine gOf_rt (ρ' := [.val T, .val (.tup [x, y]), .val (pathD q), .val (optD ((vp b y).map (q ++ [1] ++ ·))), .free]) rfl ?_
          show m_part_fault (G (n + 1)) ρ w = _
          rw [pre, seq_el t1, seq_nx s1, seq_th (ρ' := [.val T, .val (.tup [x, y]), .val (pathD q), .val .non, .free]) (w' := w) rfl s2]
          rfl
      · refine no (vp_else z) ?_
        refine gOf_rt (ρ' := ρ) rfl ?_
        show m_part_fault (G (n + 1)) ρ w = _
        rw [pre]
        have c : mCall 3 (G (n + 1) .f_is_tuple) (mCons (getS 1) (mCons (DL.ret (.int 2)) (mCons (DL.ret (.int 2)) mNil))) ρ w = some (.ok (.bl false) ρ w) := by
          show (match G (n + 1) .f_is_tuple [.tup l, .int 2, .int 2] w with
            | some (.ok d w') => some (Rs.ok d ρ w')
            | some (.exc x w') => some (.exc x ρ w')
            | none => none) = _
          rw [tuple_no z]
        refine seq_if (ρ' := ρ) (w' := w) ?_ rfl
        unfold mNot mVal
        rw [bnd_ok (a := false) (ρ' := ρ) (w' := w) (by rw [bnd_ok c]; rfl)]
        rfl
    | _ => exact no rfl (by kernel_rfl)
end KX
set_option Elab.async false
set_option linter.all false
set_option maxRecDepth 100000
set_option
      maxHeartbeats 4000000
namespace KX
open PySem PyProof.Rows PySem.Spec L2 RZ StX DL
variable [Tbs] [Ca]
theorem lc2_run (T : Slot) (ys : List D) (w : Wo) : ∀ (xs : List D) (s t : Slot), ∃ s' t', lcLoop2 [2, 3] (bName 2) (DL.ret true) (bnd (getS 1) fun d => lft (itemsD d)) [3] (bName 3) (DL.ret true) (mTup (mCons (getS 2) (mCons (getS 3) mNil))) xs [T, .val (.lst ys), s, t] w = some (xs.flatMap fun x => ys.map fun y => .tup [x, y], [T, .val (.lst ys), s', t'], w)
  | [], s, t => ⟨s, t, rfl⟩
  | x :: xs, s, t => by
    obtain ⟨ρ', e, hw⟩ := lc_map (own := [3]) (bind := bName 3) (me := mTup (mCons (getS 2) (mCons (getS 3) mNil))) (ρ := [T, .val (.lst ys), .val x, .free]) (w := w) (e := fun d : D => d) (f := fun y => D.tup [x, y]) ys
      (fun y _ => ⟨[T, .val (.lst ys), .val x, .val y], [T, .val (.lst ys), .val x, .val y], rfl, rfl, rfl⟩) [T, .val (.lst ys), .val x, .free] rfl
    rw [List.map_id'] at e
    have hw' : wipeR ρ' [3] = [T, .val (.lst ys), .val x, .free] := hw
    obtain ⟨s', t', ih⟩ := lc2_run T ys w xs (.val x) .free
    refine ⟨s', t', ?_⟩
    show (match lcLoop [3] (bName 3) (DL.ret true) (mTup (mCons (getS 2) (mCons (getS 3) mNil))) ys [T, .val (.lst ys), .val x, .free] w with
      | some (ys', ρ3, w3) => (lcLoop2 [2, 3] (bName 2) (DL.ret true) (bnd (getS 1) fun d => lft (itemsD d)) [3] (bName 3) (DL.ret true) (mTup (mCons (getS 2) (mCons (getS 3) mNil))) xs (wipeR ρ3 [3]) w3).map fun (z : List D × Rho × Wo) => (ys' ++ z.1, z.2)
      | none => none) = _
    rw [e]
    dsimp only
    rw [hw', ih]
    rfl
theorem listedOk (w : Wo) : ∀ (t : Th), t.ok → t.path = none → t.num ≤ 100000 → ∀ n, t.deep < n → G n .f_listed [t.d] w = some (.ok (.lst t.vals) w)
  | _, _, _, _, 0, h => absurd h (Nat.not_lt_zero _)
  | .odd _, _, r, _, _ + 1, _ => by cases r
  | .lot ws, hs, _, _, n + 1, h => by
    show gOf 1 4 (m_listed (G n)) [(Th.lot ws).d] w = _
    simp [gOf, m_listed, mSeq, mIte, mRet, mBinT, mBin, bnd, getS, DL.ret, ixD, lft, Th.d, Th.vals, at0, at1, DL.eq_str, asB, mCons, mNil, listD, s1, s5]
  | .cnt k, hs, _, _, n + 1, h => by
    have hk : 2 ≤ k ∧ k ≤ 6 := hs
    have e0 : (-100000 : Int) ≤ 0 ∧ (0 : Int) ≤ 100000 ∧ -100000 ≤ k ∧ k ≤ 100000 := by omega
    show gOf 1 4 (m_listed (G n)) [(Th.cnt k).d] w = _
    simp [gOf, m_listed, mSeq, mIte, mRet, mBinT, mBin, bnd, getS, DL.ret, ixD, lft, Th.d, Th.vals, at0, at1, DL.eq_str, asB, mLRange1, nLr1, kInt, kLr, s2, s3, e0]
  | .pair a b, hs, r, hm, n + 1, h => by
    simp only [Th.deep] at h
    have na := a.num_le hs.1 (right_pair r).1 a.deep (Nat.le_refl _)
    have nb := b.num_le hs.2 (right_pair r).2 b.deep (Nat.le_refl _)
    have hm' : a.num * b.num ≤ 100000 := hm
    have l1 : a.num ≤ 100000 := Int.le_trans (by have := Int.mul_le_mul_of_nonneg_left nb.1 (show 0 ≤ a.num by omega); omega) hm'
    have l2 : b.num ≤ 100000 := Int.le_trans (by have := Int.mul_le_mul_of_nonneg_right na.1 (show 0 ≤ b.num by omega); omega) hm'
    have ea := listedOk w a hs.1 (right_pair r).1 l1 n (by omega)
    have eb := listedOk w b hs.2 (right_pair r).2 l2 n (by omega)
    have ln : ((a.vals.flatMap fun x => b.vals.map fun y => D.tup [x, y]).length : Int) ≤ 100000 := by
      have := (Th.pair a b).vals_len hs r
      have e : (Th.pair a b).num = a.num * b.num := rfl
      rw [e] at this
      show (((Th.pair a b).vals.length : Nat) : Int) ≤ _
      omega
    let T := (Th.pair a b).d
    obtain ⟨s', t', el⟩ := lc2_run (.val T) b.vals w a.vals .free .free
    let ρ1 : Rho := [.val T, .val (.lst b.vals), .free, .free]
    have c1 : mSet 1 (mCall 1 (G n .f_listed) (mCons (mBin ixD (getS 0) (DL.ret (.int 2))) mNil)) [.val T, .free, .free, .free] w = some (.ok .nx ρ1 w) := set_ok (ρ1 := [.val T, .free, .free, .free]) (call1 (a := b.d) (ρ1 := [.val T, .free, .free, .free]) (w1 := w) rfl eb)
    have c2 : (bnd (mCall 1 (G n .f_listed) (mCons (mBin ixD (getS 0) (DL.ret (.int 1))) mNil)) fun d => lft (itemsD d)) ρ1 w = some (.ok a.vals ρ1 w) := by
      rw [bnd_ok (call1 (a := a.d) (ρ1 := ρ1) (w1 := w) rfl ea)]
      rfl
    have c3 : mLc2 [2, 3] (bnd (mCall 1 (G n .f_listed) (mCons (mBin ixD (getS 0) (DL.ret (.int 1))) mNil)) fun d => lft (itemsD d)) (bName 2) (DL.ret true) (bnd (getS 1) fun d => lft (itemsD d)) [3] (bName 3) (DL.ret true) (mTup (mCons (getS 2) (mCons (getS 3) mNil))) ρ1 w = some (.ok (.lst (Th.pair a b).vals) ρ1 w) := by
      have g : nLc2 [2, 3] (bnd (mCall 1 (G n .f_listed) (mCons (mBin ixD (getS 0) (DL.ret (.int 1))) mNil)) fun d => lft (itemsD d)) (bName 2) (DL.ret true) (bnd (getS 1) fun d => lft (itemsD d)) [3] (bName 3) (DL.ret true) (mTup (mCons (getS 2) (mCons (getS 3) mNil))) ρ1 w = some (.ok (Th.pair a b).vals ρ1 w) := by
        unfold nLc2
        rw [bnd_ok c2]
        show (match lcLoop2 [2, 3] (bName 2) (DL.ret true) (bnd (getS 1) fun d => lft (itemsD d)) [3] (bName 3) (DL.ret true) (mTup (mCons (getS 2) (mCons (getS 3) mNil))) a.vals [.val T, .val (.lst b.vals), .free, .free] w with
          | some (ys, ρ', w') => if ys.length ≤ 100000 then some (Rs.ok ys (wipeR ρ' [2, 3]) w') else none
          | none => none) = _
        rw [el]
        dsimp only
        rw [if_pos (by omega)]
        rfl
      unfold mLc2
      rw [bnd_ok g]
      rfl
    refine gOf_rt (ρ' := ρ1) rfl ?_
    show m_listed (G n) [.val T, .free, .free, .free] w = _
    unfold m_listed
    refine seq_if (ρ' := [.val T, .free, .free, .free]) (w' := w) (by kernel_rfl) ?_
    rw [seq_nx c1]
    exact ret_ok c3
end KX
set_option Elab.async false
set_option linter.all false
set_option maxRecDepth 100000
set_option
      maxHeartbeats 4000000
/-! DQ9b: values and their places. -/
namespace KX
open PySem PyProof.Rows PySem.Spec L2 RZ StX DL
variable [Tbs] [Ca]
/-- a value's place -/
def pl : Th → D → Nat
  | .lot ws, .str x => ws.idxOf x
  | .cnt _, .int i => i.toNat
  | .pair a b, .tup [x, y] => pl a x * b.vals.length + pl b y
  | _, _ => 0
theorem flat_at (ys : List D) : ∀ (l : List D) (i j : Nat) (x y : D), l[i]? = some x → ys[j]? = some y → (l.flatMap fun x => ys.map fun y => D.tup [x, y])[i * ys.length + j]? = some (.tup [x, y])
  | [], i, _, _, _, h, _ => by simp at h
  | z :: l, 0, j, x, y, h, g => by
    cases h
    have jl : j < ys.length := (List.getElem?_eq_some_iff.mp g).1
    rw [List.flatMap_cons, Nat.zero_mul, Nat.zero_add, List.getElem?_append_left (by rw [List.length_map]; exact jl), List.getElem?_map, g]
    rfl
  | z :: l, i + 1, j, x, y, h, g => by
    have h' : l[i]? = some x := h
    rw [List.flatMap_cons, List.getElem?_append_right (by rw [List.length_map, Nat.succ_mul]; omega), List.length_map]
    have e : (i + 1) * ys.length + j - ys.length = i * ys.length + j := by rw [Nat.succ_mul]; omega
    rw [e]
    exact flat_at ys l i j x y h' g
theorem vals_pair {a b : Th} {k : Nat} {v : D} (h : (Th.pair a b).vals[k]? = some v) : ∃ (i j : Nat) (x y : D), k = i * b.vals.length + j ∧ a.vals[i]? = some x ∧ b.vals[j]? = some y ∧ v = .tup [x, y] := by
  have kl := (List.getElem?_eq_some_iff.mp h).1
  have kl2 : k < a.vals.length * b.vals.length := by
    have e : (Th.pair a b).vals.length = a.vals.length * b.vals.length := flat_len b.vals a.vals
    omega
  have nb : 0 < b.vals.length := by
    rcases Nat.eq_zero_or_pos b.vals.length with z | z
    · rw [z] at kl2; omega
    · exact z
  have il : k / b.vals.length < a.vals.length := (Nat.div_lt_iff_lt_mul nb).mpr kl2
  have jl : k % b.vals.length < b.vals.length := Nat.mod_lt _ nb
  have e : k / b.vals.length * b.vals.length + k % b.vals.length = k := by rw [Nat.mul_comm]; exact Nat.div_add_mod k b.vals.length
  have g1 : a.vals[k / b.vals.length]? = some (a.vals[k / b.vals.length]) := List.getElem?_eq_getElem il
  have g2 : b.vals[k % b.vals.length]? = some (b.vals[k % b.vals.length]) := List.getElem?_eq_getElem jl
  have f := flat_at b.vals a.vals _ _ _ _ g1 g2
  rw [e] at f
  refine ⟨_, _, _, _, e.symm, g1, g2, ?_⟩
  have h' : (a.vals.flatMap fun x => b.vals.map fun y => D.tup [x, y])[k]? = some v := h
  rw [f] at h'
  exact (Option.some.inj h').symm
theorem rgs_get (n k : Nat) (h : k < n) : (rgs 0 n)[k]? = some (.int (k : Nat)) := by
  simp [rgs, h]
/-- what stands at k is a value, and k its place -/
theorem val_at : ∀ (t : Th), t.ok → t.path = none → ∀ (k : Nat) (v : D), t.vals[k]? = some v → vp t v = none ∧ Pl v ∧ pl t v = k
  | .odd _, _, r, _, _, _ => by cases r
  | .lot ws, h, _, k, v, e => by
    have e : (ws.map D.str)[k]? = some v := e
    rw [List.getElem?_map] at e
    cases g : ws[k]? with
    | none => rw [g] at e; cases e
    | some x =>
      rw [g] at e
      cases e
      have m : x ∈ ws := List.mem_of_getElem? g
      refine ⟨if_pos m, .str x, ?_⟩
      show ws.idxOf x = k
      have kl := (List.getElem?_eq_some_iff.mp g)
      obtain ⟨kl, gx⟩ := kl
      have := h.nd.idxOf_getElem k kl
      rw [gx] at this
      exact this
  | .cnt c, h, _, k, v, e => by
    have e : (rgs 0 c.toNat)[k]? = some v := e
    have kl : k < c.toNat := by
      have := (List.getElem?_eq_some_iff.mp e).1
      simpa [rgs] using this
    rw [rgs_get _ _ kl] at e
    cases e
    refine ⟨if_pos ⟨by omega, by omega⟩, .int _, ?_⟩
    show ((k : Nat) : Int).toNat = k
    omega
  | .pair a b, h, r, k, v, e => by
    obtain ⟨i, j, x, y, ek, ea, eb, ev⟩ := vals_pair e
    subst ev
    obtain ⟨a1, a2, a3⟩ := val_at a h.1 (right_pair r).1 i x ea
    obtain ⟨b1, b2, b3⟩ := val_at b h.2 (right_pair r).2 j y eb
    refine ⟨?_, .tup _ fun z hz => ?_, ?_⟩
    · show (match vp a x with
        | some p => some (0 :: p)
        | none => (vp b y).map (1 :: ·)) = none
      rw [a1, b1]
      rfl
    · simp only [List.mem_cons, List.not_mem_nil, or_false] at hz
      rcases hz with z | z <;> subst z
      · exact a2
      · exact b2
    · show pl a x * b.vals.length + pl b y = k
      rw [a3, b3, ek]
/-- a value stands at its place -/
theorem at_val : ∀ (t : Th), t.ok → t.path = none → ∀ (v : D), vp t v = none → t.vals[pl t v]? = some v
  | .odd _, _, r, _, _ => by cases r
  | .lot ws, h, _, v, e => by
    cases v with
    | str x =>
      have e : (if x ∈ ws then none else some [] : Option (List Int)) = none := e
      have m : x ∈ ws := by
        by_cases q : x ∈ ws
        · exact q
        · rw [if_neg q] at e; cases e
      show (ws.map D.str)[ws.idxOf x]? = some (.str x)
      have il := List.idxOf_lt_length_of_mem m
      rw [List.getElem?_map, List.getElem?_eq_getElem il, List.getElem_idxOf il]
      rfl
    | _ => cases e
  | .cnt c, h, _, v, e => by
    cases v with
    | int i =>
      have e : (if 0 ≤ i ∧ i < c then none else some [] : Option (List Int)) = none := e
      have m : 0 ≤ i ∧ i < c := by
        by_cases q : 0 ≤ i ∧ i < c
        · exact q
        · rw [if_neg q] at e; cases e
      show (rgs 0 c.toNat)[i.toNat]? = some (.int i)
      rw [rgs_get _ _ (by omega)]
      have : ((i.toNat : Nat) : Int) = i := by omega
      rw [this]
    | _ => cases e
  | .pair a b, h, r, v, e => by
    cases v with
    | tup l =>
      rcases pair_cases l with ⟨x, y, rfl⟩ | q
      · have e : (match vp a x with
          | some p => some (0 :: p)
          | none => (vp b y).map (1 :: ·)) = none := e
        cases ha : vp a x with
        | some p => rw [ha] at e; cases e
        | none =>
          rw [ha] at e
          cases hb : vp b y with
          | some p => rw [hb] at e; cases e
          | none => exact flat_at b.vals a.vals _ _ x y (at_val a h.1 (right_pair r).1 x ha) (at_val b h.2 (right_pair r).2 y hb)
      · rw [vp_else q] at e
        cases e
    | _ => cases e
end KX
set_option Elab.async false
set_option linter.all false
set_option maxRecDepth 100000
set_option
      maxHeartbeats 4000000
/-! DQ10: place_in, index, and what the program answers of a value. -/
namespace KX
open PySem PyProof.Rows PySem.Spec L2 RZ StX DL
variable [Tbs] [Ca]
theorem dstrs_map : ∀ ws : List Str, dstrs (ws.map D.str) = some ws
  | [] => rfl
  | x :: ws => by
    show (dstrs (ws.map D.str)).map (fun l => x :: l) = _
    rw [dstrs_map ws]
    rfl
theorem firstAt_idx (x : Str) : ∀ ws : List Str, x ∈ ws → firstAt x ws = some (ws.idxOf x)
  | y :: ws, h => by
    unfold firstAt
    rw [List.idxOf_cons]
    by_cases e : y = x
    · subst e
      simp
    · have m : x ∈ ws := (List.mem_cons.mp h).resolve_left fun z => e z.symm
      have b : (y == x) = false := by
        simp only [beq_eq_false_iff_ne, ne_eq]
        exact e
      rw [if_neg e, firstAt_idx x ws m, b]
      rfl
theorem pl_lt {t : Th} (h : t.ok) (r : t.path = none) {v : D} (e : vp t v = none) : ((pl t v : Nat) : Int) < t.num := by
  have := (List.getElem?_eq_some_iff.mp (at_val t h r v e)).1
  have l := t.vals_len h r
  omega
theorem placeIn (w : Wo) : ∀ (t : Th), t.ok → t.path = none → t.deep ≤ 4 → ∀ (v : D), vp t v = none → ∀ n, t.deep < n → G n .f_place_in [t.d, v] w = some (.ok (.int (pl t v : Nat)) w)
  | _, _, _, _, _, _, 0, h => absurd h (Nat.not_lt_zero _)
  | .odd _, _, r, _, _, _, _ + 1, _ => by cases r
  | .lot ws, h, _, _, v, e, n + 1, _ => by
    cases v with
    | str x =>
      have e : (if x ∈ ws then none else some [] : Option (List Int)) = none := e
      have m : x ∈ ws := by
        by_cases q : x ∈ ws
        · exact q
        · rw [if_neg q] at e; cases e
      let ρ : Rho := [.val (Th.lot ws).d, .val (.str x)]
      refine gOf_rt (ρ' := ρ) rfl ?_
      show m_place_in (G n) ρ w = _
      unfold m_place_in
      rw [seq_el (ρ' := ρ) (w' := w) (by kernel_rfl)]
      refine seq_if (ρ' := ρ) (w' := w) (by kernel_rfl) (ret_ok ?_)
      show lft ((dstrs (ws.map D.str)).bind fun ys => (firstAt x ys).map fun j => D.int (j : Nat)) ρ w = _
      rw [dstrs_map]
      show lft ((firstAt x ws).map fun j => D.int (j : Nat)) ρ w = _
      rw [firstAt_idx x ws m]
      rfl
    | _ => cases e
  | .cnt c, h, _, _, v, e, n + 1, _ => by
    cases v with
    | int i =>
      have e : (if 0 ≤ i ∧ i < c then none else some [] : Option (List Int)) = none := e
      have m : 0 ≤ i ∧ i < c := by
        by_cases q : 0 ≤ i ∧ i < c
        · exact q
        · rw [if_neg q] at e; cases e
      have z : (((pl (.cnt c) (.int i)) : Nat) : Int) = i := by
        show ((i.toNat : Nat) : Int) = i
        omega
      rw [z]
      kernel_rfl
    | _ => cases e
  | .pair a b, h, r, hd, v, e, n + 1, hn => by
    simp only [Th.deep] at hn hd
    cases v with
    | tup l =>
      rcases pair_cases l with ⟨x, y, rfl⟩ | q
      · have e : (match vp a x with
          | some p => some (0 :: p)
          | none => (vp b y).map (1 :: ·)) = none := e
        cases ha : vp a x with
        | some p => rw [ha] at e; cases e
        | none =>
          rw [ha] at e
          cases hb : vp b y with
          | some p => rw [hb] at e; cases e
          | none =>
            have ea := placeIn w a h.1 (right_pair r).1 (by omega) x ha n (by omega)
            have eb := placeIn w b h.2 (right_pair r).2 (by omega) y hb n (by omega)
            have ec := countOf w b h.2 (right_pair r).2 (by omega) n (by omega)
            have la := pl_lt h.1 (right_pair r).1 ha
            have na := a.num_le h.1 (right_pair r).1 4 (by omega)
            have n6 : ((6 ^ (2 ^ 4) : Nat) : Int) = 2821109907456 := by decide
            have ib : inB ((pl a x : Nat) : Int) = true := by
              unfold inB
              rw [Bool.and_eq_true,
                    decide_eq_true_eq, decide_eq_true_eq]
              omega
            have lb := b.vals_len h.2 (right_pair r).2
            let ρ : Rho := [.val (Th.pair a b).d, .val (.tup [x, y])]
            refine gOf_rt (ρ' := ρ) rfl ?_
            show m_place_in (G n) ρ w = _
            unfold m_place_in
            refine seq_if (ρ' := ρ) (w' := w) (by kernel_rfl) (ret_ok ?_)
            have c1 : mCall 2 (G n .f_place_in) (mCons (mBin ixD (getS 0) (DL.ret (.int 1))) (mCons (mBin ixD (getS 1) (DL.ret (.int 0))) mNil)) ρ w = some (.ok (.int (pl a x : Nat)) ρ w) := call2 (a := a.d) (b := x) (ρ1 := ρ) (ρ2 := ρ) (w1 := w) (w2 := w) rfl rfl ea
            have c2 : mCall 1 (G n .f_count_of) (mCons (mBin ixD (getS 0) (DL.ret (.int 2))) mNil) ρ w = some (.ok (.int b.num) ρ w) := call1 (a := b.d) (ρ1 := ρ) (w1 := w) rfl ec
            have c3 : mCall 2 (G n .f_place_in) (mCons (mBin ixD (getS 0) (DL.ret (.int 2))) (mCons (mBin ixD (getS 1) (DL.ret (.int 1))) mNil)) ρ w = some (.ok (.int (pl b y : Nat)) ρ w) := call2 (a := b.d) (b := y) (ρ1 := ρ) (ρ2 := ρ) (w1 := w) (w2 := w) rfl rfl eb
            have mu : mulD (.int (pl a x : Nat)) (.int b.num) = some (.int (((pl a x : Nat) : Int) * b.num)) := by simp [mulD, ib]
            refine bin_ok (bin_ok c1 c2 mu) c3 ?_
            show some (D.int (((pl a x : Nat) : Int) * b.num + ((pl b y : Nat) : Int))) = _
            have z : ((pl (.pair a b) (.tup [x, y]) : Nat) : Int) = ((pl a x : Nat) : Int) * b.num + ((pl b y : Nat) : Int) := by
              show ((pl a x * b.vals.length + pl b y : Nat) : Int) = _
              rw [Int.natCast_add, Int.natCast_mul, lb]
            rw [z]
      · rw [vp_else q] at e
        cases e
    | _ => cases e
end KX
set_option Elab.async false
set_option linter.all false
set_option maxRecDepth 100000
set_option
      maxHeartbeats 4000000
namespace KX
open PySem PyProof.Rows PySem.Spec L2 RZ StX DL
variable [Tbs] [Ca]
theorem manyRun (t : Th) (h : t.ok) (hd : t.deep ≤ 5) (n : Nat) (hn : 16 ≤ n) (w : Wo) : G (n + 2) .f_many [t.d] w = match t.due with
    | none => some (.ok (.int t.num) w)
    | some p => some (.exc ⟨.ref Ca.a_BadType, ["path"], [pathD p]⟩ w) := by
  have e := checkRun t h hd n hn w
  have run : m_many (G (n + 1)) [.val t.d] w = match t.due with
      | none => some (.ok (.rt (.int t.num)) [.val t.d] w)
      | some p => some (.exc ⟨.ref Ca.a_BadType, ["path"], [pathD p]⟩ [.val t.d] w) := by
    unfold m_many
    cases hp : t.due with
    | none =>
      rw [hp] at e
      have r := (due_none hp).1
      rw [seq_nx (ρ' := [.val t.d]) (w' := w) (by
        unfold mDrop
        rw [bnd_ok (call1 (a := t.d) (ρ1 := [.val t.d]) (w1 := w) rfl e)]
        rfl)]
      exact ret_ok (call1 (a := t.d) (ρ1 := [.val t.d]) (w1 := w) rfl (countOf w t h r hd (n + 1) (by omega)))
    | some p =>
      rw [hp] at e
      unfold mSeq mDrop
      rw [bnd_exc (bnd_exc (call1_exc (a := t.d) (ρ1 := [.val t.d]) (w1 := w) rfl e))]
  show (match m_many (G (n + 1)) [.val t.d] w with
    | some (.ok .nx _ w') => some (Fr.ok .non w')
    | some (.ok (.rt d) _ w') => some (.ok d w')
    | some (.exc x _ w') => some (.exc x w')
    | _ => none) = _
  rw [run]
  cases t.due <;> rfl
theorem valuesRun (t : Th) (h : t.ok) (hd : t.deep ≤ 5) (n : Nat) (hn : 16 ≤ n) (w : Wo) : G (n + 2) .f_values_of [t.d] w = match t.due with
    | none => some (.ok (.lst t.vals) w)
    | some p => some (.exc ⟨.ref Ca.a_BadType, ["path"], [pathD p]⟩ w) := by
  have e := checkRun t h hd n hn w
  have run : m_values_of (G (n + 1)) [.val t.d] w = match t.due with
      | none => some (.ok (.rt (.lst t.vals)) [.val t.d] w)
      | some p => some (.exc ⟨.ref Ca.a_BadType, ["path"], [pathD p]⟩ [.val t.d] w) := by
    unfold m_values_of
    cases hp : t.due with
    | none =>
      rw [hp] at e
      obtain ⟨r, _, r2⟩ := due_none hp
      rw [seq_nx (ρ' := [.val t.d]) (w' := w) (by
        unfold mDrop
        rw [bnd_ok (call1 (a := t.d) (ρ1 := [.val t.d]) (w1 := w) rfl e)]
        rfl)]
      exact ret_ok (call1 (a := t.d) (ρ1 := [.val t.d]) (w1 := w) rfl (listedOk w t h r (by omega) (n + 1) (by omega)))
    | some p =>
      rw [hp] at e
      unfold mSeq mDrop
      rw [bnd_exc (bnd_exc (call1_exc (a := t.d) (ρ1 := [.val t.d]) (w1 := w) rfl e))]
  show (match m_values_of (G (n + 1)) [.val t.d] w with
    | some (.ok .nx _ w') => some (Fr.ok .non w')
    | some (.ok (.rt d) _ w') => some (.ok d w')
    | some (.exc x _ w') => some (.exc x w')
    | _ => none) = _
  rw [run]
  cases t.due <;> rfl
theorem call3' {g : Fn1} {a b c d : D} {ρ : Rho} {w w' : Wo} {i j : Nat} {m3 : M D} (e : g [a, b, c] w = some (.ok d w')) (h1 : getS i ρ w = some (.ok a ρ w) := by rfl) (h2 : getS j ρ w = some (.ok b ρ w) := by rfl) (h3 : m3 ρ w = some (.ok c ρ w) := by rfl) : mCall 3 g (mCons (getS i) (mCons (getS j) (mCons m3 mNil))) ρ w = some (.ok d ρ w') := by
  unfold mCall
  rw [bnd_ok (cons_ok h1 (cons_ok h2 (cons_ok h3 rfl)))]
  show (match g [a, b, c] w with
    | some (.ok d w') => some (Rs.ok d ρ w')
    | some (.exc x w') => some (.exc x ρ w')
    | none => none) = _
  rw [e]
def badV (p : List Int) : Xc := ⟨.ref Ca.a_BadValue, ["path"], [pathD p]⟩
theorem none_pre (o : Option (List Int)) : o.map (([] : List Int) ++ ·) = o := by cases o <;> rfl
theorem valueFault {t : Th} (r : t.path = none) (hd : t.deep ≤ 5) {d : D} (h : Pl d) (n : Nat) (hn : 10 ≤ n) (w : Wo) : G n .f_value_fault [t.d, d] w = some (.ok (optD (vp t d)) w) := by
  obtain ⟨n, rfl⟩ : ∃ m, n =
        m + 1 := ⟨n - 1, by omega⟩
  have e := partFault t r d h n (by omega) [] (by simp only [List.length_nil]; omega) w
  rw [none_pre] at e
  let ρ : Rho := [.val t.d, .val d]
  refine gOf_rt (ρ' := ρ) rfl ?_
  show m_value_fault (G n) ρ w = _
  unfold m_value_fault
  exact ret_ok (call3' e)
theorem checkOk {t : Th} (h : t.ok) (hd : t.deep ≤ 5) (hs : t.due = none) (n : Nat) (hn : 17 ≤ n) (w : Wo) : G n .f_check_type [t.d] w = some (.ok .non w) := by
  obtain ⟨n, rfl⟩ : ∃ m, n =
        m + 1 := ⟨n - 1, by omega⟩
  have e := checkRun t h hd n (by omega) w
  rw [hs] at e
  exact e
theorem drop_check {t : Th} (h : t.ok) (hd : t.deep ≤ 5) (hs : t.due = none) (n : Nat) (hn : 17 ≤ n) {w : Wo} {ρ : Rho} (hg : getS 0 ρ w = some (.ok t.d ρ w)) : mDrop (mCall 1 (G n .f_check_type) (mCons (getS 0) mNil)) ρ w = some (.ok .nx ρ w) := by
  unfold mDrop
  rw [bnd_ok (call1 hg (checkOk h hd hs n hn w))]
  rfl
theorem isValue {t : Th} (h : t.ok) (hd : t.deep ≤ 4) (hs : t.due = none) {d : D} (hp : Pl d) (n : Nat) (hn : 19 ≤ n) (w : Wo) : G n .f_is_value [t.d, d] w = some (.ok (.bl (vp t d).isNone) w) := by
  obtain ⟨n, rfl⟩ : ∃ m, n =
        m + 1 := ⟨n - 1, by omega⟩
  let ρ : Rho := [.val t.d, .val d]
  refine gOf_rt (ρ' := ρ) rfl ?_
  show m_is_value (G n) ρ w = _
  unfold m_is_value
  rw [seq_nx (drop_check h (by omega) hs n (by omega) (ρ := ρ) rfl)]
  exact ret_ok (bin_ok (b := .non) (call2 (a := t.d) (b := d) (ρ1 := ρ) (ρ2 := ρ) (w1 := w) (w2 := w) rfl rfl (valueFault (due_none hs).1 (by omega) hp n (by omega) w)) rfl (isf_opt _))
theorem valueAt {t : Th} (h : t.ok) (hd : t.deep ≤ 4) (hs : t.due = none) {k : Nat} {v : D} (hv : t.vals[k]? = some v) (n : Nat) (hn : 19 ≤ n) (w : Wo) : G n .f_value_at [t.d, .int (k : Nat)] w = some (.ok v w) := by
  obtain ⟨n, rfl⟩ : ∃ m, n =
        m + 1 := ⟨n - 1, by omega⟩
  obtain ⟨r, _, q⟩ := due_none hs
  let ρ : Rho := [.val t.d, .val (.int (k : Nat))]
  refine gOf_rt (ρ' := ρ) rfl ?_
  show m_value_at (G n) ρ w = _
  unfold m_value_at
  rw [seq_nx (drop_check h (by omega) hs n (by omega) (ρ := ρ) rfl)]
  refine ret_ok (bin_ok (a := .lst t.vals) (b := .int (k : Nat)) (call1 (a := t.d) (ρ1 := ρ) (w1 := w) rfl (listedOk w t h r (by omega) n (by omega))) rfl ?_)
  exact atI_nat hv
theorem placeOf {t : Th} (h : t.ok) (hd : t.deep ≤ 4) (hs : t.due = none) {d : D} (hp : Pl d) (n : Nat) (hn : 19 ≤ n) (w : Wo) : G (n + 1) .f_place_of [t.d, d] w = match vp t d with
    | none => some (.ok (.int (pl t d : Nat)) w)
    | some p => some (.exc (badV p) w) := by
  obtain ⟨r, _, q⟩ := due_none hs
  have ev := valueFault r (by omega) hp n (by omega) w
  let ρ : Rho := [.val t.d, .val d, .free]
  let ρ1 : Rho := [.val t.d, .val d, .val (optD (vp t d))]
  have st : mSet 2 (mCall 2 (G n .f_value_fault) (mCons (getS 0) (mCons (getS 1) mNil))) ρ w = some (.ok .nx ρ1 w) := set_ok (i := 2) (ρ1 := ρ) (call2 (a := t.d) (b := d) (ρ1 := ρ) (ρ2 := ρ) (w1 := w) (w2 := w) rfl rfl ev)
  have g2 : getS 2 ρ1 w = some (.ok (optD (vp t d)) ρ1 w) := rfl
  have run : m_place_of n (G n) ρ w = match vp t d with
      | none => some (.ok (.rt (.int (pl t d : Nat))) ρ1 w)
      | some p => some (.exc (badV p) ρ1 w) := by
    unfold m_place_of
    rw [seq_nx (drop_check h (by omega) hs n (by omega) (ρ := ρ) rfl), seq_nx st]
    cases e : vp t d with
    | none =>
      rw [e] at g2
      rw [seq_el (ρ' := ρ1) (w' := w) (binT_ok (b := .non) g2 rfl rfl)]
      exact ret_ok (call2 (a := t.d) (b := d) (ρ1 := ρ1) (ρ2 := ρ1) (w1 := w) (w2 := w) rfl rfl (placeIn w t h r hd d e n (by omega)))
    | some p =>
      rw [e] at g2
      have pl_ := vp_len t d p e
      have c := copOk p (by omega) w
      have ra : mRaiseL 5 n (.ref Ca.a_BadValue) "path" (gcop 3) (mCons (getS 2) mNil) ρ1 w = some (.exc (badV p) ρ1 w) := by
        unfold mRaiseL
        rw [if_pos (by omega)]
        unfold mRaise
        rw [bnd_ok (cons_ok g2 rfl)]
        show (match gcop 3 [pathD p] w with
          | some (.ok y w') => some (Rs.exc ⟨.ref Ca.a_BadValue, ["path"], [y]⟩ ρ1 w')
          | _ => none) = _
        rw [c]
        rfl
      have t0 : mBinT (isN true) (getS 2) (DL.ret .non) ρ1 w = some (.ok true ρ1 w) := binT_ok (b := .non) g2 rfl rfl
      have it : mIte (mBinT (isN true) (getS 2) (DL.ret .non)) (mRaiseL 5 n (.ref Ca.a_BadValue) "path" (gcop 3) (mCons (getS 2) mNil)) (DL.ret .nx) ρ1 w = some (.exc (badV p) ρ1 w) := (ite_run t0).trans ra
      unfold mSeq
      rw [bnd_exc it]
  show (match m_place_of n (G n) ρ w with
    | some (.ok .nx _ w') => some (Fr.ok .non w')
    | some (.ok (.rt d) _ w') => some (.ok d w')
    | some (.exc x _ w') => some (.exc x w')
    | _ => none) = _
  rw [run]
  cases vp t d <;> rfl
end KX
set_option Elab.async false
set_option linter.all false
set_option maxRecDepth 100000
set_option
      maxHeartbeats 4000000
/-! DQ12: what repr shows of values; equal values; odd things drawn. -/
namespace KX
open PySem PyProof.Rows PySem.Spec L2 RZ StX DL
variable [Tbs] [Ca]
/-! ### shown -/
theorem str_len_app (x y : Str) : (x ++ y).length = x.length + y.length := by
  show (x.cps ++ y.cps).size = _
  rw [Array.size_append]
  rfl
theorem from_len (m : Nat) : ∀ (ts : List Str) (k : Nat) (acc : Str), (∀ t ∈ ts, t.length ≤ m) → (textFrom k acc ts).length ≤ acc.length + ts.length * (m + 2)
  | [], _, acc, _ => by show acc.length ≤ acc.length + 0 * _; omega
  | t :: ts, k, acc, h => by
    have a := from_len m ts (k + 1) (acc ++ (if k > 0 then ", " else "" : String) ++ t) fun u hu => h u (List.mem_cons_of_mem _ hu)
    have b := h t List.mem_cons_self
    have c : (Str.ofString (if k > 0 then ", " else "" : String)).length ≤ 2 := by split <;> decide +kernel
    show (textFrom (k + 1) (acc ++ (if k > 0 then ", " else "" : String) ++ t) ts).length ≤ _
    rw [str_len_app, str_len_app] at a
    rw [List.length_cons, Nat.succ_mul]
    omega
theorem from_ok : ∀ (ts : List Str) (k : Nat) (acc : Str), PyData.strOk acc = true → (∀ t ∈ ts, PyData.strOk t = true) → PyData.strOk (textFrom k acc ts) = true
  | [], _, _, h, _ => h
  | t :: ts, k, acc, h, g => from_ok ts (k + 1) _ (strOk_app (strOk_app h (by split <;> decide +kernel)) (g t List.mem_cons_self)) fun u hu => g u (List.mem_cons_of_mem _ hu)
theorem nc_list {ps : List PyData} {m : Nat} (h : ∀ p ∈ ps, Nc p m) : Nc (.list ps) (ps.length * (m + 2) + 3) := by
  have em : PyData.shownAll ps = ps.map (·.shown) := shownAll_eq_map ps
  have es : (PyData.list ps).shown = listText (ps.map (·.shown)) := by
    rw [← em]
    rfl
  have hm : ∀ t ∈ ps.map (·.shown), t.length ≤ m := fun t ht => by
    obtain ⟨p, hp, e⟩ := List.mem_map.mp ht
    rw [← e]
    exact (h p hp).len
  have l1 : (Str.ofString "[").length = 1 := by decide +kernel
  have l2 : (Str.ofString "]").length = 1 := by decide +kernel
  refine ⟨show_all ps fun p hp => (h p hp).sh, ?_, ?_⟩
  · rw [es]
    unfold listText
    rw [str_len_app, l2]
    have a := from_len m (ps.map (·.shown)) 0 "[" hm
    rw [l1, List.length_map] at a
    omega
  · rw [es]
    unfold listText
    refine strOk_app (from_ok _ _ _ (by decide +kernel) fun t ht => ?_) (by decide +kernel)
    obtain ⟨p, hp, e⟩ := List.mem_map.mp ht
    rw [← e]
    exact (h p hp).ok
theorem toPs_map : ∀ l : List D, toPs l = l.map toP
  | [] => rfl
  | x :: l => by
    show toP x :: toPs l = _
    rw [toPs_map l]
    rfl
theorem dats_all (n : Nat) : ∀ l : List D, (∀ x ∈ l, DL.dat n x = true) → dats n l = true
  | [], _ => by simp [dats]
  | x :: l, h => by simp [dats, h x List.mem_cons_self, dats_all n l fun y hy => h y (List.mem_cons_of_mem _ hy)]
theorem KP_list {n m : Nat} {l : List D} (h : ∀ v ∈ l, KP n m v) : KP (n + 1) (l.length * (m + 2) + 3) (.lst l) := by
  refine ⟨by simp only [DL.dat]; exact dats_all n l fun v hv => (h v hv).dat, ?_⟩
  show Nc (.list (toPs l)) _
  rw [toPs_map]
  have := nc_list (ps := l.map toP) (m := m) fun p hp => by
    obtain ⟨v, hv, e⟩ := List.mem_map.mp hp
    subst e
    exact (h v hv).nc
  rwa [List.length_map] at this
theorem two_KP {n m : Nat} {a b : D} (ha : KP n m a) (hb : KP n m b) : KP (n + 1) (2 * (m + 2) + 3) (.tup [a, b]) := by
  refine ⟨by simp [DL.dat, dats, ha.dat, hb.dat], ?_⟩
  show Nc (.tuple [toP a, toP b]) _
  refine nc_tuple fun p hp => ?_
  simp only [List.mem_cons, List.not_mem_nil, or_false] at hp
  rcases hp with e | e
  · subst e; exact ha.nc
  · subst e; exact hb.nc
theorem two_KE {n m : Nat} {a b : D} (ha : datE n a = true ∧ Nc (toPE a) m) (hb : datE n b = true ∧ Nc (toPE b) m) : KE (n + 1) (2 * (m + 2) + 3) (.tup [a, b]) := by
  refine ⟨by simp [datE, datsE, ha.1, hb.1], rfl, ?_⟩
  show Nc (.tuple [toPE a, toPE b]) _
  refine nc_tuple fun p hp => ?_
  simp only [List.mem_cons, List.not_mem_nil, or_false] at hp
  rcases hp with e | e
  · subst e; exact ha.2
  · subst e; exact hb.2
theorem lim_two (k : Nat) : 2 * (lim k + 2) + 3 ≤ lim (k + 1) := by
  show _ ≤ 3 * (lim k + 2) + 3
  omega
/-- a value is both -/
theorem val_K : ∀ (t : Th), t.ok → t.path = none → ∀ v, vp t v = none → KP (t.deep + 1) (lim t.deep) v ∧ (datE (t.deep + 1) v = true ∧ Nc (toPE v) (lim t.deep))
  | .odd _, _, r, _, _ => by cases r
  | .lot ws, h, _, v, e => by
    cases v with
    | str x =>
      have e : (if x ∈ ws then none else some [] : Option (List Int)) = none := e
      have m : x ∈ ws := by
        by_cases q : x ∈ ws
        · exact q
        · rw [if_neg q] at e; cases e
      have nc := (word_nc x (h.mem x m)).mono (show 12 ≤ lim 0 by decide)
      exact ⟨⟨rfl, nc⟩, rfl, nc⟩
    | _ => cases e
  | .cnt c, h, _, v, e => by
    cases v with
    | int i =>
      have e : (if 0 ≤ i ∧ i < c then none else some [] : Option (List Int)) = none := e
      have h1 : 2 ≤ c ∧ c ≤ 6 := h
      have m : 0 ≤ i ∧ i < c := by
        by_cases q : 0 ≤ i ∧ i < c
        · exact q
        · rw [if_neg q] at e; cases e
      have c : i = 0 ∨ i = 1 ∨ i = 2 ∨ i = 3 ∨ i = 4 ∨ i = 5 := by omega
      have nc : Nc (.int i) (lim 0) := by
        rcases c with c | c | c | c | c | c <;> subst c <;> exact nc_by (by decide +kernel)
      exact ⟨⟨rfl, nc⟩, rfl, nc⟩
    | _ => cases e
  | .pair a b, h, r, v, e => by
    cases v with
    | tup l =>
      rcases pair_cases l with ⟨x, y, rfl⟩ | q
      · have e : (match vp a x with
          | some p => some (0 :: p)
          | none => (vp b y).map (1 :: ·)) = none := e
        cases ha : vp a x with
        | some p => rw [ha] at e; cases e
        | none =>
          rw [ha] at e
          cases hb : vp b y with
          | some p => rw [hb] at e; cases e
          | none =>
            obtain ⟨a1, a2, a3⟩ := val_K a h.1 (right_pair r).1 x ha
            obtain ⟨b1, b2, b3⟩ := val_K b h.2 (right_pair r).2 y hb
            have la : a.deep ≤ max a.deep b.deep := Nat.le_max_left _ _
            have lb : b.deep ≤ max a.deep b.deep := Nat.le_max_right _ _
            have lt := lim_two (max a.deep b.deep)
            have k := two_KP (n := max a.deep b.deep + 1) (m := lim (max a.deep b.deep)) ⟨dat_to a1.dat (by omega), a1.nc.mono (lim_mono la)⟩ ⟨dat_to b1.dat (by omega), b1.nc.mono (lim_mono lb)⟩
            have k2 := two_KE (n := max a.deep b.deep + 1) (m := lim (max a.deep b.deep)) ⟨datE_to a2 (by omega), a3.mono (lim_mono la)⟩ ⟨datE_to b2 (by omega), b3.mono (lim_mono lb)⟩
            exact ⟨⟨k.dat, k.nc.mono lt⟩, k2.dat, k2.nc.mono lt⟩
      · rw [vp_else q] at e
        cases e
    | _ => cases e
/-! ### equal values -/
theorem deq_val : ∀ (t : Th), t.ok → t.path = none → ∀ u v, vp t u = none → vp t v = none → (deq u v = true ↔ u = v)
  | .odd _, _, r, _, _, _, _ => by cases r
  | .lot ws, _, _, u, v, e, g => by
    cases u with
    | str x =>
      cases v with
      | str y =>
        show (x == y) = true ↔ _
        rw [beq_iff_eq]
        exact ⟨fun z => by rw [z], fun z => by cases z; rfl⟩
      | _ => cases g
    | _ => cases e
  | .cnt c, _, _, u, v, e, g => by
    cases u with
    | int x =>
      cases v with
      | int y =>
        show (x == y) = true ↔ _
        rw [beq_iff_eq]
        exact ⟨fun z => by rw [z], fun z => by cases z; rfl⟩
      | _ => cases g
    | _ => cases e
  | .pair a b, h, r, u, v, e, g => by
    have split_ : ∀ w, vp (.pair a b) w = none → ∃ x y, w = .tup [x, y] ∧ vp a x = none ∧ vp b y = none := fun w e => by
      cases w with
      | tup l =>
        rcases pair_cases l with ⟨x, y, rfl⟩ | q
        · have e : (match vp a x with
            | some p => some (0 :: p)
            | none => (vp b y).map (1 :: ·)) = none := e
          cases ha : vp a x with
          | some p => rw [ha] at e; cases e
          | none =>
            rw [ha] at e
            cases hb : vp b y with
            | some p => rw [hb] at e; cases e
            | none => exact ⟨x, y, rfl, ha, hb⟩
        · rw [vp_else q] at e
          cases e
      | _ => cases e
    obtain ⟨x, y, rfl, x1, y1⟩ := split_ u e
    obtain ⟨x', y', rfl, x2, y2⟩ := split_ v g
    have ix := deq_val a h.1 (right_pair r).1 x x' x1 x2
    have iy := deq_val b h.2 (right_pair r).2 y y' y1 y2
    show (deqs [x, y] [x', y']) = true ↔ _
    simp only [deqs, Bool.and_eq_true, Bool.and_true, ix, iy]
    constructor
    · rintro ⟨rfl, rfl⟩
      rfl
    · intro z
      cases z
      exact ⟨rfl, rfl⟩
theorem firstEq_of {z : D} : ∀ (ys : List D) (j : Nat) (y : D), ys[j]? = some y → deq y z = true → (∀ m y', m < j → ys[m]? = some y' → deq y' z = false) → firstEq z ys = some j
  | [], j, y, h, _, _ => by simp at h
  | u :: ys, 0, y, h, e, _ => by
    cases h
    unfold firstEq
    rw [if_pos e]
  | u :: ys, j + 1, y, h, e, g => by
    unfold firstEq
    have f := g 0 u (Nat.succ_pos j) rfl
    rw [if_neg (by rw [f]; decide), firstEq_of ys j y h e fun m y' hm hy => g (m + 1) y' (Nat.succ_lt_succ hm) hy]
    rfl
theorem first_pl {t : Th} (h : t.ok) (r : t.path = none) {v : D} (e : vp t v = none) : firstEq v t.vals = some (pl t v) := by
  refine firstEq_of t.vals (pl t v) v (at_val t h r v e) ((deq_val t h r v v e e).mpr rfl) fun m y hm hy => ?_
  obtain ⟨y1, _, y3⟩ := val_at t h r m y hy
  cases q : deq y v with
  | false => rfl
  | true =>
    have := (deq_val t h r y v y1 e).mp q
    subst this
    omega
end KX
set_option Elab.async false
set_option linter.all false
set_option maxRecDepth 100000
set_option
      maxHeartbeats 4000000
/-! DQ13: odd things drawn; small types drawn. -/
namespace KX
open PySem PyProof.Rows PySem.Spec L2 RZ StX DL
variable [Tbs] [Ca]
structure Bt (k : Nat) (d : D) : Prop where
  pl : Pl d
  knd : KP (k + 4) (lim (k + 1)) d ∨ KE (k + 4) (lim (k + 1)) d
def odd16 : List D := [.non, .bl true, .bl false, .int (-1), .int 6, .str "A", .str "", .tup [], .lst [], .dct [] [], .tup [.str "a"], .lst [.str "a", .int 0], .tup [.int 0, .int 0, .int 0], .str "0", .int 1, .str "yes"]
theorem odd16_K : ∀ d ∈ odd16, KP 4 (lim 1) d ∨ KE 4 (lim 1) d := fun d hd => by
  have h : (odd16.all fun d => (DL.dat 4 d && ncB (toP d) (lim 1)) || (datE 4 d && refE d && ncB (toPE d) (lim 1))) = true := by decide +kernel
  have :=
        List.all_eq_true.mp h d hd
  rw [Bool.or_eq_true, Bool.and_eq_true, Bool.and_eq_true, Bool.and_eq_true] at this
  rcases this with ⟨a, b⟩ | ⟨⟨a, b⟩, c⟩
  · exact .inl ⟨a, nc_by b⟩
  · exact .inr ⟨a, b, nc_by c⟩
theorem odd16_P : ∀ d ∈ odd16, Pl d := fun d hd => by
  simp only [odd16, List.mem_cons, List.not_mem_nil, or_false] at hd
  rcases hd with h | h | h | h | h | h | h | h | h | h | h | h | h | h | h | h <;> subst h
  · exact .non
  · exact .bl _
  · exact .bl _
  · exact .int _
  · exact .int _
  · exact .str _
  · exact .str _
  · exact .tup _ fun x hx => by cases hx
  · exact .lst _
  · exact .dct
  · refine .tup _ fun x hx => ?_
    obtain rfl := List.mem_singleton.mp hx
    exact .str _
  · exact .lst _
  · refine .tup _ fun x hx => ?_
    simp only [List.mem_cons, List.not_mem_nil, or_false, or_self] at hx
    subst hx
    exact .int _
  · exact .str _
  · exact .int _
  · exact .str _
theorem odd16_B (k : Nat) : ∀ d ∈ odd16, Bt k d := fun d hd => by
  have l := lim_mono (show 1 ≤ k + 1 by omega)
  refine ⟨odd16_P d hd, ?_⟩
  rcases odd16_K d hd with a | a
  · exact .inl ⟨dat_to a.dat (by omega), a.nc.mono l⟩
  · exact .inr ⟨datE_to a.dat (by omega), a.ref, a.nc.mono l⟩
theorem two_P {a b : D} (ha : Pl a) (hb : Pl b) : Pl (.tup [a, b]) := .tup _ fun x hx => by
  simp only [List.mem_cons,
        List.not_mem_nil, or_false] at hx
  rcases hx with h | h <;> subst h
  · exact ha
  · exact hb
theorem val_P {t : Th} (h : t.ok) (r : t.path = none) {v : D} (e : vp t v = none) : Pl v := (val_at t h r _ v (at_val t h r v e)).2.1
theorem same_B {t : Th} (h : t.ok) (r : t.path = none) {v : D} (e : vp t v = none) : Bt t.deep (.tup [v, v]) := by
  obtain ⟨k, _⟩ := val_K t h r v e
  have z := two_KP k k
  exact ⟨two_P (val_P h r e) (val_P h r e), .inl ⟨dat_to z.dat (by omega), z.nc.mono (lim_two _)⟩⟩
def oddT (G : Fn → Fn1) : M Fl := (mSeq (mSet 3 (mLst (mCons (DL.ret .non) (mCons (DL.ret (.bl true)) (mCons (DL.ret (.bl false)) (mCons (mNeg (DL.ret (.int 1))) (mCons (DL.ret (.int 6)) (mCons (DL.ret (.str "A")) (mCons (DL.ret (.str "")) (mCons (mTup mNil) (mCons (mLst mNil) (mCons (DL.ret (.dct [] [])) (mCons (mTup (mCons (DL.ret (.str "a")) mNil)) (mCons (mLst (mCons (DL.ret (.str "a")) (mCons (DL.ret (.int 0)) mNil))) (mCons (mTup (mCons (DL.ret (.int 0)) (mCons (DL.ret (.int 0)) (mCons (DL.ret (.int 0)) mNil)))) (mCons (DL.ret (.str "0")) (mCons (DL.ret (.int 1)) (mCons (DL.ret (.str "yes")) (mCons (mTup (mCons (getS 2) (mCons (getS 2) mNil))) mNil))))))))))))))))))) (mRet (mBin ixD (getS 3) (mCall 2 (G .f__law_pick) (mCons (getS 0) (mCons (DL.ret (.int 17)) mNil))))))
theorem tail_run (sa ca : Addr) (n : Nat) {t : Th} (h : t.ok) (r : t.path = none) {v : D} (e : vp t v = none) {s : Src} (hs : Sok sa ca s) : ∃ (d : D) (s' : Src) (ρ' : Rho), Sok sa ca s' ∧ Bt t.deep d ∧ oddT (G (n + 1)) [.val (.raw (.ref sa)), .val t.d, .val v, .free, .free, .free] (some s) = some (.ok (.rt d) ρ' (some s')) := by
  let L : List D := odd16 ++ [.tup [v, v]]
  let ρ : Rho := [.val (.raw (.ref sa)), .val t.d, .val v, .free, .free, .free]
  let ρ1 : Rho := [.val (.raw (.ref sa)), .val t.d, .val v, .val (.lst L), .free, .free]
  obtain ⟨k, s1, hs1, hk, e1⟩ := int_pick (pickG sa ca n) 17 (by decide) (by decide) hs
  have hl : L.length = 17 := rfl
  have g : L[k]? = some L[k] := List.getElem?_eq_getElem (by omega)
  have m : L[k] ∈ L := List.getElem_mem _
  refine ⟨L[k], s1, ρ1, hs1, ?_, ?_⟩
  · rcases List.mem_append.mp m with q | q
    · exact odd16_B _ _ q
    · rw [List.mem_singleton.mp q]
      exact same_B h r e
  · show oddT (G (n + 1)) ρ (some s) = _
    unfold oddT
    rw [seq_nx (ρ' := ρ1) (w' := some s) (by kernel_rfl)]
    exact ret_ok (bin_ok (a := .lst L) (b := .int (k : Nat)) (ρ1 := ρ1) (w1 := some s) rfl (call2 (a := .raw (.ref sa)) (b := .int 17) (ρ1 := ρ1) (ρ2 := ρ1) (w1 := some s) (w2 := some s) rfl rfl e1) (atI_nat g))
theorem odd_spec (sa ca : Addr) : ∀ (t : Th), t.ok → t.path = none → ∀ v, vp t v = none → ∀ n, t.deep + 3 ≤ n → Gives sa ca (G n .f__law_odd_value) [.raw (.ref sa), t.d, v] (Bt t.deep)
  | .odd _, _, r, _, _, _, _ => by cases r
  | .lot ws, h, r, v, e, n, hn => fun s hs => by
    obtain ⟨n, rfl⟩ : ∃ m, n = m + 1 + 1 := ⟨n - 2, by omega⟩
    obtain ⟨d, s', ρ', hs', b, run⟩ := tail_run sa ca n h r e hs
    refine ⟨d, s', hs', b, gOf_rt (ρ' := ρ') rfl ?_⟩
    show m__law_odd_value (G (n + 1)) [.val (.raw (.ref sa)), .val (Th.lot ws).d, .val v, .free, .free, .free] (some s) = _
    unfold m__law_odd_value
    exact (seq_el (ρ' := [.val (.raw (.ref sa)), .val (Th.lot ws).d, .val v, .free, .free, .free]) (w' := some s) (and_f (by kernel_rfl))).trans run
  | .cnt c, h, r, v, e, n, hn => fun s hs => by
    obtain ⟨n, rfl⟩ : ∃ m, n = m + 1 + 1 := ⟨n - 2, by omega⟩
    obtain ⟨d, s', ρ', hs', b, run⟩ := tail_run sa ca n h r e hs
    refine ⟨d, s', hs', b, gOf_rt (ρ' := ρ') rfl ?_⟩
    show m__law_odd_value (G (n + 1)) [.val (.raw (.ref sa)), .val (Th.cnt c).d, .val v, .free, .free, .free] (some s) = _
    unfold m__law_odd_value
    exact (seq_el (ρ' := [.val (.raw (.ref sa)), .val (Th.cnt c).d, .val v, .free, .free, .free]) (w' := some s) (and_f (by kernel_rfl))).trans run
  | .pair a b, h, r, v, e, n, hn => fun s hs => by
    simp only [Th.deep] at hn
    obtain ⟨n, rfl⟩ : ∃ m, n = m + 1 + 1 := ⟨n - 2, by omega⟩
    obtain ⟨x, y, ev, hx, hy⟩ : ∃ x y, v = .tup [x, y] ∧ vp a x = none ∧ vp b y = none := by
      obtain ⟨i, j, x, y, _, g1, g2, q⟩ := vals_pair (at_val (.pair a b) h r v e)
      exact ⟨x, y, q, (val_at a h.1 (right_pair r).1 i x g1).1, (val_at b h.2 (right_pair r).2 j y g2).1⟩
    subst ev
    let A : Slot := .val (.raw (.ref sa))
    let ρ : Rho := [A, .val (Th.pair a b).d, .val (.tup [x, y]), .free, .free, .free]
    obtain ⟨k, s1, hs1, hk, e1⟩ := int_pick (pickG sa ca n) 3 (by decide) (by decide) hs
    have c0 : mBinT eqD (mBin ixD (getS 1) (DL.ret (.int 0))) (DL.ret (.str "pair")) ρ (some s) = some (.ok true ρ (some s)) := by kernel_rfl
    have c1 : mBinT gtD (mCall 2 (G (n + 1) .f__law_pick) (mCons (getS 0) (mCons (DL.ret (.int 3)) mNil))) (DL.ret (.int 0)) ρ (some s) = some (.ok (decide ((0 : Int) < (k : Nat))) ρ (some s1)) :=
      binT_ok (a := .int (k : Nat)) (b := .int 0) (call2 (a := .raw (.ref sa)) (b := .int 3) (ρ1 := ρ) (ρ2 := ρ) (w1 := some s) (w2 := some s) rfl rfl e1) rfl rfl
    by_cases k0 : (0 : Int) < (k : Nat)
    · rw [decide_eq_true k0] at c1
      obtain ⟨j, s2, hs2, hj, e2⟩ := int_pick (pickG sa ca n) 2 (by decide) (by decide) hs1
      let ρ4 : Rho := [A, .val (Th.pair a b).d, .val (.tup [x, y]), .free, .val (.int (j : Nat)), .free]
      have s4 : mSet 4 (mCall 2 (G (n + 1) .f__law_pick) (mCons (getS 0) (mCons (DL.ret (.int 2)) mNil))) ρ (some s1) = some (.ok .nx ρ4 (some s2)) := set_ok (i := 4) (ρ1 := ρ) (call2 (a := .raw (.ref sa)) (b := .int 2) (ρ1 := ρ) (ρ2 := ρ) (w1 := some s1) (w2 := some s1) rfl rfl e2)
      have ld : max a.deep b.deep + 1 = (Th.pair a b).deep := rfl
      have la : a.deep ≤ max a.deep b.deep := Nat.le_max_left _ _
      have lb : b.deep ≤ max a.deep b.deep := Nat.le_max_right _ _
      obtain ⟨vx, vx2, vx3⟩ := val_K a h.1 (right_pair r).1 x hx
      obtain ⟨vy, vy2, vy3⟩ := val_K b h.2 (right_pair r).2 y hy
      have lt := lim_two (max a.deep b.deep + 1)
      have c3 : ∀ (i : Nat) (q : Th) (z : D), (mBin ixD (getS 1) (mBin addD (DL.ret (.int 1)) (getS 4))) ρ4 (some s2) = some (.ok q.d ρ4 (some s2)) → (mBin ixD (getS 2) (getS 4)) ρ4 (some s2) = some (.ok z ρ4 (some s2)) → ∀ (u : D) (s3 : Src), G (n + 1) .f__law_odd_value [.raw (.ref sa), q.d, z] (some s2) = some (.ok u (some s3)) →
          mSet 5 (mCall 3 (G (n + 1) .f__law_odd_value) (mCons (getS 0) (mCons (mBin ixD (getS 1) (mBin addD (DL.ret (.int 1)) (getS 4))) (mCons (mBin ixD (getS 2) (getS 4)) mNil)))) ρ4 (some s2) = some (.ok .nx [A, .val (Th.pair a b).d, .val (.tup [x, y]), .free, .val (.int (j : Nat)), .val u] (some s3)) := fun i q z h1 h2 u s3 e => by
        refine set_ok (i := 5) (ρ1 := ρ4) ?_
        unfold mCall
        rw [bnd_ok (cons_ok (ρ1 := ρ4) (w1 := some s2) (d := .raw (.ref sa)) rfl (cons_ok h1 (cons_ok h2 rfl)))]
        show (match G (n + 1) .f__law_odd_value [.raw (.ref sa), q.d, z] (some s2) with
          | some (.ok d w') => some (Rs.ok d ρ4 w')
          | some (.exc x w') => some (.exc x ρ4 w')
          | none => none) = _
        rw [e]
      have cj : j = 0 ∨ j = 1 := by omega
      rcases cj with cj | cj <;> subst cj
      · obtain ⟨u, s3, hs3, bu, e3⟩ := odd_spec sa ca a h.1 (right_pair r).1 x hx (n + 1) (by omega) s2 hs2
        refine ⟨.tup [u, y], s3, hs3, ⟨two_P bu.pl (val_P h.2 (right_pair r).2 hy), ?_⟩, gOf_rt (ρ' := [A, .val (Th.pair a b).d, .val (.tup [x, y]), .free, .val (.int 0), .val u]) rfl ?_⟩
        · rw [← ld]
          have l1 := lim_mono (show a.deep + 1 ≤ max a.deep b.deep + 1 by omega)
          have l2 := lim_mono (show b.deep ≤ max a.deep b.deep + 1 by omega)
          rcases bu.knd with k | k
          · have z := two_KP (n := max a.deep b.deep + 4) (m := lim (max a.deep b.deep + 1)) (a := u) (b := y) ⟨dat_to k.dat (by omega), k.nc.mono l1⟩ ⟨dat_to vy.dat (by omega), vy.nc.mono l2⟩
            exact .inl ⟨dat_to z.dat (by omega), z.nc.mono lt⟩
          · have z := two_KE (n := max a.deep b.deep + 4) (m := lim (max a.deep b.deep + 1)) (a := u) (b := y) ⟨datE_to k.dat (by omega), k.nc.mono l1⟩ ⟨datE_to vy2 (by omega), vy3.mono l2⟩
            exact .inr ⟨datE_to z.dat (by omega), z.ref, z.nc.mono lt⟩
        · show m__law_odd_value (G (n + 1)) ρ (some s) = _
          unfold m__law_odd_value
          refine seq_if (and_tt c0 c1) ?_
          rw [seq_nx s4, seq_nx (c3 0 a x (by kernel_rfl) (by kernel_rfl) u s3 e3)]
          refine ret_ok ?_
          exact (ite_run' (b := true) (ρ' := [A, .val (Th.pair a b).d, .val (.tup [x, y]), .free, .val (.int 0), .val u]) (w' := some s3) (by kernel_rfl)).trans (by kernel_rfl)
      · obtain ⟨u, s3, hs3, bu, e3⟩ := odd_spec sa ca b h.2 (right_pair r).2 y hy (n + 1) (by omega) s2 hs2
        refine ⟨.tup [x, u], s3, hs3, ⟨two_P (val_P h.1 (right_pair r).1 hx) bu.pl, ?_⟩, gOf_rt (ρ' := [A, .val (Th.pair a b).d, .val (.tup [x, y]), .free, .val (.int 1), .val u]) rfl ?_⟩
        · rw [← ld]
          have l1 := lim_mono (show b.deep + 1 ≤ max a.deep b.deep + 1 by omega)
          have l2 := lim_mono (show a.deep ≤ max a.deep b.deep + 1 by omega)
          rcases bu.knd with k | k
          · have z := two_KP (n := max a.deep b.deep + 4) (m := lim (max a.deep b.deep + 1)) (a := x) (b := u) ⟨dat_to vx.dat (by omega), vx.nc.mono l2⟩ ⟨dat_to k.dat (by omega), k.nc.mono l1⟩
            exact .inl ⟨dat_to z.dat (by omega), z.nc.mono lt⟩
          · have z := two_KE (n := max a.deep b.deep + 4) (m := lim (max a.deep b.deep + 1)) (a := x) (b := u) ⟨datE_to vx2 (by omega), vx3.mono l2⟩ ⟨datE_to k.dat (by omega), k.nc.mono l1⟩
            exact .inr ⟨datE_to z.dat (by omega), z.ref, z.nc.mono lt⟩
        · show m__law_odd_value (G (n + 1)) ρ (some s) = _
          unfold m__law_odd_value
          refine seq_if (and_tt c0 c1) ?_
          rw [seq_nx s4, seq_nx (c3 1 b y (by kernel_rfl) (by kernel_rfl) u s3 e3)]
          refine ret_ok ?_
          exact (ite_run' (b := false) (ρ' := [A, .val (Th.pair a b).d, .val (.tup [x, y]), .free, .val (.int 1), .val u]) (w' := some s3) (by kernel_rfl)).trans (by kernel_rfl)
    · rw [decide_eq_false k0] at c1
      obtain ⟨d, s', ρ', hs', bd, run⟩ := tail_run sa ca n h r e hs1
      refine ⟨d, s', hs', bd, gOf_rt (ρ' := ρ') rfl ?_⟩
      show m__law_odd_value (G (n + 1)) ρ (some s) = _
      unfold m__law_odd_value
      exact (seq_el (and_tt c0 c1)).trans run
end KX
set_option Elab.async false
set_option linter.all false
set_option maxRecDepth 100000
set_option
      maxHeartbeats 4000000
/-! DQ14: the law's parts. -/
namespace KX
open PySem PyProof.Rows PySem.Spec L2 RZ StX DL
variable [Tbs] [Ca]
noncomputable def againB (Gl G : Fn → Fn1) : M Fl := (mSeq (bnd (nCall 1 (G .f_values_of) (mCons (getS 3) mNil)) fun ds => setN 12 ds) (mSeq (mIte (mOr (mBinT neD (mReprO 12) (bnd (mCons (getS 4) mNil) fun ds => lft (reprD ds))) (mBinT neD (mCall 1 (G .f_many) (mCons (getS 3) mNil)) (bnd (mCons (getS 4) mNil) fun ds => lft (lenD ds)))) (mRet (DL.ret (.bl false))) (DL.ret .nx)) (mDrop (mMeth 12 mNil clearD))))
noncomputable def eachB (Gl G : Fn → Fn1) : M Fl := (mSeq (mIte (mOr (mBinT neD (mCall 2 (G .f_place_of) (mCons (getS 3) (mCons (getS 7) mNil))) (getS 6)) (mBinT neD (bnd (mCons (mCall 2 (G .f_value_at) (mCons (getS 3) (mCons (getS 6) mNil))) mNil) fun ds => lft (reprD ds)) (bnd (mCons (getS 7) mNil) fun ds => lft (reprD ds)))) (mRet (DL.ret (.bl false))) (DL.ret .nx)) (mIte (mBinT (isB true) (mCall 2 (G .f_is_value) (mCons (getS 3) (mCons (getS 7) mNil))) (DL.ret (.bl true))) (mRet (DL.ret (.bl false))) (DL.ret .nx)))
noncomputable def oddB (Gl G : Fn → Fn1) : M Fl := (mSeq (mSet 13 (mCall 3 (G .f__law_odd_value) (mCons (getS 1) (mCons (getS 3) (mCons (mBin ixD (getS 4) (mCall 2 (G .f__law_pick) (mCons (getS 1) (mCons (bnd (mCons (getS 4) mNil) fun ds => lft (lenD ds)) mNil)))) mNil))))) (mSeq (mPar 10 14 (mCons (mCall 2 (G .f__law_wrong_value) (mCons (getS 3) (mCons (getS 13) mNil))) (mCons (bnd (mCons (getS 13) mNil) fun ds => lft (reprD ds)) mNil))) (mSeq (mSet 15 (mIte (mBinT (isN true) (getS 10) (DL.ret .non)) (mTup (mCons (DL.ret (.str "value")) (mCons (getS 10) mNil))) (mTup (mCons (DL.ret (.str "fine")) (mCons (mIx (getS 4) (mCons (getS 13) mNil)) mNil))))) (mSeq (mIte (mBinT neD (bnd (mCons (mTold2 (.ref Ca.a_BadValue) (.ref Ca.a_BadType) "fine" "value" "path" "kind" "path" (mCall 2 (Gl .f_place_of) (mCons (getS 3) (mCons (getS 13) mNil)))) mNil) fun ds => lft (reprD ds)) (bnd (mCons (getS 15) mNil) fun ds => lft (reprD ds))) (mRet (DL.ret (.bl false))) (DL.ret .nx)) (mIte (mOr (mBinT neD (bnd (mCons (mCall 2 (G .f_is_value) (mCons (getS 3) (mCons (getS 13) mNil))) mNil) fun ds => lft (reprD ds)) (bnd (mCons (mBin (isN false) (getS 10) (DL.ret .non)) mNil) fun ds => lft (reprD ds))) (mBinT neD (bnd (mCons (getS 13) mNil) fun ds => lft (reprD ds)) (getS 14))) (mRet (DL.ret (.bl false))) (DL.ret .nx))))))
theorem told2_ok {c1 c2 : Value} {fine k1 f1 k2 f2 : Str} {mb : M D} {ρ ρ' : Rho} {w w' : Wo} {d : D} (h : mb ρ w = some (.ok d ρ' w')) : mTold2 c1 c2 fine k1 f1 k2 f2 mb ρ w = some (.ok (.tup [.str fine, d]) ρ' w') := by
  unfold mTold2
  rw [h]
theorem told2_one {c1 c2 : Value} {fine k1 f1 k2 f2 : Str} {mb : M D} {ρ ρ' : Rho} {w w' : Wo} {y : D} (h : mb ρ w = some (.exc ⟨c1, [f1], [y]⟩ ρ' w')) : mTold2 c1 c2 fine k1 f1 k2 f2 mb ρ w = some (.ok (.tup [.str k1, y]) ρ' w') := by
  unfold mTold2
  rw [h]
  dsimp only
  rw [if_pos ⟨rfl, rfl⟩]
theorem told2_two {c1 c2 : Value} {fine k1 f1 k2 f2 : Str} {mb : M D} {ρ ρ' : Rho} {w w' : Wo} {y : D} (ne : c2 ≠ c1) (h : mb ρ w = some (.exc ⟨c2, [f2], [y]⟩ ρ' w')) : mTold2 c1 c2 fine k1 f1 k2 f2 mb ρ w = some (.ok (.tup [.str k2, y]) ρ' w') := by
  unfold mTold2
  rw [h]
  dsimp only
  rw [if_neg (fun z => ne z.1), if_pos ⟨rfl, rfl⟩]
/-- a small type: all that the law asks of it -/
structure Sm (t : Th) : Prop where
  ok : t.ok
  right : t.path = none
  deep : t.deep ≤ 3
  due : t.due = none
theorem Sm.num {t : Th} (h : Sm t) : t.num < 25 := (due_none h.due).2.2
theorem Sm.len {t : Th} (h : Sm t) : t.vals.length < 25 ∧ 1 ≤ t.vals.length := by
  have l := t.vals_len h.ok h.right
  have q := h.num
  have p := (t.num_le h.ok h.right 4 (by have := h.deep; omega)).1
  omega
theorem val_Sh {t : Th} (h : Sm t) {v : D} (e : vp t v = none) : Sh v := by
  obtain ⟨k, _⟩ := val_K t h.ok h.right v e
  have l : lim t.deep ≤ 100000 := Nat.le_trans (lim_mono (Nat.le_trans h.deep (by decide : 3 ≤ 5))) (by decide)
  exact k.sh (dat_to k.dat (by have := h.deep; omega)) l
theorem vals_Sh {t : Th} (h : Sm t) : Sh (.lst t.vals) := by
  have k := KP_list (n := 4) (m := lim 3) (l := t.vals) fun v hv => by
    obtain ⟨i, hi⟩ := List.mem_iff_getElem?.mp hv
    obtain ⟨e, _, _⟩ := val_at t h.ok h.right i v hi
    obtain ⟨k, _⟩ := val_K t h.ok h.right v e
    exact ⟨dat_to k.dat (by have := h.deep; omega), k.nc.mono (lim_mono h.deep)⟩
  have l := h.len.1
  refine k.sh (dat_to k.dat (by decide)) ?_
  have l3 : lim 3 = 2817 := by decide
  rw [l3]
  omega
theorem bt_Sh {t : Th} (h : Sm t) {d : D} (b : Bt t.deep d) : Sh d := by
  have l : lim (t.deep + 1) ≤ 100000 := Nat.le_trans (lim_mono (show t.deep + 1 ≤ 5 by have := h.deep; omega)) (by decide)
  rcases b.knd with k | k
  · exact k.sh (dat_to k.dat (by have := h.deep; omega)) l
  · exact k.sh (datE_to k.dat (by have := h.deep; omega)) l
theorem vp_01 : ∀ (t : Th) (d : D) (p : List Int), vp t d = some p → ∀ i ∈ p, i = 0 ∨ i = 1
  | .odd _, _, p, h => by cases h; intro i hi; cases hi
  | .lot ws, d, p, h => by
    cases d with
    | str x =>
      have h : (if x ∈ ws then none else some [] : Option (List Int)) = some p := h
      split at h
      · cases h
      · cases h; intro i hi; cases hi
    | _ => cases h; intro i hi; cases hi
  | .cnt k, d, p, h => by
    cases d with
    | int i =>
      have h : (if 0 ≤ i ∧ i < k then none else some [] : Option (List Int)) = some p := h
      split at h
      · cases h
      · cases h; intro i hi; cases hi
    | _ => cases h; intro i hi; cases hi
  | .pair a b, d, p, h => by
    have nil_ : ∀ {q : List Int}, (some [] : Option (List Int)) = some q → ∀ i ∈ q, i = 0 ∨ i = 1 := fun z => by cases z; intro i hi; cases hi
    cases d with
    | tup l =>
      rcases pair_cases l with ⟨x, y, rfl⟩ | q
      · have h : (match vp a x with
          | some p => some (0 :: p)
          | none => (vp b y).map (1 :: ·)) = some p := h
        cases ha : vp a x with
        | some q =>
          rw [ha] at h
          cases h
          intro i hi
          rcases List.mem_cons.mp hi with e | e
          · exact .inl e
          · exact vp_01 a x q ha i e
        | none =>
          rw [ha] at h
          cases hb : vp b y with
          | none => rw [hb]
                at h; cases h
          | some q =>
            rw [hb] at h
            cases h
            intro i hi
            rcases List.mem_cons.mp hi with e | e
            · exact .inr e
            · exact vp_01 b y q hb i e
      · rw [vp_else q] at h
        exact nil_ h
    | _ => exact nil_ h
theorem ints_KP (n : Nat) : ∀ (p : List Int), (∀ i ∈ p, i = 0 ∨ i = 1) → ∀ x ∈ p.map D.int, KP n 5 x := fun p h x hx => by
  obtain ⟨i, hi, e⟩ := List.mem_map.mp hx
  subst e
  rcases h i hi with z | z <;> subst z <;> exact ⟨by cases n <;> rfl, nc_by (by decide +kernel)⟩
theorem tup_KP {n m : Nat} {l : List D} (h : ∀ v ∈ l, KP n m v) : KP (n + 1) (l.length * (m + 2) + 3) (.tup l) := by
  refine ⟨by simp only [DL.dat]; exact dats_all n l fun v hv => (h v hv).dat, ?_⟩
  show Nc (.tuple (toPs l)) _
  rw [toPs_map]
  have := nc_tuple (ps := l.map toP) (m := m) fun p hp => by
    obtain ⟨v, hv, e⟩ := List.mem_map.mp hp
    subst e
    exact (h v hv).nc
  rwa [List.length_map] at this
/-- what is due of a thing -/
def dueV (t : Th) (d : D) : D := match vp t d with
  | some p => .tup [.str "value", pathD p]
  | none => .tup [.str "fine", .int (pl t d : Nat)]
theorem dueV_Sh {t : Th} (h : Sm t) (d : D) : Sh (dueV t d) := by
  unfold dueV
  cases e : vp t d with
  | some p =>
    have hp := vp_len t d p e
    have hd := h.deep
    have k := tup_KP (ints_KP 1 p (vp_01 t d p e))
    rw [List.length_map] at k
    have kk : KP 2 100 (pathD p) := ⟨k.dat, k.nc.mono (by omega)⟩
    have v : KP 2 100 (.str "value") := ⟨rfl, nc_by (by decide +kernel)⟩
    have z := two_KP v kk
    exact z.sh (dat_to z.dat (by decide)) (by decide)
  | none =>
    have hp := (List.getElem?_eq_some_iff.mp (at_val t h.ok h.right d e)).1
    have hl := h.len.1
    have all : ∀ k : Nat, k < 25 → ncB (.int (k : Nat)) 100 = true := by decide +kernel
    have kk : KP 2 100 (.int (pl t d : Nat)) := ⟨rfl, nc_by (all _ (by omega))⟩
    have v : KP 2 100 (.str "fine") := ⟨rfl, nc_by (by decide +kernel)⟩
    have z := two_KP v kk
    exact z.sh (dat_to z.dat (by decide)) (by decide)
end KX
set_option Elab.async false
set_option linter.all false
set_option maxRecDepth 100000
set_option
      maxHeartbeats 4000000
/-! DQ15: the law's three loops' bodies. -/
namespace KX
open PySem PyProof.Rows PySem.Spec L2 RZ StX DL
variable [Tbs] [Ca]
theorem call3 {g : Fn1} {m1 m2 m3 : M D} {ρ ρ1 ρ2 ρ3 : Rho} {w w1 w2 w3 w4 : Wo} {a b c d : D} (h : m1 ρ w = some (.ok a ρ1 w1)) (h2 : m2 ρ1 w1 = some (.ok b ρ2 w2)) (h3 : m3 ρ2 w2 = some (.ok c ρ3 w3)) (e : g [a, b, c] w3 = some (.ok d w4)) : mCall 3 g (mCons m1 (mCons m2 (mCons m3 mNil))) ρ w = some (.ok d ρ3 w4) := by
  unfold mCall
  rw [bnd_ok (cons_ok h (cons_ok h2 (cons_ok h3 rfl)))]
  show (match g [a, b, c] w3 with
    | some (.ok d w') => some (Rs.ok d ρ3 w')
    | some (.exc x w') => some (.exc x ρ3 w')
    | none => none) = _
  rw [e]
theorem sm_values {t : Th} (h : Sm t) (w : Wo) : GL 57 .f_values_of [t.d] w = some (.ok (.lst t.vals) w) := by
  have e := valuesRun t h.ok (by have := h.deep; omega) 57 (by decide) w
  rw [h.due] at e
  exact e
theorem sm_many {t : Th} (h : Sm t) (w : Wo) : GL 57 .f_many [t.d] w = some (.ok (.int t.num) w) := by
  have e := manyRun t h.ok (by have := h.deep; omega) 57 (by decide) w
  rw [h.due] at e
  exact e
theorem again_run {t : Th} (h : Sm t) (z0 z1 z2 z5 z6 z7 z8 z9 z10 z11 z12 z13 z14 z15 : Slot) (w : Wo) : againB (G 57) (GL 57) [z0, z1, z2, .val t.d, .val (.lst t.vals), z5, z6, z7, z8, z9, z10, z11, z12, z13, z14, z15] w = some (.ok .nx [z0, z1, z2, .val t.d, .val (.lst t.vals), z5, z6, z7, z8, z9, z10, z11, .own [], z13, z14, z15] w) := by
  obtain ⟨x, hx⟩ := vals_Sh h
  let ρ0 : Rho := [z0, z1, z2, .val t.d, .val (.lst t.vals), z5, z6, z7, z8, z9, z10, z11, z12, z13, z14, z15]
  let ρ1 : Rho := [z0, z1, z2, .val t.d, .val (.lst t.vals), z5, z6, z7, z8, z9, z10, z11, .own t.vals, z13, z14, z15]
  let ρ2 : Rho := [z0, z1, z2, .val t.d, .val (.lst t.vals), z5, z6, z7, z8, z9, z10, z11, .own [], z13, z14, z15]
  have nc : nCall 1 (GL 57 .f_values_of) (mCons (getS 3) mNil) ρ0 w = some (.ok t.vals ρ0 w) := by
    unfold nCall
    rw [bnd_ok (cons_ok (d := t.d) (ρ1 := ρ0) (w1 := w) rfl rfl)]
    show (match GL 57 .f_values_of [t.d] w with
      | some (.ok (.lst xs) w') => some (Rs.ok xs ρ0 w')
      | some (.exc x w') => some (.exc x ρ0 w')
      | _ => none) = _
    rw [sm_values h w]
  have g4 : getS 4 ρ1 w = some (.ok (.lst t.vals) ρ1 w) := rfl
  have ro : mReprO 12 ρ1 w = some (.ok (.str x) ρ1 w) := by
    show (reprD [.lst t.vals]).map (fun z => Rs.ok z ρ1 w) = _
    rw [hx]
    rfl
  have lv := t.vals_len h.ok h.right
  have le : (bnd (mCons (getS 4) mNil) fun ds => lft (lenD ds)) ρ1 w = some (.ok (.int t.num) ρ1 w) := by
    rw [← lv]
    exact len_vals g4
  show againB (G 57) (GL 57) ρ0 w = some (.ok .nx ρ2 w)
  unfold againB
  rw [seq_nx (ρ' := ρ1) (w' := w) (by rw [bnd_ok nc]; rfl)]
  rw [seq_el (ρ' := ρ1) (w' := w) (or_ff (binT_ok ro (repr_ok g4 hx) (ne_same x)) (binT_ok (a := .int t.num) (b := .int t.num) (call1 (a := t.d) (ρ1 := ρ1) (w1 := w) rfl (sm_many h w)) le (ne_nat _)))]
  kernel_rfl
theorem each_run {t : Th} (h : Sm t) {k : Nat} {v : D} (hv : t.vals[k]? = some v) (z0 z1 z2 z5 z8 z9 z10 z11 z12 z13 z14 z15 : Slot) (w : Wo) : eachB (G 57) (GL 57) [z0, z1, z2, .val t.d, .val (.lst t.vals), z5, .val (.int (k : Nat)), .val v, z8, z9, z10, z11, z12, z13, z14, z15] w = some (.ok .nx [z0, z1, z2, .val t.d, .val (.lst t.vals), z5, .val (.int (k : Nat)), .val v, z8, z9, z10, z11, z12, z13, z14, z15] w) := by
  let ρ : Rho := [z0, z1, z2, .val t.d, .val (.lst t.vals), z5, .val (.int (k : Nat)), .val v, z8, z9, z10, z11, z12, z13, z14, z15]
  obtain ⟨e1, e2, e3⟩ := val_at t h.ok h.right k v hv
  have d3 := h.deep
  obtain ⟨x, hx⟩ := val_Sh h e1
  have po : GL 57 .f_place_of [t.d, v] w = some (.ok (.int (k : Nat)) w) := by
    have z := placeOf h.ok (by omega) h.due e2 58 (by decide) w
    rw [e1, e3] at z
    exact z
  have va : GL 57 .f_value_at [t.d, .int (k : Nat)] w = some (.ok v w) := valueAt h.ok (by omega) h.due hv 59 (by decide) w
  have iv : GL 57 .f_is_value [t.d, v] w = some (.ok (.bl true) w) := by
    have z := isValue h.ok (by omega) h.due e2 59 (by decide) w
    rw [e1] at z
    exact z
  show eachB (G 57) (GL 57) ρ w = some (.ok .nx ρ w)
  unfold eachB
  rw [seq_el (ρ' := ρ) (w' := w) (or_ff (binT_ok (a := .int (k : Nat)) (b := .int (k : Nat)) (call2 (a := t.d) (b := v) (ρ1 := ρ) (ρ2 := ρ) (w1 := w) (w2 := w) rfl rfl po) rfl (ne_nat _))
    (binT_ok (repr_ok (call2 (a := t.d) (b := .int (k : Nat)) (ρ1 := ρ) (ρ2 := ρ) (w1 := w) (w2 := w) rfl rfl va) hx) (repr_ok (m1 := getS 7) (ρ1 := ρ) (w1 := w) rfl hx) (ne_same x)))]
  rw [ite_run (b := false) (ρ' := ρ) (w' := w) (binT_ok (a := .bl true) (b := .bl true) (call2 (a := t.d) (b := v) (ρ1 := ρ) (ρ2 := ρ) (w1 := w) (w2 := w) rfl rfl iv) rfl rfl)]
  rfl
theorem vals_dat {t : Th} (h : Sm t) : dats 59 t.vals = true := dats_all 59 _ fun v hv => by
  obtain ⟨i, hi⟩ := List.mem_iff_getElem?.mp hv
  obtain ⟨e, _, _⟩ := val_at t h.ok h.right i v hi
  exact dat_to (val_K t h.ok h.right v e).1.dat (by have := h.deep; omega)
theorem isf_sh (o : Option (List Int)) : ∃ y, reprD [.bl o.isNone] = some (.str y) := by
  cases o
  · exact ⟨("True" : Str), by kernel_rfl⟩
  · exact ⟨("False" : Str), by kernel_rfl⟩
theorem odd_run {t : Th} (h : Sm t) {sa ca : Addr} (z0 z2 z5 z6 z7 z8 z9 z10 z11 z12 z13 z14 z15 : Slot) {s : Src} (hs : Sok sa ca s) : ∃ (s' : Src) (y10 y13 y14 y15 : Slot), Sok sa ca s' ∧
    oddB (G 57) (GL 57) [z0, .val (.raw (.ref sa)), z2, .val t.d, .val (.lst t.vals), z5, z6, z7, z8, z9, z10, z11, z12, z13, z14, z15] (some s) = some (.ok .nx [z0, .val (.raw (.ref sa)), z2, .val t.d, .val (.lst t.vals), z5, z6, z7, z8, z9, y10, z11, z12, y13, y14, y15] (some s')) := by
  have d3 := h.deep
  obtain ⟨l1, l2⟩ := h.len
  let A : Slot := .val (.raw (.ref sa))
  let ρ : Rho := [z0, A, z2, .val t.d, .val (.lst t.vals), z5, z6, z7, z8, z9, z10, z11, z12, z13, z14, z15]
  obtain ⟨k, s1, hs1, hk, e1⟩ := int_pick (pickG sa ca 58) t.vals.length l2 (by omega) hs
  have g : t.vals[k]? = some t.vals[k] := List.getElem?_eq_getElem hk
  obtain ⟨v1, v2, v3⟩ := val_at t h.ok h.right k _ g
  obtain ⟨d, s2, hs2, bt, e2⟩ := odd_spec sa ca t h.ok h.right _ v1 59 (by omega) s1 hs1
  have e1 : GL 57 .f__law_pick [.raw (.ref sa), .int (t.vals.length : Nat)] (some s) = some (.ok (.int (k : Nat)) (some s1)) := e1
  have e2 : GL 57 .f__law_odd_value [.raw (.ref sa), t.d, t.vals[k]] (some s1) = some (.ok d (some s2)) := e2
  let w : Wo := some s2
  obtain ⟨x, hx⟩ := bt_Sh h bt
  obtain ⟨y, hy⟩ := dueV_Sh h d
  let ρ1 : Rho := [z0, A, z2, .val t.d, .val (.lst t.vals), z5, z6, z7, z8, z9, z10, z11, z12, .val d, z14, z15]
  let ρ2 : Rho := [z0, A, z2, .val t.d, .val (.lst t.vals), z5, z6, z7, z8, z9, .val (optD (vp t d)), z11, z12, .val d, .val (.str x), z15]
  let ρ3 : Rho := [z0, A, z2, .val t.d, .val (.lst t.vals), z5, z6, z7, z8, z9, .val (optD (vp t d)), z11, z12, .val d, .val (.str x), .val (dueV t d)]
  refine ⟨s2, .val (optD (vp t d)), .val d, .val (.str x), .val (dueV t d), hs2, ?_⟩
  show oddB (G 57) (GL 57) ρ (some s) = some (.ok .nx ρ3 w)
  unfold oddB
  have pk : mBin ixD (getS 4) (mCall 2 (GL 57 .f__law_pick) (mCons (getS 1) (mCons (bnd (mCons (getS 4) mNil) fun ds => lft (lenD ds)) mNil))) ρ (some s) = some (.ok t.vals[k] ρ (some s1)) :=
    bin_ok (a := .lst t.vals) (b := .int (k : Nat)) (ρ1 := ρ) (w1 := some s) rfl (call2 (a := .raw (.ref sa)) (b := .int (t.vals.length : Nat)) (ρ1 := ρ) (ρ2 := ρ) (w1 := some s) (w2 := some s) rfl (len_vals rfl) e1) (atI_nat g)
  have so : mSet 13 (mCall 3 (GL 57 .f__law_odd_value) (mCons (getS 1) (mCons (getS 3) (mCons (mBin ixD (getS 4) (mCall 2 (GL 57 .f__law_pick) (mCons (getS 1) (mCons (bnd (mCons (getS 4) mNil) fun ds => lft (lenD ds)) mNil)))) mNil)))) ρ (some s) = some (.ok .nx ρ1 w) := by
    exact set_ok (i := 13) (ρ1 := ρ) (call3 (a := .raw (.ref sa)) (b := t.d) (c := t.vals[k]) (ρ1 := ρ) (ρ2 := ρ) (w1 := some s) (w2 := some s) rfl rfl pk e2)
  rw [seq_nx so]
  have lw : GL 57 .f__law_wrong_value [t.d, d] w = some (.ok (optD (vp t d)) w) := lawWrong t h.right (by omega) d bt.pl 59 (by omega) w
  rw [seq_nx (ρ' := ρ2) (w' := w) (by
    unfold mPar
    rw [bnd_ok (cons_ok (call2 (a := t.d) (b := d) (ρ1 := ρ1) (ρ2 := ρ1) (w1 := w) (w2 := w) rfl rfl lw) (cons_ok (repr_ok (m1 := getS 13) (ρ1 := ρ1) (w1 := w) rfl hx) rfl))]
    rfl)]
  have g10 : getS 10 ρ2 w = some (.ok (optD (vp t d)) ρ2 w) := rfl
  have du : mIte (mBinT (isN true) (getS 10) (DL.ret .non)) (mTup (mCons (DL.ret (.str "value")) (mCons (getS 10) mNil))) (mTup (mCons (DL.ret (.str "fine")) (mCons (mIx (getS 4) (mCons (getS 13) mNil)) mNil))) ρ2 w = some (.ok (dueV t d) ρ2 w) := by
    have q : mBinT (isN true) (getS 10) (DL.ret .non) ρ2 w = some (.ok (vp t d).isSome ρ2 w) := binT_ok (b := .non) g10 rfl (isn_opt _)
    rw [ite_run' q]
    unfold dueV
    cases e : vp t d with
    | some p =>
      rw [e] at g10
      exact tup2_ok (a := .str "value") (b := pathD p) (ρ1 := ρ2) (w1 := w) rfl g10
    | none =>
      have dd : DL.dat 60 d = true := dat_to (val_K t h.ok h.right d e).1.dat (by omega)
      have ix : mIx (getS 4) (mCons (getS 13) mNil) ρ2 w = some (.ok (.int (pl t d : Nat)) ρ2 w) := by
        show lft (if DL.dat 60 d && dats 59 t.vals then (firstEq d t.vals).map fun j => D.int (j : Nat) else none) ρ2 w = _
        rw [dd, vals_dat h, first_pl h.ok h.right e]
        rfl
      exact tup2_ok (a := .str "fine") (ρ1 := ρ2) (w1 := w) rfl ix
  rw [seq_nx (ρ' := ρ3) (w' := w) (set_ok (i := 15) (ρ1 := ρ2) du)]
  have po := placeOf h.ok (by omega) h.due bt.pl 56 (by decide) w
  have c0 : mTold2 (.ref Ca.a_BadValue) (.ref Ca.a_BadType) "fine" "value" "path" "kind" "path" (mCall 2 (G 57 .f_place_of) (mCons (getS 3) (mCons (getS 13) mNil))) ρ3 w = some (.ok (dueV t d) ρ3 w) := by
    unfold dueV
    cases e : vp t d with
    | some p =>
      rw [e] at po
      refine told2_one ?_
      unfold mCall
      rw [bnd_ok (cons_ok (ρ1 := ρ3) (w1 := w) (d := t.d) rfl (cons_ok (ρ1 := ρ3) (w1 := w) (d := d) rfl rfl))]
      show (match G 57 .f_place_of [t.d, d] w with
        | some (.ok d w') => some (Rs.ok d ρ3 w')
        | some (.exc x w') => some (.exc x ρ3 w')
        | none => none) = _
      rw [po]
      rfl
    | none =>
      rw [e] at po
      exact told2_ok (call2 (a := t.d) (b := d) (ρ1 := ρ3) (ρ2 := ρ3) (w1 := w) (w2 := w) rfl rfl po)
  rw [seq_el (ρ' := ρ3) (w' := w) (binT_ok (repr_ok c0 hy) (repr_ok (m1 := getS 15) (ρ1 := ρ3) (w1 := w) rfl hy) (ne_same y))]
  have iv : GL 57 .f_is_value [t.d, d] w = some (.ok (.bl (vp t d).isNone) w) := isValue h.ok (by omega) h.due bt.pl 59 (by decide) w
  obtain ⟨u, hu⟩ := isf_sh (vp t d)
  have g10' : mBin (isN false) (getS 10) (DL.ret .non) ρ3 w = some (.ok (.bl (vp t d).isNone) ρ3 w) := bin_ok (a := optD (vp t d)) (b := .non) (ρ1 := ρ3) (w1 := w) rfl rfl (isf_opt _)
  rw [ite_run (or_ff (binT_ok (repr_ok (call2 (a := t.d) (b := d) (ρ1 := ρ3) (ρ2 := ρ3) (w1 := w) (w2 := w) rfl rfl iv) hu) (repr_ok g10' hu) (ne_same u)) (binT_ok (repr_ok (m1 := getS 13) (ρ1 := ρ3) (w1 := w) rfl hx) (b := .str x) rfl (ne_same x)))]
  rfl
end KX
set_option Elab.async false
set_option linter.all false
set_option maxRecDepth 100000
set_option
      maxHeartbeats 4000000
/-! DQ16: the law, whole. -/
namespace KX
open PySem PyProof.Rows PySem.Spec L2 RZ StX DL
variable [Tbs] [Ca]
def Smd (d : D) : Prop := ∃ t : Th, d = t.d ∧ Sm t
theorem small_Sm (sa ca : Addr) (n : Nat) (hn : 10 ≤ n) : Gives sa ca (G (n + 1) .f__law_small_type) [.raw (.ref sa)] Smd := by
  intro s hs
  let A : Slot := .val (.raw (.ref sa))
  obtain ⟨n, rfl⟩ : ∃ k, n = k + 1 := ⟨n - 1, by omega⟩
  have hp := pickG sa ca n
  obtain ⟨k, s1, hs1, hk, e1⟩ := int_pick hp 3 (by decide) (by decide) hs
  obtain ⟨d, s2, hs2, ⟨t, et, ot, pt, lt⟩, e2⟩ := wide_spec sa ca 2 (k : Nat) (by omega) (n + 1) (by omega) s1 hs1
  subst et
  let ρ : Rho := [A, .free]
  let ρ1 : Rho := [A, .val t.d]
  have st : mSet 1 (mCall 2 (G (n + 1) .f__law_wide_type) (mCons (getS 0) (mCons (mCall 2 (G (n + 1) .f__law_pick) (mCons (getS 0) (mCons (DL.ret (.int 3)) mNil))) mNil))) ρ (some s) = some (.ok .nx ρ1 (some s2)) :=
    set_ok (ρ1 := ρ) (call2 (a := .raw (.ref sa)) (b := .int (k : Nat)) (ρ1 := ρ) (ρ2 := ρ) (w1 := some s) (w2 := some s1) rfl (call2 (a := .raw (.ref sa)) (b := .int 3) (ρ1 := ρ) (ρ2 := ρ) (w1 := some s) (w2 := some s) rfl rfl e1) e2)
  have te := smallTest (n := n + 1) (i := 1) (ρ := ρ1) (w := some s2) ot pt (by omega) rfl
  cases q : smallB t with
  | true =>
    rw [q] at te
    have du := small_due pt
    rw [q] at du
    refine ⟨t.d, s2, hs2, ⟨t, rfl, ot, pt, by omega, du⟩, gOf_rt (ρ' := ρ1) rfl ?_⟩
    show m__law_small_type (G (n + 1)) ρ (some s) = _
    unfold m__law_small_type
    rw [seq_nx st]
    exact seq_if te rfl
  | false =>
    rw [q] at te
    obtain ⟨j, s3, hs3, hj, e3⟩ := int_pick hp 3 (by decide) (by decide) hs2
    let u : Th := .pair (.lot ["ab", "a"]) (.pair (.cnt 3) (.cnt (2 + (j : Nat))))
    have ou : u.ok := ⟨⟨by decide, by decide, by decide +kernel, by decide +kernel⟩, (show (2 : Int) ≤ 3 ∧ (3 : Int) ≤ 6 from by decide), (show (2 : Int) ≤ 2 + (j : Nat) ∧ (2 : Int) + (j : Nat) ≤ 6 from by omega)⟩
    have du : u.due = none := by
      have c : j = 0 ∨ j = 1 ∨ j = 2 := by omega
      rcases c with c | c | c <;> subst c <;> rfl
    refine ⟨u.d, s3, hs3, ⟨u, rfl, ou, rfl, (show (2 : Nat) ≤ 3 from by decide), du⟩, gOf_rt (ρ' := ρ1) rfl ?_⟩
    show m__law_small_type (G (n + 1)) ρ (some s) = _
    unfold m__law_small_type
    rw [seq_nx st, seq_el te]
    refine ret_ok (tup3_ok (a := .str "pair") (b := (Th.lot ["ab", "a"]).d) (ρ1 := ρ1) (w1 := some s2) (ρ2 := ρ1) (w2 := some s2) rfl rfl ?_)
    refine tup3_ok (a := .str "pair") (b := (Th.cnt 3).d) (ρ1 := ρ1) (w1 := some s2) (ρ2 := ρ1) (w2 := some s2) rfl rfl ?_
    exact tup2_ok (a := .str "count") (ρ1 := ρ1) (w1 := some s2) rfl (bin_ok (ρ1 := ρ1) (w1 := some s2) (a := .int 2) (b := .int (j : Nat)) rfl (call2 (a := .raw (.ref sa)) (b := .int 3) (ρ1 := ρ1) (ρ2 := ρ1) (w1 := some s2) (w2 := some s2) rfl rfl e3) rfl)
/-! ### what is no type -/
def badT (p : List Int) : Xc := ⟨.ref Ca.a_BadType, ["path"], [pathD p]⟩
def kd (p : List Int) : D := .tup [.str "kind", pathD p]
def pathM (G : Fn → Fn1) : M Fl := (mSet 10 (mIte (mAnd (mBinT (isN true) (getS 9) (DL.ret .non)) (mAnd (mBinT eqD (mBin ixD (getS 9) (DL.ret (.int 0))) (DL.ret (.str "pair"))) (mBinT eqD (mBin ixD (mBin ixD (getS 9) (DL.ret (.int 2))) (DL.ret (.int 0))) (DL.ret (.str "lot"))))) (mTup (mCons (DL.ret (.int 2)) mNil)) (mTup mNil)))
noncomputable def restM (Gl G : Fn → Fn1) : M Fl := (mSeq (mSet 10 (mIte (mAnd (mBinT (isN true) (getS 9) (DL.ret .non)) (mAnd (mBinT eqD (mBin ixD (getS 9) (DL.ret (.int 0))) (DL.ret (.str "pair"))) (mBinT eqD (mBin ixD (mBin ixD (getS 9) (DL.ret (.int 2))) (DL.ret (.int 0))) (DL.ret (.str "lot"))))) (mTup (mCons (DL.ret (.int 2)) mNil)) (mTup mNil))) (mSeq (bnd (nLst (mCons (mTold2 (.ref Ca.a_BadValue) (.ref Ca.a_BadType) "fine" "value" "path" "kind" "path" (mCall 2 (Gl .f_place_of) (mCons (getS 9) (mCons (DL.ret .non) mNil)))) mNil)) fun ds => setN 11 ds) (mSeq (mDrop (mMeth 11 (mCons (mTold2 (.ref Ca.a_BadValue) (.ref Ca.a_BadType) "fine" "value" "path" "kind" "path" (mCall 2 (Gl .f_value_at) (mCons (getS 9) (mCons (DL.ret (.int 0)) mNil)))) mNil) appendD)) (mSeq (mDrop (mMeth 11 (mCons (mTold2 (.ref Ca.a_BadValue) (.ref Ca.a_BadType) "fine" "value" "path" "kind" "path" (mCall 2 (Gl .f_is_value) (mCons (getS 9) (mCons (DL.ret (.int 0)) mNil)))) mNil) appendD)) (mSeq (mDrop (mMeth 11 (mCons (mTold2 (.ref Ca.a_BadValue) (.ref Ca.a_BadType) "fine" "value" "path" "kind" "path" (mCall 1 (Gl .f_values_of) (mCons (getS 9) mNil))) mNil) appendD)) (mIte (mBinT neD (getS 11) (mBin mulD (mLst (mCons (mTup (mCons (DL.ret (.str "kind")) (mCons (getS 10) mNil))) mNil)) (DL.ret (.int 4)))) (mRet (DL.ret (.bl false))) (DL.ret .nx)))))))
structure NoTy (d : D) (p : List Int) : Prop where
  f1 : ∀ w, G 57 .f_place_of [d, .non] w = some (.exc (badT p) w)
  f2 : ∀ w, G 57 .f_value_at [d, .int 0] w = some (.exc (badT p) w)
  f3 : ∀ w, G 57 .f_is_value [d, .int 0] w = some (.exc (badT p) w)
  f4 : ∀ w, G 57 .f_values_of [d] w = some (.exc (badT p) w)
  pth : ∀ (z0 z1 z2 z3 z4 z5 z6 z7 z8 z10 z11 z12 z13 z14 z15 : Slot) w, pathM (GL 57) [z0, z1, z2, z3, z4, z5, z6, z7, z8, .val d, z10, z11, z12, z13, z14, z15] w = some (.ok .nx [z0, z1, z2, z3, z4, z5, z6, z7, z8, .val d, .val (pathD p), z11, z12, z13, z14, z15] w)
  mul : mulD (.lst [kd p]) (.int 4) = some (.lst [kd p, kd p, kd p, kd p])
  cmp : neD (.lst [kd p, kd p, kd p, kd p]) (.lst [kd p, kd p, kd p, kd p]) = some (.bl false)
def odd5 : List D := [.non, .tup [.str "count", .int 1], .tup [.str "pair", .tup [.str "count", .int 2], .tup [.str "lot", .tup [.str "a"]]], .lst [.str "count", .int 2], .tup [.str "pair", .tup [.str "count", .int 5], .tup [.str "count", .int 5]]]
theorem odd5_no : ∀ d ∈ odd5, ∃ p, NoTy d p := by
  intro d hd
  simp only [odd5, List.mem_cons, List.not_mem_nil, or_false] at hd
  rcases hd with h | h | h | h | h <;> subst h
  · exact ⟨[], fun w => by kernel_rfl, fun w => by kernel_rfl, fun w => by kernel_rfl, fun w => by kernel_rfl, fun _ _ _ _ _ _ _ _ _ _ _ _ _ _ _ w => by kernel_rfl, by kernel_rfl, by kernel_rfl⟩
  · exact ⟨[], fun w => by kernel_rfl, fun w => by kernel_rfl, fun w => by kernel_rfl, fun w => by kernel_rfl, fun _ _ _ _ _ _ _ _ _ _ _ _ _ _ _ w => by kernel_rfl, by kernel_rfl, by kernel_rfl⟩
  · exact ⟨[2], fun w => by kernel_rfl, fun w => by kernel_rfl, fun w => by kernel_rfl, fun w => by kernel_rfl, fun _ _ _ _ _ _ _ _ _ _ _ _ _ _ _ w => by kernel_rfl, by kernel_rfl, by kernel_rfl⟩
  · exact ⟨[], fun w => by kernel_rfl, fun w => by kernel_rfl, fun w => by kernel_rfl, fun w => by kernel_rfl, fun _ _ _ _ _ _ _ _ _ _ _ _ _ _ _ w => by kernel_rfl, by kernel_rfl, by kernel_rfl⟩
  · exact ⟨[], fun w => by kernel_rfl, fun w => by kernel_rfl, fun w => by kernel_rfl, fun w => by kernel_rfl, fun _ _ _ _ _ _ _ _ _ _ _ _ _ _ _ w => by kernel_rfl, by kernel_rfl, by kernel_rfl⟩
theorem call2_exc {g : Fn1} {m1 m2 : M D} {ρ : Rho} {w : Wo} {a b : D} {x : Xc} (h : m1 ρ w = some (.ok a ρ w)) (h2 : m2 ρ w = some (.ok b ρ w)) (e : g [a, b] w = some (.exc x w)) : mCall 2 g (mCons m1 (mCons m2 mNil)) ρ w = some (.exc x ρ w) := by
  unfold mCall
  rw [bnd_ok (cons_ok h (cons_ok h2 rfl))]
  show (match g [a, b] w with
    | some (.ok d w') => some (Rs.ok d ρ w')
    | some (.exc x w') => some (.exc x ρ w')
    | none => none) = _
  rw [e]
theorem app_ok {m : M D} {i : Nat} {ρ : Rho} {w : Wo} {d : D} {l : List D} (h : m ρ w = some (.ok d ρ w)) (o : ρ[i]? = some (.own l)) (hl : l.length < 100000) : mDrop (mMeth i (mCons m mNil) appendD) ρ w = some (.ok .nx (ρ.set i (.own (l ++ [d]))) w) := by
  unfold mDrop
  have k : mMeth i (mCons m mNil) appendD ρ w = some (.ok .non (ρ.set i (.own (l ++ [d]))) w) := by
    unfold mMeth
    rw [o]
    show bnd (mCons m mNil) (kMeth i appendD) ρ w = _
    rw [bnd_ok (cons_ok h rfl)]
    unfold kMeth
    rw [o]
    show (if l.length < 100000 then some (D.non, l ++ [d]) else none).map (fun z => Rs.ok z.1 (ρ.set i (.own z.2)) w) = _
    rw [if_pos hl]
    rfl
  rw [bnd_ok k]
  rfl
theorem rest_run (ne : Ca.a_BadType ≠ Ca.a_BadValue) {d : D} {p : List Int} (h : NoTy d p) (z0 z1 z2 z3 z4 z5 z6 z7 z8 z10 z11 z12 z13 z14 z15 : Slot) (w : Wo) : ∃ y11, restM (G 57) (GL 57) [z0, z1, z2, z3, z4, z5, z6, z7, z8, .val d, z10, z11, z12, z13, z14, z15] w = some (.ok .nx [z0, z1, z2, z3, z4, z5, z6, z7, z8, .val d, .val (pathD p), y11, z12, z13, z14, z15] w) := by
  have nv : (Value.ref Ca.a_BadType) ≠ .ref Ca.a_BadValue := fun z => ne (Value.ref.inj z)
  let r : Slot → Rho := fun y => [z0, z1, z2, z3, z4, z5, z6, z7, z8, .val d, .val (pathD p), y, z12, z13, z14, z15]
  refine ⟨.val (.lst [kd p, kd p, kd p, kd p]), ?_⟩
  unfold restM
  show mSeq (pathM (GL 57)) _ [z0, z1, z2, z3, z4, z5, z6, z7, z8, .val d, z10, z11, z12, z13, z14, z15] w = _
  rw [seq_nx (h.pth z0 z1 z2 z3 z4 z5 z6 z7 z8 z10 z11 z12 z13 z14 z15 w)]
  have t1 : ∀ y, mTold2 (.ref Ca.a_BadValue) (.ref Ca.a_BadType) "fine" "value" "path" "kind" "path" (mCall 2 (G 57 .f_place_of) (mCons (getS 9) (mCons (DL.ret .non) mNil))) (r y) w = some (.ok (kd p) (r y) w) := fun y => told2_two nv (call2_exc (a := d) (b := .non) rfl rfl (h.f1 w))
  have t2 : ∀ y, mTold2 (.ref Ca.a_BadValue) (.ref Ca.a_BadType) "fine" "value" "path" "kind" "path" (mCall 2 (G 57 .f_value_at) (mCons (getS 9) (mCons (DL.ret (.int 0)) mNil))) (r y) w = some (.ok (kd p) (r y) w) := fun y => told2_two nv (call2_exc (a := d) (b := .int 0) rfl rfl (h.f2 w))
  have t3 : ∀ y, mTold2 (.ref Ca.a_BadValue) (.ref Ca.a_BadType) "fine" "value" "path" "kind" "path" (mCall 2 (G 57 .f_is_value) (mCons (getS 9) (mCons (DL.ret (.int 0)) mNil))) (r y) w = some (.ok (kd p) (r y) w) := fun y => told2_two nv (call2_exc (a := d) (b := .int 0) rfl rfl (h.f3 w))
  have t4 : ∀ y, mTold2 (.ref Ca.a_BadValue) (.ref Ca.a_BadType) "fine" "value" "path" "kind" "path" (mCall 1 (G 57 .f_values_of) (mCons (getS 9) mNil)) (r y) w = some (.ok (kd p) (r y) w) := fun y => told2_two nv (call1_exc (a := d) (ρ1 := r y) (w1 := w) rfl (h.f4 w))
  rw [seq_nx (ρ' := r (.own [kd p])) (w' := w) (by
    rw [bnd_ok (a := [kd p]) (ρ' := r z11) (w' := w) (by
      unfold nLst
      rw [bnd_ok (cons_ok (t1 z11) rfl)]
      rfl)]
    rfl)]
  rw [seq_nx (ρ' := r (.own [kd p, kd p])) (w' := w) (app_ok (i := 11) (l := [kd p]) (t2 _) rfl (show 1 < 100000 by decide))]
  rw [seq_nx (ρ' := r (.own [kd p, kd p, kd p])) (w' := w) (app_ok (i := 11) (l := [kd p, kd p]) (t3 _) rfl (show 2 < 100000 by decide))]
  rw [seq_nx (ρ' := r (.own [kd p, kd p, kd p, kd p])) (w' := w) (app_ok (i := 11) (l := [kd p, kd p, kd p]) (t4 _) rfl (show 3 < 100000 by decide))]
  rw [ite_run (b := false) (ρ' := r (.val (.lst [kd p, kd p, kd p, kd p]))) (w' := w) (binT_ok (a := .lst [kd p, kd p, kd p, kd p]) (b := .lst [kd p, kd p, kd p, kd p]) (ρ1 := r (.val (.lst [kd p, kd p, kd p, kd p]))) (w1 := w) rfl (bin_ok (a := .lst [kd p]) (b := .int 4) (ρ1 := r (.val (.lst [kd p, kd p, kd p, kd p]))) (w1 := w) rfl rfl h.mul) h.cmp)]
  rfl
/-! ### the laps -/
theorem enum_mem : ∀ (l : List D) (k : Nat) (d : D), d ∈ enumFrom' k l → ∃ (j : Nat) (v : D), d = .pr (.int ((k + j : Nat) : Int)) v ∧ l[j]? = some v
  | [], _, _, h => by cases h
  | x :: l, k, d, h => by
    have h : d ∈ D.pr (.int (k : Nat)) x :: enumFrom' (k + 1) l := h
    rcases List.mem_cons.mp
          h with e | e
    · exact ⟨0, x, e, rfl⟩
    · obtain ⟨j, v, e1, e2⟩ := enum_mem l (k + 1) d e
      refine ⟨j + 1, v, ?_, e2⟩
      rw [e1, show k + 1 + j = k + (j + 1) by omega]
noncomputable def oneM (Gl G : Fn → Fn1) : M Fl := (mSeq (mSet 3 (mCall 1 (G .f__law_small_type) (mCons (getS 1) mNil))) (mSeq (mSet 4 (mCall 1 (G .f__law_values) (mCons (getS 3) mNil))) (mSeq (mFor (bnd (mCons (DL.ret (.int 2)) mNil) fun ds => lft (rng1 ds)) (bName 5) (mSeq (bnd (nCall 1 (G .f_values_of) (mCons (getS 3) mNil)) fun ds => setN 12 ds) (mSeq (mIte (mOr (mBinT neD (mReprO 12) (bnd (mCons (getS 4) mNil) fun ds => lft (reprD ds))) (mBinT neD (mCall 1 (G .f_many) (mCons (getS 3) mNil)) (bnd (mCons (getS 4) mNil) fun ds => lft (lenD ds)))) (mRet (DL.ret (.bl false))) (DL.ret .nx)) (mDrop (mMeth 12 mNil clearD))))) (mSeq (mFor (bnd (mCons (getS 4) mNil) fun ds => lft (enumD ds)) (bTup 2 (bCons (bName 6) (bCons (bName 7) bNil))) (mSeq (mIte (mOr (mBinT neD (mCall 2 (G .f_place_of) (mCons (getS 3) (mCons (getS 7) mNil))) (getS 6)) (mBinT neD (bnd (mCons (mCall 2 (G .f_value_at) (mCons (getS 3) (mCons (getS 6) mNil))) mNil) fun ds => lft (reprD ds)) (bnd (mCons (getS 7) mNil) fun ds => lft (reprD ds)))) (mRet (DL.ret (.bl false))) (DL.ret .nx)) (mIte (mBinT (isB true) (mCall 2 (G .f_is_value) (mCons (getS 3) (mCons (getS 7) mNil))) (DL.ret (.bl true))) (mRet (DL.ret (.bl false))) (DL.ret .nx)))) (mSeq (mFor (bnd (mCons (DL.ret (.int 4)) mNil) fun ds => lft (rng1 ds)) (bName 8) (mSeq (mSet 13 (mCall 3 (G .f__law_odd_value) (mCons (getS 1) (mCons (getS 3) (mCons (mBin ixD (getS 4) (mCall 2 (G .f__law_pick) (mCons (getS 1) (mCons (bnd (mCons (getS 4) mNil) fun ds => lft (lenD ds)) mNil)))) mNil))))) (mSeq (mPar 10 14 (mCons (mCall 2 (G .f__law_wrong_value) (mCons (getS 3) (mCons (getS 13) mNil))) (mCons (bnd (mCons (getS 13) mNil) fun ds => lft (reprD ds)) mNil))) (mSeq (mSet 15 (mIte (mBinT (isN true) (getS 10) (DL.ret .non)) (mTup (mCons (DL.ret (.str "value")) (mCons (getS 10) mNil))) (mTup (mCons (DL.ret (.str "fine")) (mCons (mIx (getS 4) (mCons (getS 13) mNil)) mNil))))) (mSeq (mIte (mBinT neD (bnd (mCons (mTold2 (.ref Ca.a_BadValue) (.ref Ca.a_BadType) "fine" "value" "path" "kind" "path" (mCall 2 (Gl .f_place_of) (mCons (getS 3) (mCons (getS 13) mNil)))) mNil) fun ds => lft (reprD ds)) (bnd (mCons (getS 15) mNil) fun ds => lft (reprD ds))) (mRet (DL.ret (.bl false))) (DL.ret .nx)) (mIte (mOr (mBinT neD (bnd (mCons (mCall 2 (G .f_is_value) (mCons (getS 3) (mCons (getS 13) mNil))) mNil) fun ds => lft (reprD ds)) (bnd (mCons (mBin (isN false) (getS 10) (DL.ret .non)) mNil) fun ds => lft (reprD ds))) (mBinT neD (bnd (mCons (getS 13) mNil) fun ds => lft (reprD ds)) (getS 14))) (mRet (DL.ret (.bl false))) (DL.ret .nx))))))) (mSeq (mSet 9 (mLst (mCons (DL.ret .non) (mCons (mTup (mCons (DL.ret (.str "count")) (mCons (DL.ret (.int 1)) mNil))) (mCons (mTup (mCons (DL.ret (.str "pair")) (mCons (mTup (mCons (DL.ret (.str "count")) (mCons (DL.ret (.int 2)) mNil))) (mCons (mTup (mCons (DL.ret (.str "lot")) (mCons (mTup (mCons (DL.ret (.str "a")) mNil)) mNil))) mNil)))) (mCons (mLst (mCons (DL.ret (.str "count")) (mCons (DL.ret (.int 2)) mNil))) mNil)))))) (mSeq (mSet 9 (mBin ixD (mBin addD (getS 9) (mLst (mCons (mTup (mCons (DL.ret (.str "pair")) (mCons (mTup (mCons (DL.ret (.str "count")) (mCons (DL.ret (.int 5)) mNil))) (mCons (mTup (mCons (DL.ret (.str "count")) (mCons (DL.ret (.int 5)) mNil))) mNil)))) mNil))) (mCall 2 (G .f__law_pick) (mCons (getS 1) (mCons (DL.ret (.int 5)) mNil))))) (mSeq (mSet 10 (mIte (mAnd (mBinT (isN true) (getS 9) (DL.ret .non)) (mAnd (mBinT eqD (mBin ixD (getS 9) (DL.ret (.int 0))) (DL.ret (.str "pair"))) (mBinT eqD (mBin ixD (mBin ixD (getS 9) (DL.ret (.int 2))) (DL.ret (.int 0))) (DL.ret (.str "lot"))))) (mTup (mCons (DL.ret (.int 2)) mNil)) (mTup mNil))) (mSeq (bnd (nLst (mCons (mTold2 (.ref Ca.a_BadValue) (.ref Ca.a_BadType) "fine" "value" "path" "kind" "path" (mCall 2 (Gl .f_place_of) (mCons (getS 9) (mCons (DL.ret .non) mNil)))) mNil)) fun ds => setN 11 ds) (mSeq (mDrop (mMeth 11 (mCons (mTold2 (.ref Ca.a_BadValue) (.ref Ca.a_BadType) "fine" "value" "path" "kind" "path" (mCall 2 (Gl .f_value_at) (mCons (getS 9) (mCons (DL.ret (.int 0)) mNil)))) mNil) appendD)) (mSeq (mDrop (mMeth 11 (mCons (mTold2 (.ref Ca.a_BadValue) (.ref Ca.a_BadType) "fine" "value" "path" "kind" "path" (mCall 2 (Gl .f_is_value) (mCons (getS 9) (mCons (DL.ret (.int 0)) mNil)))) mNil) appendD)) (mSeq (mDrop (mMeth 11 (mCons (mTold2 (.ref Ca.a_BadValue) (.ref Ca.a_BadType) "fine" "value" "path" "kind" "path" (mCall 1 (Gl .f_values_of) (mCons (getS 9) mNil))) mNil) appendD)) (mIte (mBinT neD (getS 11) (mBin mulD (mLst (mCons (mTup (mCons (DL.ret (.str "kind")) (mCons (getS 10) mNil))) mNil)) (DL.ret (.int 4)))) (mRet (DL.ret (.bl false))) (DL.ret .nx))))))))))))))
def Inv (sa ca : Addr) (ρ : Rho) (w : Wo) : Prop := ∃ (z0 z2 z3 z4 z5 z6 z7 z8 z9 z10 z11 z12 z13 z14 z15 : Slot) (s : Src), ρ = [z0, .val (.raw (.ref sa)), z2, z3, z4, z5, z6, z7, z8, z9, z10, z11, z12, z13, z14, z15] ∧ w = some s ∧ Sok sa ca s
def InvT (sa ca : Addr) (t : Th) (ρ : Rho) (w : Wo) : Prop := ∃ (z0 z2 z5 z6 z7 z8 z9 z10 z11 z12 z13 z14 z15 : Slot) (s : Src), ρ = [z0, .val (.raw (.ref sa)), z2, .val t.d, .val (.lst t.vals), z5, z6, z7, z8, z9, z10, z11, z12, z13, z14, z15] ∧ w = some s ∧ Sok sa ca s
theorem one_run (ne : Ca.a_BadType ≠ Ca.a_BadValue) (sa ca : Addr) (ρ : Rho) (w : Wo) (h : Inv sa ca ρ w) : ∃ ρ' w', oneM (G 57) (GL 57) ρ w = some (.ok .nx ρ' w') ∧ Inv sa ca ρ' w' := by
  obtain ⟨z0, z2, z3, z4, z5, z6, z7, z8, z9, z10, z11, z12, z13, z14, z15, s, rfl, rfl, hs⟩ := h
  let A : Slot := .val (.raw (.ref sa))
  obtain ⟨d, s1, hs1, ⟨t, et, sm⟩, e1⟩ := small_Sm sa ca 58 (by decide) s hs
  subst et
  have e1 : GL 57 .f__law_small_type [.raw (.ref sa)] (some s) = some (.ok t.d (some s1)) := e1
  have d3 := sm.deep
  have nm := sm.num
  have lv : GL 57 .f__law_values [t.d] (some s1) = some (.ok (.lst t.vals) (some s1)) := lawVals (some s1) t sm.ok sm.right (by omega) 59 (by omega)
  let ρ0 : Rho := [z0, A, z2, z3, z4, z5, z6, z7, z8, z9, z10, z11, z12, z13, z14, z15]
  let ρ1 : Rho := [z0, A, z2, .val t.d, z4, z5, z6, z7, z8, z9, z10, z11, z12, z13, z14, z15]
  let ρ2 : Rho := [z0, A, z2, .val t.d, .val (.lst t.vals), z5, z6, z7, z8, z9, z10, z11, z12, z13, z14, z15]
  show oneM (G 57) (GL 57) ρ0 (some s) |> fun q => ∃ ρ' w', q = some (.ok .nx ρ' w') ∧ Inv sa ca ρ' w'
  obtain ⟨ρ3, w3, l1, i1⟩ := for_inv (bd := bName 5) (mb := againB (G 57) (GL 57)) (I := InvT sa ca t) (rgs 0 2) (fun d _ ρ w hI => by
    obtain ⟨z0, z2, z5, z6, z7, z8, z9, z10, z11, z12, z13, z14, z15, s, rfl, rfl, hs⟩ := hI
    exact ⟨_, _, _, rfl, .inl (again_run sm z0 _ z2 (.val d) z6 z7 z8 z9 z10 z11 z12 z13 z14 z15 (some s)), z0, z2, .val d, z6, z7, z8, z9, z10, z11, .own [], z13, z14, z15, s, rfl, rfl, hs⟩) ρ2 (some s1) ⟨z0, z2, z5, z6, z7, z8, z9, z10, z11, z12, z13, z14, z15, s1, rfl, rfl, hs1⟩
  obtain ⟨ρ4, w4, l2, i2⟩ := for_inv (bd := bTup 2 (bCons (bName 6) (bCons (bName 7) bNil))) (mb := eachB (G 57) (GL 57)) (I := InvT sa ca t) (enumFrom' 0 t.vals) (fun d hd ρ w hI => by
    obtain ⟨z0, z2, z5, z6, z7, z8, z9, z10, z11, z12, z13, z14, z15, s, rfl, rfl, hs⟩ := hI
    obtain ⟨j, v, ed, ev⟩ := enum_mem t.vals 0 d hd
    rw [Nat.zero_add] at ed
    subst ed
    exact ⟨_, _, _, rfl, .inl (each_run sm ev z0 _ z2 z5 z8 z9 z10 z11 z12 z13 z14 z15 (some s)), z0, z2, z5, .val (.int (j : Nat)), .val v, z8, z9, z10, z11, z12, z13, z14, z15, s, rfl, rfl, hs⟩) ρ3 w3 i1
  obtain ⟨ρ5, w5, l3, i3⟩ := for_inv (bd := bName 8) (mb := oddB (G 57) (GL 57)) (I := InvT sa ca t) (rgs 0 4) (fun d _ ρ w hI => by
    obtain ⟨z0, z2, z5, z6, z7, z8, z9, z10, z11, z12, z13, z14, z15, s, rfl, rfl, hs⟩ := hI
    obtain ⟨s', y10, y13, y14, y15, hs', e⟩ := odd_run sm z0 z2 z5 z6 z7 (.val d) z9 z10 z11 z12 z13 z14 z15 hs
    exact ⟨_, _, _, rfl, .inl e, z0, z2, z5, z6, z7, .val d, z9, y10, z11, z12, y13, y14, y15, s', rfl, rfl, hs'⟩) ρ4 w4 i2
  obtain ⟨y0, y2, y5, y6, y7, y8, y9, y10, y11, y12, y13, y14, y15, z, rfl, rfl, hz⟩ := i3
  obtain ⟨k, z', hz', hk, e5⟩ := int_pick (pickG sa ca 58) 5 (by decide) (by decide) hz
  have e5 : GL 57 .f__law_pick [.raw (.ref sa), .int 5] (some z) = some (.ok (.int (k : Nat)) (some z')) := e5
  have hl : odd5.length = 5 := rfl
  have g : odd5[k]? = some odd5[k] := List.getElem?_eq_getElem (by omega)
  obtain ⟨p, np⟩ := odd5_no odd5[k] (List.getElem_mem _)
  let ρ6 : Rho := [y0, A, y2, .val t.d, .val (.lst t.vals), y5, y6, y7, y8, y9, y10, y11, y12, y13, y14, y15]
  let ρ7 : Rho := [y0, A, y2, .val t.d, .val (.lst t.vals), y5, y6, y7, y8, .val (.lst (odd5.take 4)), y10, y11, y12, y13, y14, y15]
  let ρ8 : Rho := [y0, A, y2, .val t.d, .val (.lst t.vals), y5, y6, y7, y8, .val odd5[k], y10, y11, y12, y13, y14, y15]
  have a1 : (mSet 9 (mLst (mCons (DL.ret .non) (mCons (mTup (mCons (DL.ret (.str "count")) (mCons (DL.ret (.int 1)) mNil))) (mCons (mTup (mCons (DL.ret (.str "pair")) (mCons (mTup (mCons (DL.ret (.str "count")) (mCons (DL.ret (.int 2)) mNil))) (mCons (mTup (mCons (DL.ret (.str "lot")) (mCons (mTup (mCons (DL.ret (.str "a")) mNil)) mNil))) mNil)))) (mCons (mLst (mCons (DL.ret (.str "count")) (mCons (DL.ret (.int 2)) mNil))) mNil)))))) ρ6 (some z) = some (.ok .nx ρ7 (some z)) := by kernel_rfl
  have a2 : (mSet 9 (mBin ixD (mBin addD (getS 9) (mLst (mCons (mTup (mCons (DL.ret (.str "pair")) (mCons (mTup (mCons (DL.ret (.str "count")) (mCons (DL.ret (.int 5)) mNil))) (mCons (mTup (mCons (DL.ret (.str "count")) (mCons (DL.ret (.int 5)) mNil))) mNil)))) mNil))) (mCall 2 (GL 57 .f__law_pick) (mCons (getS 1) (mCons (DL.ret (.int 5)) mNil))))) ρ7 (some z) = some (.ok .nx ρ8 (some z')) :=
    set_ok (i := 9) (ρ1 := ρ7) (bin_ok (a := .lst odd5) (b := .int (k : Nat)) (ρ1 := ρ7) (w1 := some z) (by kernel_rfl) (call2 (a := .raw (.ref sa)) (b := .int 5) (ρ1 := ρ7) (ρ2 := ρ7) (w1 := some z) (w2 := some z) rfl rfl e5) (atI_nat g))
  obtain ⟨q11, rr⟩ := rest_run ne np y0 A y2 (.val t.d) (.val (.lst t.vals)) y5 y6 y7 y8 y10 y11 y12 y13 y14 y15 (some z')
  refine ⟨_, _, ?_, ⟨y0, y2, .val t.d, .val (.lst t.vals), y5, y6, y7, y8, .val odd5[k], .val (pathD p), q11, y12, y13, y14, y15, z', rfl, rfl, hz'⟩⟩
  have f1 : mFor (bnd (mCons (DL.ret (.int 2)) mNil) fun ds => lft (rng1 ds)) (bName 5) (againB (G 57) (GL 57)) ρ2 (some s1) = some (.ok .nx ρ3 w3) := l1
  have f2 : mFor (bnd (mCons (getS 4) mNil) fun ds => lft (enumD ds)) (bTup 2 (bCons (bName 6) (bCons (bName 7) bNil))) (eachB (G 57) (GL 57)) ρ3 w3 = some (.ok .nx ρ4 w4) := by
    obtain ⟨z0, z2, z5, z6, z7, z8, z9, z10, z11, z12, z13, z14, z15, s, rfl, rfl, hs⟩ := i1
    exact l2
  have f3 : mFor (bnd (mCons (DL.ret (.int 4)) mNil) fun ds => lft (rng1 ds)) (bName 8) (oddB (G 57) (GL 57)) ρ4 w4 = some (.ok .nx ρ6 (some z)) := l3
  show mSeq (mSet 3 (mCall 1 (GL 57 .f__law_small_type) (mCons (getS 1) mNil))) (mSeq (mSet 4 (mCall 1 (GL 57 .f__law_values) (mCons (getS 3) mNil))) (mSeq (mFor (bnd (mCons (DL.ret (.int 2)) mNil) fun ds => lft (rng1 ds)) (bName 5) (againB (G 57) (GL 57))) (mSeq (mFor (bnd (mCons (getS 4) mNil) fun ds => lft (enumD ds)) (bTup 2 (bCons (bName 6) (bCons (bName 7) bNil))) (eachB (G 57) (GL 57))) (mSeq (mFor (bnd (mCons (DL.ret (.int 4)) mNil) fun ds => lft (rng1 ds)) (bName 8) (oddB (G 57) (GL 57))) (mSeq (mSet 9 (mLst (mCons (DL.ret .non) (mCons (mTup (mCons (DL.ret (.str "count")) (mCons (DL.ret (.int 1)) mNil))) (mCons (mTup (mCons (DL.ret (.str "pair")) (mCons (mTup (mCons (DL.ret (.str "count")) (mCons (DL.ret (.int 2)) mNil))) (mCons (mTup (mCons (DL.ret (.str "lot")) (mCons (mTup (mCons (DL.ret (.str "a")) mNil)) mNil))) mNil)))) (mCons (mLst (mCons (DL.ret (.str "count")) (mCons (DL.ret (.int 2)) mNil))) mNil)))))) (mSeq (mSet 9 (mBin ixD (mBin addD (getS 9) (mLst (mCons (mTup (mCons (DL.ret (.str "pair")) (mCons (mTup (mCons (DL.ret (.str "count")) (mCons (DL.ret (.int 5)) mNil))) (mCons (mTup (mCons (DL.ret (.str "count")) (mCons (DL.ret (.int 5)) mNil))) mNil)))) mNil))) (mCall 2 (GL 57 .f__law_pick) (mCons (getS 1) (mCons (DL.ret (.int 5)) mNil))))) (restM (G 57) (GL 57)))))))) ρ0 (some s) = _
  rw [seq_nx (ρ' := ρ1) (w' := some s1) (set_ok (i := 3) (ρ1 := ρ0) (call1 (a := .raw (.ref sa)) (ρ1 := ρ0) (w1 := some s) rfl e1))]
  rw [seq_nx (ρ' := ρ2) (w' := some s1) (set_ok (i := 4) (ρ1 := ρ1) (call1 (a := t.d) (ρ1 := ρ1) (w1 := some s1) rfl lv))]
  rw [seq_nx f1, seq_nx f2, seq_nx f3, seq_nx a1, seq_nx a2]
  exact rr
theorem told : Ca.a_BadType ≠ Ca.a_BadValue → DL.Told N_law.length 1 (m_law (G 57) (GL 57)) := fun ne sa ca cells hne hl => by
  have hs : Sok sa ca (src0 sa ca cells) := ⟨rfl, rfl, by
    show ((cells.map absI).reverse).length ≤ 63
    rw [List.length_reverse, List.length_map]
    exact hl⟩
  let A : Slot := .val (.raw (.ref sa))
  let w : Wo := some (src0 sa ca cells)
  let ρ : Rho := [.free, A, .free, .free, .free, .free, .free, .free, .free, .free, .free, .free, .free, .free, .free, .free]
  obtain ⟨ρ', w', e, hi⟩ := for_inv (bd := bName 2) (mb := oneM (G 57) (GL 57)) (I := Inv sa ca) (rgs 0 8) (fun d _ ρ w hI => by
    obtain ⟨z0, z2, z3, z4, z5, z6, z7, z8, z9, z10, z11, z12, z13, z14, z15, s, rfl, rfl, hs⟩ := hI
    obtain ⟨ρ', w', e, h⟩ := one_run ne sa ca [z0, .val (.raw (.ref sa)), .val d, z3, z4, z5, z6, z7, z8, z9, z10, z11, z12, z13, z14, z15] (some s) ⟨z0, .val d, z3, z4, z5, z6, z7, z8, z9, z10, z11, z12, z13, z14, z15, s, rfl, rfl, hs⟩
    exact ⟨_, ρ', w', rfl, .inl e, h⟩) ρ w ⟨.free, .free, .free, .free, .free, .free, .free, .free, .free, .free, .free, .free, .free, .free, .free, _, rfl, rfl, hs⟩
  refine ⟨ρ', w', ?_⟩
  show m_law (G 57) (GL 57) ρ w = _
  unfold m_law
  have f : mFor (bnd (mCons (DL.ret (.int 8)) mNil) fun ds => lft (rng1 ds)) (bName 2) (oneM (G 57) (GL 57)) ρ w = some (.ok .nx ρ' w') := e
  exact (seq_nx f).trans rfl
end KX
open PySem PySem.W
      PyProof.Rows
set_option maxHeartbeats 0 in
theorem PySem.Challenge.cw_tickworks_k02_values_and_places_holds : PySem.Challenge.rw_tickworks_k02_values_and_places.Holds := by
  w_on; o_law; k_head; (case
        hw => w_witness2)
  k_fill
  refine @DL.walk_atT ⟨[]⟩ PySem.Challenge.rw_tickworks_k02_values_and_places 63 _ _ _ _ _ _ rfl (by decide) rfl (fun w h Y => PySem.W.km_in_of Y) ?F
  case F =>
    intro w mg fa h Y XK G hmg
    haveI t0 : DL.Tbs := ⟨[]⟩
    have hT := PySem.W.km_tabs_of Y
    refine' KX.fin2 (n := 57) XK ?C ?xIBadType ?xfBadType ?xIBadValue ?xfBadValue ?hxBadType ?hxBadValue ?hyBadTypeBadValue ?Dp_law_told ?Dlaw ?hdlaw ?hnlaw ?hplaw  hmg ⟨rfl, by decide, by decide⟩ (fun {t} {c} => @KX.told t c)
    case xIBadType =>
      refine' DL.errI_mk XK G ?aC ?xL ?rb ?sa ?eC ?tC ?kC ?nb ?a1 ?t1 ?l1 ?c1 ?sf ?l2 ?f2 ?hf ?l3 ?up ?sV ?mr ?op ?ns ?tp ?n1 ?n2 ?n3 ?n4 ?S ?d1 ?d2 ?e1 ?e2 ?hb
      (case aC => k_is)
      (case xL => k_is)
      (case rb => decide +kernel)
      (case sa => k_is)
      (case eC => k_is)
      (case tC => k_is)
      (case kC => k_is)
      (case nb => k_is)
      (case a1 => k_is)
      (case t1 => k_is)
      (case l1 => k_is)
      (case c1 => k_is)
      (case sf => exact ⟨_, rfl, rfl⟩)
      (case l2 => k_is)
      (case f2 => rfl)
      (case hf => decide +kernel)
      (case l3 => first | k_is | kernel_rfl)
      (case up => first | k_is | kernel_rfl)
      (case sV => first | k_is | kernel_rfl)
      (case mr => first | k_is | kernel_rfl)
      (case op => first | k_is | kernel_rfl)
      (case ns => first | k_is | kernel_rfl)
      (case tp => decide +kernel)
      (case n1 => rfl)
      (case n2 => rfl)
      (case n3 => rfl)
      (case n4 => rfl)
      (case S => decide +kernel)
      (case d1 => decide)
      (case d2 => decide)
      (case e1 => exact fun L => ⟨rfl, rfl, rfl⟩)
      (case e2 => exact fun L => rfl)
      (case hb => exact fun us hl => match us, hl with | [_, _], _ => rfl)
    case xfBadType => exact L2.xfB_ok (by kernel_rfl)
    case xIBadValue =>
      refine' DL.errI_mk XK G ?aC ?xL ?rb ?sa ?eC ?tC ?kC ?nb ?a1 ?t1 ?l1 ?c1 ?sf ?l2 ?f2 ?hf ?l3 ?up ?sV ?mr ?op ?ns ?tp ?n1 ?n2 ?n3 ?n4 ?S ?d1 ?d2 ?e1 ?e2 ?hb
      (case aC => k_is)
      (case xL => k_is)
      (case rb => decide +kernel)
      (case sa => k_is)
      (case eC => k_is)
      (case tC => k_is)
      (case kC => k_is)
      (case nb => k_is)
      (case a1 => k_is)
      (case t1 => k_is)
      (case l1 => k_is)
      (case c1 => k_is)
      (case sf => exact ⟨_, rfl, rfl⟩)
      (case l2 => k_is)
      (case f2 => rfl)
      (case hf => decide +kernel)
      (case l3 => first | k_is | kernel_rfl)
      (case up => first | k_is | kernel_rfl)
      (case sV => first | k_is | kernel_rfl)
      (case mr => first | k_is | kernel_rfl)
      (case op => first | k_is | kernel_rfl)
      (case ns => first | k_is | kernel_rfl)
      (case tp => decide +kernel)
      (case n1 => rfl)
      (case n2 => rfl)
      (case n3 => rfl)
      (case n4 => rfl)
      (case S => decide +kernel)
      (case d1 => decide)
      (case d2 => decide)
      (case e1 => exact fun L => ⟨rfl, rfl, rfl⟩)
      (case e2 => exact fun L => rfl)
      (case hb => exact fun us hl => match us, hl with | [_, _], _ => rfl)
    case xfBadValue => exact L2.xfB_ok (by kernel_rfl)
    case hxBadType => first | k_is | kernel_rfl
    case hxBadValue => first | k_is | kernel_rfl
    case hyBadTypeBadValue => first | k_is | kernel_rfl
    case Dp_law_told =>
      refine' DL.df_mk XK G ?a ?l ?c ?k ?b
      (case a => k_is)
      (case l => k_is)
      (case c => k_is)
      (case k => k_is)
      (case b => exact fun F => F.binds (ps := ["_law_act"]) fun _ _ _ _ _ _ us hl => match us, hl with | [_], _ => rfl)
    case Dlaw =>
      refine' DL.dfc_mk XK G ?a ?l ?c ?k ?b
      (case a => k_is)
      (case l => k_is)
      (case c => k_is)
      (case k => k_is)
      (case b => exact fun F => F.binds (ps := ["_law_script"]) fun _ _ _ _ _ _ us hl => match us, hl with | [_], _ => rfl)
    case hdlaw => exact DL.codeHd_by (by k_is) (by rfl) (by kernel_rfl)
    case hnlaw => first | kernel_rfl | rfl
    case hplaw => exact hT _ (by simp)
    case C =>
      refine ⟨?_, ?_, ?_, ?_, ?_, ?_, ?_, ?_, ?_, ?_, ?_, ?_, ?_, ?_, ?_, ?_, ?_, ?_, ?_, ?_, ?_, ?_, ?_, ?_, ?_, ?_, ?_, ?_, ?_, ?_, ?_, ?_, ?_, ?_, ?_, ?_, ?_, ?_, ?_, ?_, ?_, ?_, ?_, ?_, ?_, ?_, ?_, ?_, ?_, ?_⟩
      · exact PySem.W.mg_none_of XK G (by k_is)
      · exact PySem.W.mg_none_of XK G (by k_is)
      · exact PySem.W.mg_none_of XK G (by k_is)
      · exact PySem.W.mg_none_of XK G (by k_is)
      · exact PySem.W.mg_none_of XK G (by k_is)
      · exact PySem.W.mg_none_of XK G (by k_is)
      · exact PySem.W.mg_none_of XK G (by k_is)
      · exact PySem.W.mg_none_of XK G (by k_is)
      · exact PySem.W.mg_none_of XK G (by k_is)
      · exact PySem.W.mg_none_of XK G (by k_is)
      · exact PySem.W.mg_none_of XK G (by k_is)
      · exact PySem.W.mg_none_of XK G (by k_is)
      · exact PySem.W.mg_none_of XK G (by k_is)
      · refine' DL.cg_mk XK G ?a1 ?r1
        (case a1 => k_is)
        case r1 =>
          exact DL.crp_int
      · refine' DL.cg_mk XK G ?a2 ?r2
        (case a2 => k_is)
        case r2 =>
          exact DL.crp_int
      · refine' DL.cg_mk XK G ?a3 ?r3
        (case a3 => k_is)
        case r3 =>
          exact DL.crp_int
      · refine' DL.df_mk XK G ?a4 ?l4 ?c4 ?k4 ?b4
        (case a4 => k_is)
        (case l4 => k_is)
        (case c4 => k_is)
        (case k4 => k_is)
        case b4 =>
          exact fun F => F.binds (ps := ["value"]) fun _ _ _ _ _ _ us hl => match us, hl with | [_], _ => rfl
      · refine' DL.df_mk XK G ?a5 ?l5 ?c5 ?k5 ?b5
        (case a5 => k_is)
        (case l5 => k_is)
        (case c5 => k_is)
        (case k5 => k_is)
        case b5 =>
          exact fun F => F.binds (ps := ["sign"]) fun _ _ _ _ _ _ us hl => match us, hl with | [_], _ => rfl
      · refine' DL.df_mk XK G ?a6 ?l6 ?c6 ?k6 ?b6
        (case a6 => k_is)
        (case l6 => k_is)
        (case c6 => k_is)
        (case k6 => k_is)
        case b6 =>
          exact fun F => F.binds (ps := ["value"]) fun _ _ _ _ _ _ us hl => match us, hl with | [_], _ => rfl
      · refine' DL.df_mk XK G ?a7 ?l7 ?c7 ?k7 ?b7
        (case a7 => k_is)
        (case l7 => k_is)
        (case c7 => k_is)
        (case k7 => k_is)
        case b7 =>
          exact fun F => F.binds (ps := ["value"]) fun _ _ _ _ _ _ us hl => match us, hl with | [_], _ => rfl
      · refine' DL.df_mk XK G ?a8 ?l8 ?c8 ?k8 ?b8
        (case a8 => k_is)
        (case l8 => k_is)
        (case c8 => k_is)
        (case k8 => k_is)
        case b8 =>
          exact fun F => F.binds (ps := ["value", "least", "most"]) fun _ _ _ _ _ _ us hl => match us, hl with | [_, _, _], _ => rfl
      · refine' DL.df_mk XK G ?a9 ?l9 ?c9 ?k9 ?b9
        (case a9 => k_is)
        (case l9 => k_is)
        (case c9 => k_is)
        (case k9 => k_is)
        case b9 =>
          exact fun F => F.binds (ps := ["values"]) fun _ _ _ _ _ _ us hl => match us, hl with | [_], _ => rfl
      · refine' DL.df_mk XK G ?a10 ?l10 ?c10 ?k10 ?b10
        (case a10 => k_is)
        (case l10 => k_is)
        (case c10 => k_is)
        (case k10 => k_is)
        case b10 =>
          exact fun F => F.binds (ps := ["value"]) fun _ _ _ _ _ _ us hl => match us, hl with | [_], _ => rfl
      · refine' DL.df_mk XK G ?a11 ?l11 ?c11 ?k11 ?b11
        (case a11 => k_is)
        (case l11 => k_is)
        (case c11 => k_is)
        (case k11 => k_is)
        case b11 =>
          exact fun F => F.binds (ps := ["value"]) fun _ _ _ _ _ _ us hl => match us, hl with | [_], _ => rfl
      · refine' DL.df_mk XK G ?a12 ?l12 ?c12 ?k12 ?b12
        (case a12 => k_is)
        (case l12 => k_is)
        (case c12 => k_is)
        (case k12 => k_is)
        case b12 =>
          exact fun F => F.binds (ps := ["value", "path"]) fun _ _ _ _ _ _ us hl => match us, hl with | [_, _], _ => rfl
      · refine' DL.df_mk XK G ?a13 ?l13 ?c13 ?k13 ?b13
        (case a13 => k_is)
        (case l13 => k_is)
        (case c13 => k_is)
        (case k13 => k_is)
        case b13 =>
          exact fun F => F.binds (ps := ["kind"]) fun _ _ _ _ _ _ us hl => match us, hl with | [_], _ => rfl
      · refine' DL.df_mk XK G ?a14 ?l14 ?c14 ?k14 ?b14
        (case a14 => k_is)
        (case l14 => k_is)
        (case c14 => k_is)
        (case k14 => k_is)
        case b14 =>
          exact fun F => F.binds (ps := ["kind"]) fun _ _ _ _ _ _ us hl => match us, hl with | [_], _ => rfl
      · refine' DL.df_mk XK G ?a15 ?l15 ?c15 ?k15 ?b15
        (case a15 => k_is)
        (case l15 => k_is)
        (case c15 => k_is)
        (case k15 => k_is)
        case b15 =>
          exact fun F => F.binds (ps := ["value"]) fun _ _ _ _ _ _ us hl => match us, hl with | [_], _ => rfl
      · refine' DL.df_mk XK G ?a16 ?l16 ?c16 ?k16 ?b16
        (case a16 => k_is)
        (case l16 => k_is)
        (case c16 => k_is)
        (case k16 => k_is)
        case b16 =>
          exact fun F => F.binds (ps := ["value"]) fun _ _ _ _ _ _ us hl => match us, hl with | [_], _ => rfl
      · refine' DL.df_mk XK G ?a17 ?l17 ?c17 ?k17 ?b17
        (case a17 => k_is)
        (case l17 => k_is)
        (case c17 => k_is)
        (case k17 => k_is)
        case b17 =>
          exact fun F => F.binds (ps := ["kind"]) fun _ _ _ _ _ _ us hl => match us, hl with | [_], _ => rfl
      · refine' DL.df_mk XK G ?a18 ?l18 ?c18 ?k18 ?b18
        (case a18 => k_is)
        (case l18 => k_is)
        (case c18 => k_is)
        (case k18 => k_is)
        case b18 =>
          exact fun F => F.binds (ps := ["kind", "value", "path"]) fun _ _ _ _ _ _ us hl => match us, hl with | [_, _, _], _ => rfl
      · refine' DL.df_mk XK G ?a19 ?l19 ?c19 ?k19 ?b19
        (case a19 => k_is)
        (case l19 => k_is)
        (case c19 => k_is)
        (case k19 => k_is)
        case b19 =>
          exact fun F => F.binds (ps := ["kind", "value"]) fun _ _ _ _ _ _ us hl => match us, hl with | [_, _], _ => rfl
      · refine' DL.df_mk XK G ?a20 ?l20 ?c20 ?k20 ?b20
        (case a20 => k_is)
        (case l20 => k_is)
        (case c20 => k_is)
        (case k20 => k_is)
        case b20 =>
          exact fun F => F.binds (ps := ["kind", "value"]) fun _ _ _ _ _ _ us hl => match us, hl with | [_, _], _ => rfl
      · refine' DL.df_mk XK G ?a21 ?l21 ?c21 ?k21 ?b21
        (case a21 => k_is)
        (case l21 => k_is)
        (case c21 => k_is)
        (case k21 => k_is)
        case b21 =>
          exact fun F => F.binds (ps := ["kind"]) fun _ _ _ _ _ _ us hl => match us, hl with | [_], _ => rfl
      · refine' DL.df_mk XK G ?a22 ?l22 ?c22 ?k22 ?b22
        (case a22 => k_is)
        (case l22 => k_is)
        (case c22 => k_is)
        (case k22 => k_is)
        case b22 =>
          exact fun F => F.binds (ps := ["kind"]) fun _ _ _ _ _ _ us hl => match us, hl with | [_], _ => rfl
      · refine' DL.df_mk XK G ?a23 ?l23 ?c23 ?k23 ?b23
        (case a23 => k_is)
        (case l23 => k_is)
        (case c23 => k_is)
        (case k23 => k_is)
        case b23 =>
          exact fun F => F.binds (ps := ["kind", "place"]) fun _ _ _ _ _ _ us hl => match us, hl with | [_, _], _ => rfl
      · refine' DL.df_mk XK G ?a24 ?l24 ?c24 ?k24 ?b24
        (case a24 => k_is)
        (case l24 => k_is)
        (case c24 => k_is)
        (case k24 => k_is)
        case b24 =>
          exact fun F => F.binds (ps := ["kind", "value"]) fun _ _ _ _ _ _ us hl => match us, hl with | [_, _], _ => rfl
      · refine' DL.df_mk XK G ?a25 ?l25 ?c25 ?k25 ?b25
        (case a25 => k_is)
        (case l25 => k_is)
        (case c25 => k_is)
        (case k25 => k_is)
        case b25 =>
          exact fun F => F.binds (ps := ["kind", "value"]) fun _ _ _ _ _ _ us hl => match us, hl with | [_, _], _ => rfl
      · refine' DL.df_mk XK G ?a26 ?l26 ?c26 ?k26 ?b26
        (case a26 => k_is)
        (case l26 => k_is)
        (case c26 => k_is)
        (case k26 => k_is)
        case b26 =>
          exact fun F => F.binds (ps := ["_law_source", "_law_most"]) fun _ _ _ _ _ _ us hl => match us, hl with | [_, _], _ => rfl
      · refine' DL.df_mk XK G ?a27 ?l27 ?c27 ?k27 ?b27
        (case a27 => k_is)
        (case l27 => k_is)
        (case c27 => k_is)
        (case k27 => k_is)
        case b27 =>
          exact fun F => F.binds (ps := ["_law_source", "_law_things"]) fun _ _ _ _ _ _ us hl => match us, hl with | [_, _], _ => rfl
      · refine' DL.df_mk XK G ?a28 ?l28 ?c28 ?k28 ?b28
        (case a28 => k_is)
        (case l28 => k_is)
        (case c28 => k_is)
        (case k28 => k_is)
        case b28 =>
          exact fun F => F.binds (ps := ["_law_type_here"]) fun _ _ _ _ _ _ us hl => match us, hl with | [_], _ => rfl
      · refine' DL.df_mk XK G ?a29 ?l29 ?c29 ?k29 ?b29
        (case a29 => k_is)
        (case l29 => k_is)
        (case c29 => k_is)
        (case k29 => k_is)
        case b29 =>
          exact fun F => F.binds (ps := ["_law_source", "_law_deep"]) fun _ _ _ _ _ _ us hl => match us, hl with | [_, _], _ => rfl
      · refine' DL.df_mk XK G ?a30 ?l30 ?c30 ?k30 ?b30
        (case a30 => k_is)
        (case l30 => k_is)
        (case c30 => k_is)
        (case k30 => k_is)
        case b30 =>
          exact fun F => F.binds (ps := ["_law_type_here"]) fun _ _ _ _ _ _ us hl => match us, hl with | [_], _ => rfl
      · refine' DL.df_mk XK G ?a31 ?l31 ?c31 ?k31 ?b31
        (case a31 => k_is)
        (case l31 => k_is)
        (case c31 => k_is)
        (case k31 => k_is)
        case b31 =>
          exact fun F => F.binds (ps := ["_law_source"]) fun _ _ _ _ _ _ us hl => match us, hl with | [_], _ => rfl
      · refine' DL.df_mk XK G ?a32 ?l32 ?c32 ?k32 ?b32
        (case a32 => k_is)
        (case l32 => k_is)
        (case c32 => k_is)
        (case k32 => k_is)
        case b32 =>
          exact fun F => F.binds (ps := ["_law_type_here", "_law_value"]) fun _ _ _ _ _ _ us hl => match us, hl with | [_, _], _ => rfl
      · refine' DL.df_mk XK G ?a33 ?l33 ?c33 ?k33 ?b33
        (case a33 => k_is)
        (case l33 => k_is)
        (case c33 => k_is)
        (case k33 => k_is)
        case b33 =>
          exact fun F => F.binds (ps := ["_law_source", "_law_type_here", "_law_value"]) fun _ _ _ _ _ _ us hl => match us, hl with | [_, _, _], _ => rfl
      · refine' DL.df_mk XK G ?a34 ?l34 ?c34 ?k34 ?b34
        (case a34 => k_is)
        (case l34 => k_is)
        (case c34 => k_is)
        (case k34 => k_is)
        case b34 =>
          exact fun F => F.binds (ps := ["_law_act"]) fun _ _ _ _ _ _ us hl => match us, hl with | [_], _ => rfl
      · refine' DL.df_mk XK G ?a35 ?l35 ?c35 ?k35 ?b35
        (case a35 => k_is)
        (case l35 => k_is)
        (case c35 => k_is)
        (case k35 => k_is)
        case b35 =>
          exact fun F => F.binds (ps := ["_law_script"]) fun _ _ _ _ _ _ us hl => match us, hl with | [_], _ => rfl
      · refine' DL.df_mk XK G ?a36 ?l36 ?c36 ?k36 ?b36
        (case a36 => k_is)
        (case l36 => k_is)
        (case c36 => k_is)
        (case k36 => k_is)
        case b36 =>
          exact fun F => F.binds (ps := ["_law_script"]) fun _ _ _ _ _ _ us hl => match us, hl with | [_], _ => rfl
      · exact fun y f e => PySem.W.mg_of XK G e
